import PyProof.Rows.All
import Wide.All
import OpenK.AllK
import Wide.FinOn
import Lean
import PyProof.EqAt
import PyProof.EqKinds
import PyProof.TupleCall
import PyProof.Rows.StrCountLaw
import PyProof.Rows.StrFirst
import PyProof.Rows.StrLast
import PyProof.Rows.StrNews2
import PyProof.Rows.StrSplitCount
import PyProof.StrBlockI
import PyProof.StrLawsIn
import PyProof.StrLawsLast
import PyProof.EnumMake
import PyProof.FString
import PyProof.ReprStr
import PyProof.StrLawsRepr
import PyProof.ListStr
import PySem.Challenge.RW_grooveway_k32_closed_parts
set_option Elab.async false
set_option linter.all false
set_option maxRecDepth 100000
set_option maxHeartbeats 4000000
namespace L2
open PySem PySem.Spec PyProof.Rows
abbrev Key := Sum Int Str
def Vi : Key -> Value -> Bool
 | .inl k, v => Value.isInt k v
 | .inr x, v => Value.isStrOf x v
def Zhw (w : World) : Key -> Int
 | .inl k => hashInt k
 | .inr x => hashStr w x
theorem Xe : ∀ {k : Key} {v : Value}, Vi k v = true -> (∃ i t, k = Sum.inl i /\ v = Value.int i t) \/ (∃ x t, k = Sum.inr x /\ v = Value.str x t)
 | .inl i, v, h => by
  obtain ⟨t, e⟩ := Value.isInt_shape (k := i) (v := v) h
  exact .inl ⟨i, t, rfl, e⟩
 | .inr x, v, h => by
  obtain ⟨t, e⟩ := Value.isStrOf_shape (x := x) (v := v) h
  exact .inr ⟨x, t, rfl, e⟩
theorem Zck (i : Int) (t : Tok) : Vi (.inl i) (.int i t) = true := by simp [Vi, Value.isInt]
theorem Zcl (x : Str) (t : Tok) : Vi (.inr x) (.str x t) = true := by simp [Vi, Value.isStrOf]
theorem Zfw (a b : Int) : decide ((Sum.inl a : Key) = Sum.inl b) = (a == b) := by
 by_cases e : a = b
 · subst e; simp
 · have h : ¬ (Sum.inl a : Key) = Sum.inl b := fun q => e (Sum.inl.inj q)
   rw [decide_eq_false h]
   exact (beq_eq_false_iff_ne.mpr e).symm
theorem Zfx (a b : Str) : decide ((Sum.inr a : Key) = Sum.inr b) = decide (a = b) := by
 by_cases e : a = b
 · subst e; simp
 · have h : ¬ (Sum.inr a : Key) = Sum.inr b := fun q => e (Sum.inr.inj q)
   rw [decide_eq_false h, decide_eq_false e]
theorem Zfy (a : Int) (b : Str) : decide ((Sum.inl a : Key) = Sum.inr b) = false := decide_eq_false (fun q => nomatch q)
theorem Zfz (a : Str) (b : Int) : decide ((Sum.inr a : Key) = Sum.inl b) = false := decide_eq_false (fun q => nomatch q)
def Yl (prog : Program) (w : World) : PySem.KeyKind prog w Key where
 is := Vi
 hash := Zhw w
 inj := fun v a b ha hb => by
  rcases Xe ha with ⟨i, t, rfl, rfl⟩ | ⟨x, t, rfl, rfl⟩
  · rcases Xe hb with ⟨j, u, rfl, e⟩ | ⟨y, u, rfl, e⟩
    · injection e with e1 _; rw [e1]
    · exact nomatch e
  · rcases Xe hb with ⟨j, u, rfl, e⟩ | ⟨y, u, rfl, e⟩
    · exact nomatch e
    · injection e with e1 _; rw [e1]
 byValue := fun k v h => by
  rcases Xe h with ⟨i, t, rfl, rfl⟩ | ⟨x, t, rfl, rfl⟩ <;> rfl
 pyHash := fun hv h => by
  rcases Xe hv with ⟨i, t, rfl, rfl⟩ | ⟨x, t, rfl, rfl⟩
  · exact wpAny_pyHash_int h
  · exact wpAny_pyHash_str h
 eqBool := fun hu hv h => by
  rcases Xe hu with ⟨i, t, rfl, rfl⟩ | ⟨x, t, rfl, rfl⟩
  · rcases Xe hv with ⟨j, u, rfl, rfl⟩ | ⟨y, u, rfl, rfl⟩
    · rw [Zfw] at h; exact wpAny_eqBool_int h
    · rw [Zfy] at h; exact SeqAt.EqAt.int_str i t y u _ _ _ _ h
  · rcases Xe hv with ⟨j, u, rfl, rfl⟩ | ⟨y, u, rfl, rfl⟩
    · rw [Zfz] at h; exact SeqAt.EqAt.str_int x t j u _ _ _ _ h
    · rw [Zfx] at h; exact wpAny_eqBool_str h
 «strs» := fun k x t v h => by
  rcases Xe h with ⟨i, u, rfl, e⟩ | ⟨y, u, rfl, e⟩
  · exact nomatch e
  · injection e with e1 _
    subst e1
    cases v <;> rfl
theorem ZaR (prog : Program) (w : World) (i : Int) (t : Tok) : (Yl prog w).is (.inl i) (.int i t) = true := Zck i t
theorem ZaS (prog : Program) (w : World) (x : Str) (t : Tok) : (Yl prog w).is (.inr x) (.str x t) = true := Zcl x t
end L2
namespace L2
open PySem PySem.Spec PyProof.Rows
inductive V where
 | non | bl (b : Bool) | int (i : Int) | str (x : Str) | byt (b : Array UInt8) | flt (b : UInt64) | ref (a : Addr) | ty (n : String)
 deriving DecidableEq
def RelV : V -> Value -> Prop
 | .non, u => u = Value.none
 | .bl b, u => u = Value.bool b
 | .int i, u => ∃ t, u = Value.int i t
 | .str x, u => ∃ t, u = Value.str x t
 | .byt b, u => ∃ t, u = Value.bytes b t
 | .flt b, u => ∃ t, u = Value.float b t
 | .ref a, u => u = Value.ref a
 | .ty n, u => u = Value.type n
abbrev Vals : List V -> List Value -> Prop := Paired RelV
theorem Vals.length {xs : List V} {us : List Value} (r : Vals xs us) : xs.length = us.length := Paired.length r
theorem Vals.get : ∀ {xs : List V} {us : List Value} {i : Nat} {x : V}, Vals xs us -> xs[i]? = some x -> ∃ u, us[i]? = some u /\ RelV x u
 | _, _, _, _, .nil, e => by simp at e
 | _, _, 0, _, .cons r _, e => by simp at e; subst e; exact ⟨_, rfl, r⟩
 | _, _, i + 1, x, .cons _ t, e => by
  obtain ⟨u, h1, h2⟩ := Vals.get (i := i) (x := x) t (by simpa using e)
  exact ⟨u, by simpa using h1, h2⟩
theorem Vals.set {x : V} {u : Value} (r : RelV x u) : ∀ {xs : List V} {us : List Value} (i : Nat), Vals xs us -> Vals (xs.set i x) (us.set i u)
 | _, _, _, .nil => .nil
 | _, _, 0, .cons _ t => .cons r t
 | _, _, i + 1, .cons q t => .cons q (Vals.set r i t)
theorem Vals.append : ∀ {xs ys : List V} {us ws : List Value}, Vals xs us -> Vals ys ws -> Vals (xs ++ ys) (us ++ ws)
 | _, _, _, _, .nil, s => s
 | _, _, _, _, .cons r t, s => .cons r (Vals.append t s)
def RelO : Option V -> Option Value -> Prop
 | some v, some u => RelV v u
 | none, none => True
 | _, _ => False
def KV {κ : Type} : List (κ × V) -> List (κ × Value) -> Prop := Paired fun (p : κ × V) (q : κ × Value) => p.1 = q.1 /\ RelV p.2 q.2
def kV : Key -> V
 | .inl i => .int i
 | .inr x => .str x
inductive HO where
 | lst (xs : List V)
 | tup (xs : List V)
 | dK (kvs : List (Key × V)) | dT (kvs : List (List Key × V))
 | set (S : Int -> Bool) (n : Nat)
 | ins (C dx : Addr) (fs : List (Str × V))
 | own (x : Addr)
 | xd (fs : List (Str × V))
 | met (f x : Addr)
 | rng (lo hi : Int)
 | frz (o : Obj) (u : HO)
 | tbl (ps : Array Value)
 | ext (φ : Heap -> Prop)
abbrev Hp := Addr -> Option HO
def upd (H : Hp) (a : Addr) (o : HO) : Hp := fun b => if b = a then some o else H b
theorem ZB {H : Hp} {a : Addr} {o : HO} : upd H a o a = some o := by unfold upd; rw [if_pos rfl]
theorem Zj {H : Hp} {a b : Addr} {o : HO} (h : b ≠ a) : upd H a o b = H b := by unfold upd; rw [if_neg h]
theorem Zgi {H : Hp} {a b : Addr} {o u : HO} (h : H a = some o) (h' : H b = some u) (d : o ≠ u) : a ≠ b := by
 intro e; subst e; rw [h] at h'; exact d (Option.some.inj h')
theorem ZR {H : Hp} {a b : Addr} {o : HO} (h : H a = some o) (h' : H b = none) : a ≠ b := by
 intro e; subst e; rw [h] at h'; cases h'
def TupN (h : Heap) (a : Addr) (its : Array Value) : Prop := ∃ o, h.get? a = some o /\ o.cls = .type "tuple" /\ (∃ n, o.data = .seq its n) /\ o.dict = none
theorem TupN.tup {h : Heap} {a : Addr} {its : Array Value} (x : TupN h a its) : IsTup h a its := let ⟨o, e, c, d, _⟩ := x; ⟨o, e, c, d⟩
section
variable (P : Program) (w : World)
def ObjOk (H : Hp) (h : Heap) (a : Addr) : HO -> Prop
 | .lst xs => xs.length <= sizeLine /\ ∃ (its : List Value) (n : Nat), Vals xs its /\ h.get? a = some { cls := .type "list", data := .seq its.toArray n }
 | .tup xs => xs.length <= sizeLine /\ ∃ its : List Value, Vals xs its /\ TupN h a its.toArray
 | .dK kvs => kvs.length <= sizeLine /\ (a == sysModules) = false /\ ∃ vs, KV kvs vs /\ h.DictOf (Yl P w) a vs
 | .dT kvs => kvs.length <= sizeLine /\ (a == sysModules) = false /\ ∃ xs : List (List Key × Addr × Value),
  Paired (fun (p : List Key × V) (q : List Key × Addr × Value) => p.1 = q.1 /\ H q.2.1 = some (.tup (p.1.map kV)) /\ RelV p.2 q.2.2) kvs xs /\
  ∃ o es ep, h.get? a = some o /\ o.ExactDict /\ o.data = .dict es ep /\ es.toList = xs.map (entryOfKey (tupleKind (Yl P w))) /\ (xs.map (·.1)).Nodup
 | .set S n => h.SetOf (intKind P w) a S n
 | .ins C dx fs => H dx = some (.own a) /\ fs.length <= 1000 /\ dx ≠ a /\ h.get? a = some (PySem.W.instObj C dx) /\
  ∃ mA, h.Ns1 dx mA /\ (∀ f, RelO (fs.lookup f) (mA f)) /\ PySem.Within mA (fs.map (·.1))
 | .own _ => ∃ o, h.get? a = some o
 | .xd fs => ∃ mA, h.Ns1 a mA /\ ∀ f, RelO (fs.lookup f) (mA f)
 | .rng lo hi => ∃ t u v, h.get? a = some { cls := .type "range", data := .fields #[.int lo t, .int hi u, .int 1 v] }
 | .frz o u => h.get? a = some o /\ ObjOk H h a u
 | .tbl ps => h.get? a = some { cls := .none, data := .fields ps }
 | .met f x => h.get? a = some (PySem.W.methodObj (.ref f) (.ref x))
 | .ext φ => φ h /\ (∃ o, h.get? a = some o) /\ ∀ h1 h2 : Heap, φ h1 -> (∀ o, h1.get? a = some o -> h2.get? a = some o) -> φ h2
def HOk (H : Hp) (h : Heap) : Prop := ∀ a o, H a = some o -> ObjOk P w H h a o
end
section
variable {P : Program} {w : World} {H H' : Hp} {h h' : Heap} {a : Addr} {o : HO}
theorem ObjOk.lt (x : ObjOk P w H h a o) : a < h.objs.size := by
 cases o with
 | lst xs => obtain ⟨_, _, _, _, e⟩ := x; exact Heap.lt_size e
 | tup xs => obtain ⟨_, _, _, p⟩ := x; exact p.tup.lt
 | dK kvs => obtain ⟨_, _, _, _, o, _, _, e, _⟩ := x; exact Heap.lt_size e
 | dT kvs => obtain ⟨_, _, _, _, o, _, _, e, _⟩ := x; exact Heap.lt_size e
 | set S n => obtain ⟨o, _, _, _, e, _⟩ := x; exact Heap.lt_size e
 | ins C dx fs => obtain ⟨_, _, _, e, _⟩ := x; exact Heap.lt_size e
 | own y => obtain ⟨_, e⟩ := x; exact Heap.lt_size e
 | xd fs => obtain ⟨_, ⟨_, _, _, e, _⟩, _⟩ := x; exact Heap.lt_size e
 | rng lo hi => obtain ⟨_, _, _, e⟩ := x; exact Heap.lt_size e
 | frz ob u => obtain ⟨e, _⟩ := x; exact Heap.lt_size e
 | tbl ps => exact Heap.lt_size (show h.get? a = some _ from x)
 | met f y => exact Heap.lt_size (show h.get? a = some _ from x)
 | ext φ => obtain ⟨_, ⟨_, e⟩, _⟩ := x; exact Heap.lt_size e
theorem Paired.mapP {α β : Type} {F G : α -> β -> Prop} : ∀ {l₁ : List α} {l₂ : List β}, Paired F l₁ l₂ -> (∀ a b, F a b -> G a b) -> Paired G l₁ l₂
 | _, _, .nil, _ => .nil
 | _, _, .cons r t, f => .cons (f _ _ r) (Paired.mapP t f)
theorem ObjOk.stay (x : ObjOk P w H h a o) (k : ∀ b u, (b = a \/ H b = some (.own a)) -> h.get? b = some u -> h'.get? b = some u)
 (ho : ∀ b, H b = some (.own a) -> H' b = some (.own a)) (ht : ∀ b xs, H b = some (.tup xs) -> H' b = some (.tup xs)) : ObjOk P w H' h' a o := by
 induction o with
 | lst xs => obtain ⟨z, its, n, r, e⟩ := x; exact ⟨z, its, n, r, k _ _ (.inl rfl) e⟩
 | tup xs => obtain ⟨z, its, r, ob, e, c⟩ := x; exact ⟨z, its, r, ob, k _ _ (.inl rfl) e, c⟩
 | dK kvs => obtain ⟨z, y, vs, r, ob, es, ep, e, c⟩ := x; exact ⟨z, y, vs, r, ob, es, ep, k _ _ (.inl rfl) e, c⟩
 | dT kvs =>
  obtain ⟨z, y, xs, r, ob, es, ep, e, c⟩ := x
  exact ⟨z, y, xs, Paired.mapP r fun p q z => ⟨z.1, ht _ _ z.2.1, z.2.2⟩, ob, es, ep, k _ _ (.inl rfl) e, c⟩
 | set S n => obtain ⟨ob, es, ep, t, e, c⟩ := x; exact ⟨ob, es, ep, t, k _ _ (.inl rfl) e, c⟩
 | ins C dx fs =>
  obtain ⟨d, z, ne, e, mA, ⟨od, es, ep, e2, c⟩, r⟩ := x
  exact ⟨ho _ d, z, ne, k _ _ (.inl rfl) e, mA, ⟨od, es, ep, k _ _ (.inr d) e2, c⟩, r⟩
 | own y => obtain ⟨ob, e⟩ := x; exact ⟨ob, k _ _ (.inl rfl) e⟩
 | xd fs => obtain ⟨mA, ⟨od, es, ep, e, c⟩, r⟩ := x; exact ⟨mA, ⟨od, es, ep, k _ _ (.inl rfl) e, c⟩, r⟩
 | rng lo hi => obtain ⟨t, u, v, e⟩ := x; exact ⟨t, u, v, k _ _ (.inl rfl) e⟩
 | frz ob u ih => obtain ⟨e, q⟩ := x; exact ⟨k _ _ (.inl rfl) e, ih q⟩
 | tbl ps =>
  have e : h.get? a = some { cls := .none, data := .fields ps } := x
  show h'.get? a = some { cls := .none, data := .fields ps }
  exact k a _ (.inl rfl) e
 | met f y =>
  have e : h.get? a = some (PySem.W.methodObj (.ref f) (.ref y)) := x
  show h'.get? a = some (PySem.W.methodObj (.ref f) (.ref y))
  exact k a _ (.inl rfl) e
 | ext φ => obtain ⟨p, ⟨o, e⟩, st⟩ := x; exact ⟨st _ _ p fun o q => k _ _ (.inl rfl) q, ⟨o, k _ _ (.inl rfl) e⟩, st⟩
theorem HOk.lt (x : HOk P w H h) (e : H a = some o) : a < h.objs.size := (x a o e).lt
theorem HOk.fresh (x : HOk P w H h) (e : h.objs.size <= a) : H a = none := by
 cases q : H a with
 | none => rfl
 | some u => exact absurd (Nat.lt_of_lt_of_le (x.lt q) e) (Nat.lt_irrefl _)
theorem HOk.kept (x : HOk P w H h) (k : ∀ b u, h.get? b = some u -> h'.get? b = some u) : HOk P w H h' := fun a o e =>
 (x a o e).stay (fun b u _ q => k b u q) (fun _ q => q) fun _ _ q => q
theorem HOk.laid (x : HOk P w H h) (k : ∀ b u, h.get? b = some u -> h'.get? b = some u) (hp : h.objs.size <= a) (new : ObjOk P w (upd H a o) h' a o) : HOk P w (upd H a o) h' := fun b u e => by
 have hn := x.fresh hp
 by_cases hb : b = a
 · subst hb; rw [ZB] at e; cases e; exact new
 · rw [Zj hb] at e
   exact (x b u e).stay (fun c v _ q => k c v q) (fun c q => by rw [Zj (ZR q hn)]; exact q) fun c xs q => by rw [Zj (ZR q hn)]; exact q
end
def Rd (H : Hp) (a : Addr) (u : HO) : Prop := H a = some u \/ ∃ o, H a = some (.frz o u)
theorem Rd.ok {P : Program} {w : World} {H : Hp} {h : Heap} {a : Addr} {u : HO} (r : Rd H a u) (x : HOk P w H h) : ObjOk P w H h a u := by
 rcases r with r | ⟨o, r⟩
 · exact x a u r
 · obtain ⟨_, q⟩ := x a _ r
   exact q
def Mut : Option HO -> Prop
 | some (.lst _) => True
 | some (.dK _) => True
 | some (.dT _) => True
 | some (.set _ _) => True
 | some (.ins _ _ _) => True
 | some (.ext _) => True
 | _ => False
section
variable {P : Program} {w : World} {H : Hp} {h h' : Heap} {x e : Addr} {o' : HO}
theorem HOk.write (ok : HOk P w H h) (mu : Mut (H x)) (he : e = x \/ H e = some (.own x)) (k : ∀ b u, b ≠ e -> h.get? b = some u -> h'.get? b = some u) (heo : ∃ u, h'.get? e = some u)
 (new : ObjOk P w (upd H x o') h' x o') : HOk P w (upd H x o') h' := fun b u q => by
 have nown : ∀ c y, H c = some (.own y) -> c ≠ x := fun c y r z => by subst z; rw [r] at mu; exact mu
 have ntup : ∀ c xs, H c = some (.tup xs) -> c ≠ x := fun c xs r z => by subst z; rw [r] at mu; exact mu
 by_cases hb : b = x
 · subst hb; rw [ZB] at q; cases q; exact new
 · rw [Zj hb] at q
   by_cases hbe : b = e
   · have q' : H b = some (.own x) := by
      rcases he with z | z
      · exact absurd (hbe.trans z) hb
      · rw [hbe]; exact z
     rw [q] at q'; cases q'
     obtain ⟨v, hv⟩ := heo
     exact ⟨v, by rw [hbe]; exact hv⟩
   · refine (ok b u q).stay (fun c v hc r => k c v ?_ r) (fun c r => by rw [Zj (nown c b r)]; exact r) fun c xs r => by rw [Zj (ntup c xs r)]; exact r
     rcases hc with rfl | hc
     · exact hbe
     · rintro rfl
       rcases he with z | z
       · exact nown c b hc z
       · rw [hc] at z; cases z; exact hb rfl
end
structure Un (fs ex : List Addr) (H H' : Hp) (h h' : Heap) : Prop where
 keep : ∀ b o, h.get? b = some o -> H b = none -> b ∉ fs -> b ∉ ex -> h'.get? b = some o
 slot : ∀ b o, h.get? b = some o -> H b = none -> b ∈ fs -> b ∉ ex -> ∃ sl, h'.get? b = some { o with slots := sl }
 free : ∀ b o, h.get? b = some o -> H b = none -> b ∉ ex -> H' b = none
 there : ∀ b o, h.get? b = some o -> b ∉ ex -> ∃ o', h'.get? b = some o'
 tups : ∀ b xs, H b = some (.tup xs) -> H' b = some (.tup xs)
 frzs : ∀ b o u, H b = some (.frz o u) -> H' b = some (.frz o u)
 tbls : ∀ b ps, H b = some (.tbl ps) -> ∃ more, H' b = some (.tbl (ps ++ more))
section
variable {fs fs' ex ex' : List Addr} {H H1 H2 : Hp} {h h1 h2 h' : Heap} {a x e : Addr} {o : HO}
theorem Un.any (u : Un fs ex H H1 h h1) {b : Addr} {ob : Obj} (q : h.get? b = some ob) (n : H b = none) (hx : b ∉ ex) : ∃ sl, h1.get? b = some { ob with slots := sl } := by
 by_cases hb : b ∈ fs
 · exact u.slot b ob q n hb hx
 · exact ⟨ob.slots, u.keep b ob q n hb hx⟩
theorem Un.kept (k : ∀ b u, h.get? b = some u -> h'.get? b = some u) : Un fs ex H H h h' :=
 ⟨fun b ob q _ _ _ => k b ob q, fun b ob q _ _ _ => ⟨ob.slots, k b ob q⟩, fun _ _ _ n _ => n, fun b ob q _ => ⟨ob, k b ob q⟩, fun _ _ q => q, fun _ _ _ q => q, fun _ ps q => ⟨#[], by rw [q]; simp⟩⟩
theorem Un.refl : Un fs ex H H h h := Un.kept fun _ _ q => q
theorem Un.laid (k : ∀ b u, h.get? b = some u -> h'.get? b = some u) (hp : h.objs.size <= a) (hn : H a = none) : Un fs ex H (upd H a o) h h' where
 keep := fun b u q _ _ _ => k b u q
 slot := fun b u q _ _ _ => ⟨u.slots, k b u q⟩
 free := fun b u q n _ => by rw [Zj (Nat.ne_of_lt (Nat.lt_of_lt_of_le (Heap.lt_size q) hp))]; exact n
 there := fun b u q _ => ⟨u, k b u q⟩
 tups := fun b xs q => by rw [Zj (ZR q hn)]; exact q
 frzs := fun b u xs q => by rw [Zj (ZR q hn)]; exact q
 tbls := fun b ps q => ⟨#[], by rw [Zj (ZR q hn), q]; simp⟩
theorem Un.write (mu : Mut (H x)) (he : e = x \/ H e = some (.own x)) (k : ∀ b u, b ≠ e -> h.get? b = some u -> h'.get? b = some u) (heo : ∃ u, h'.get? e = some u) : Un fs ex H (upd H x o) h h' := by
 have hx : ∀ b, H b = none -> b ≠ x := fun b n z => by subst z; rw [n] at mu; exact mu
 have hb : ∀ b, H b = none -> b ≠ e := fun b n z => by
  subst z
  rcases he with r | r
  · exact hx b n r
  · rw [n] at r; cases r
 have hm : ∀ b u, H b = some u -> ¬ Mut (some u) -> b ≠ x := fun b u q nm z => by subst z; rw [q] at mu; exact nm mu
 refine ⟨fun b u q n _ _ => k b u (hb b n) q, fun b u q n _ _ => ⟨u.slots, k b u (hb b n) q⟩, fun b u q n _ => by rw [Zj (hx b n)]; exact n, fun b u q _ => ?_,
  fun b xs q => by rw [Zj (hm b _ q fun z => z)]; exact q, fun b u xs q => by rw [Zj (hm b _ q fun z => z)]; exact q, fun b ps q => ⟨#[], by rw [Zj (hm b _ q fun z => z), q]; simp⟩⟩
 by_cases hbe : b = e
 · subst hbe; exact heo
 · exact ⟨u, k b u hbe q⟩
end
def trk (h : Heap) (H : Hp) : List Addr := (List.range h.objs.size).filter fun a => (H a).isSome
def Xf (h : Heap) (H : Hp) : Heap := PySem.W.hideAll h (trk h H)
theorem Zcm (h : Heap) (H : Hp) : (Xf h H).objs.size = h.objs.size := PySem.W.hideAll_size _ _
theorem ZcT {h : Heap} {H : Hp} {b : Addr} {o : Obj} (e : h.get? b = some o) (n : H b = none) : (Xf h H).get? b = some o :=
 PySem.W.hideAll_get _ e fun hm => by
  have q : (H b).isSome = true := (List.mem_filter.mp hm).2
  rw [n] at q; simp at q
theorem ZdW {h : Heap} {H : Hp} {b : Addr} {o : Obj} (e : (Xf h H).get? b = some o) : h.get? b = some o /\ H b = none := by
 have e' : h.get? b = some o := PySem.W.of_hideAll (trk h H) e
 refine ⟨e', ?_⟩
 cases q : H b with
 | none => rfl
 | some x =>
  have hm : b ∈ trk h H := List.mem_filter.mpr ⟨List.mem_range.mpr (Heap.lt_size e'), by simp [q]⟩
  have z : (Xf h H).get? b = none := PySem.W.hideAll_none (trk h H) hm
  rw [z] at e; cases e
end L2
namespace L2
open PySem PySem.Spec PyProof.Rows
structure Mod (K : PySem.W.Frag) (mg : Str -> Option Value) (base : Heap) : Prop where
 kin : K.In base
 glob : base.Ns mainGlobals mg
 blt : ∃ mb, base.Ns builtinsNs mb /\ ∀ x : Str, x ≠ "__name__" -> mb x = bootBuiltins x
 nolimit : base.NoLimit
structure Cx where
 prog : Program
 w : World
 K : PySem.W.Frag
 mg : Str -> Option Value
 base : Heap
 A : Around
 N : List Str
 s₀ : Shared
 H₀ : Hp
 env : Env
 outer : List Env
 stack : List Env
 ex : List Addr
 fn : Str -> Bool
 calm : Bool
 pn : List (Addr × Obj)
 xe : Value -> Shared -> Prop
def frs (l : List Env) : List Addr := l.filterMap (·.frame)
abbrev Cx.fs (X : Cx) : List Addr := frs X.outer
def Vis (sc : Scope) (x : Str) : Prop := sc.names.lookup x = some .local \/ sc.names.lookup x = some .cell \/ sc.names.lookup x = some .free
def Loc (sc : Scope) (x : Str) : Prop := sc.names.lookup x = some .local \/ sc.names.lookup x = some .cell
def Qs (env : Env) (h : Heap) (m : Str -> Option Value) (x : Str) (u : Value) : Prop :=
 (env.kindOf x = some .local /\ m x = some u) \/ ((env.kindOf x = some .cell \/ env.kindOf x = some .free) /\ ∃ c, env.cells.lookup x = some c /\ h.IsCell c (some u))
structure Cx.Ok (X : Cx) : Prop where
 mod : Mod X.K X.mg X.base
 kind : X.env.scope.kind = .function
 glob : X.env.globals = mainGlobals
 blt : X.env.builtins = builtinsNs
 above : X.s₀.heap.objs.size <= X.env.locals
 inj : ∀ x y c, X.env.cells.lookup x = some c -> X.env.cells.lookup y = some c -> x = y
 has : ∀ x, (X.env.kindOf x = some .cell \/ X.env.kindOf x = some .free) -> ∃ c, X.env.cells.lookup x = some c
 cab : ∀ x c, X.fn x = true -> X.env.cells.lookup x = some c -> X.s₀.heap.objs.size <= c
 hd : X.calm = true -> X.A.handled = none
 frames : X.A.frames = some X.stack
 stk : X.stack = X.outer \/ (X.stack = X.env :: X.outer /\ X.env.frame = some X.env.locals)
 exf : ∀ b ∈ X.ex, b ≠ X.env.locals /\ ∀ x c, X.env.cells.lookup x = some c -> c ≠ b
 bs : ∀ b o, X.base.get? b = some o -> X.s₀.heap.get? b = some o /\ X.H₀ b = none
 bsz : X.base.objs.size <= X.s₀.heap.objs.size
 noex : ∀ b o, X.base.get? b = some o -> b ∉ X.ex
 exfs : ∀ b ∈ X.ex, b ∉ X.fs
 funs : X.s₀.heap.FunFrames X.base X.outer
 frf : ∀ b ∈ X.fs, X.H₀ b = none
structure Inv (X : Cx) (pins : List (Addr × Obj)) (σ : List (Option V)) (H : Hp) (s : Shared) : Prop where
 ok : X.Ok
 os : s.os = X.s₀.os
 bare : AllBare s.gens
 base : Un X.fs X.ex X.H₀ H X.s₀.heap s.heap
 loc : ∃ m, s.heap.Ns X.env.locals m /\ ∀ (i : Nat) (x : Str) (v : V), X.N[i]? = some x -> σ[i]? = some (some v) -> Vis X.env.scope x -> ∃ u, RelV v u /\ Qs X.env s.heap m x u
 cell : ∀ x c, X.env.cells.lookup x = some c -> ∃ v, s.heap.IsCell c v
 free : H X.env.locals = none
 freeC : ∀ x c, X.env.cells.lookup x = some c -> H c = none
 pin : ∀ p ∈ X.pn ++ pins, s.heap.get? p.1 = some p.2 /\ H p.1 = none /\ p.1 ≠ X.env.locals /\ p.1 ∉ X.fs /\ ∀ v, p.2.data ≠ .cell v
 hok : HOk X.prog X.w H s.heap
 len : σ.length = X.N.length
section
variable {X : Cx} {pins : List (Addr × Obj)} {σ : List (Option V)} {H H' : Hp} {s : Shared} {h' : Heap}
theorem Cx.Ok.nofr (ok : X.Ok) {b : Addr} {o : Obj} (e : X.base.get? b = some o) : b ∉ X.fs := fun hb => by
 have := (ok.funs.mem hb).1
 rw [e] at this; cases this
theorem Inv.bs (I : Inv X pins σ H s) : ∀ b o, X.base.get? b = some o -> s.heap.get? b = some o /\ H b = none := fun b o e =>
 ⟨I.base.keep b o (I.ok.bs b o e).1 (I.ok.bs b o e).2 (I.ok.nofr e) (I.ok.noex b o e), I.base.free b o (I.ok.bs b o e).1 (I.ok.bs b o e).2 (I.ok.noex b o e)⟩
theorem Inv.bk (I : Inv X pins σ H s) : ∀ b o, X.base.get? b = some o -> s.heap.get? b = some o := fun b o e => (I.bs b o e).1
theorem Inv.mod (I : Inv X pins σ H s) : Mod X.K X.mg X.base := I.ok.mod
theorem Inv.kIn (I : Inv X pins σ H s) : X.K.In s.heap := I.ok.mod.kin.keeps I.bk
theorem Inv.nolimit (I : Inv X pins σ H s) : s.heap.NoLimit := I.ok.mod.nolimit.keeps I.bk
theorem Inv.fr (I : Inv X pins σ H s) : ∃ m, Fr X.base X.env.locals s.heap m :=
 let ⟨m, hn, _⟩ := I.loc
 ⟨m, hn, I.bk, Nat.le_trans I.ok.bsz I.ok.above⟩
theorem Inv.lt (I : Inv X pins σ H s) : X.env.locals < s.heap.objs.size := let ⟨_, hn, _⟩ := I.loc; hn.lt
theorem Inv.sz (I : Inv X pins σ H s) : X.s₀.heap.objs.size <= s.heap.objs.size := Nat.le_trans I.ok.above (Nat.le_of_lt I.lt)
theorem Inv.nofs (I : Inv X pins σ H s) {a : Addr} (h : s.heap.objs.size <= a) : a ∉ X.fs := fun hb => by
 obtain ⟨_, o, ho, _⟩ := I.ok.funs.mem hb
 exact absurd (Nat.lt_of_lt_of_le (Heap.lt_size ho) (Nat.le_trans I.sz h)) (Nat.lt_irrefl _)
theorem Inv.cne (I : Inv X pins σ H s) : ∀ x c, X.env.cells.lookup x = some c -> c ≠ X.env.locals := fun x c e z => by
 obtain ⟨v, o, ho, hd⟩ := I.cell x c e
 obtain ⟨m, ⟨o', es, ep, ho', hd', _⟩, _⟩ := I.loc
 rw [z, ho'] at ho; cases ho; rw [hd'] at hd; cases hd
theorem Inv.funs (I : Inv X pins σ H s) : s.heap.FunFrames X.base X.outer := by
 have all : ∀ (l : List Env), (∀ b ∈ frs l, b ∈ X.fs) -> X.s₀.heap.FunFrames X.base l -> s.heap.FunFrames X.base l := by
  intro l
  induction l with
  | nil => intro _ _; trivial
  | cons env r ih =>
   intro hs hl
   obtain ⟨hk, ⟨L, o, hf, hn, ho, hd⟩, hr⟩ := hl
   have hL : L ∈ X.fs := hs L (by unfold frs; rw [List.filterMap_cons, hf]; exact List.mem_cons_self)
   obtain ⟨sl, e⟩ := I.base.slot L o ho (I.ok.frf L hL) hL fun z => I.ok.exfs L z hL
   exact ⟨hk, ⟨L, _, hf, hn, e, hd⟩, ih (fun b hb => hs b (by unfold frs; rw [List.filterMap_cons, hf]; exact List.mem_cons_of_mem _ hb)) hr⟩
 exact all X.outer (fun _ hb => hb) I.ok.funs
theorem Inv.stack (I : Inv X pins σ H s) : s.heap.FunFrames X.base X.stack := by
 rcases I.ok.stk with e | ⟨e, hf⟩
 · rw [e]; exact I.funs
 · rw [e]
   obtain ⟨m, hn, _⟩ := I.loc
   refine .cons (by rw [I.ok.kind]; decide) hf hn ?_ I.funs
   exact Heap.get?_none_of_le (Nat.le_trans I.ok.bsz I.ok.above)
theorem Inv.stkSub (I : Inv X pins σ H s) : ∀ b ∈ frs X.stack, b ∈ X.env.locals :: X.fs := fun b hb => by
 rcases I.ok.stk with e | ⟨e, hf⟩
 · rw [e] at hb; exact List.mem_cons_of_mem _ hb
 · rw [e] at hb
   unfold frs at hb
   rw [List.filterMap_cons, hf] at hb
   exact hb
theorem Inv.stkFree (I : Inv X pins σ H s) : ∀ b ∈ frs X.stack, H b = none := fun b hb => by
 rcases List.mem_cons.mp (I.stkSub b hb) with e | hb
 · rw [e]; exact I.free
 · obtain ⟨_, o, ho, _⟩ := I.ok.funs.mem hb
   exact I.base.free b o ho (I.ok.frf b hb) fun z => I.ok.exfs b z hb
theorem Inv.step {g' : Array GenState} {t' : Nat} {d' : Drawn} {ch : List Addr} (I : Inv X pins σ H s)
 (hch : ∀ b ∈ ch, (b ∈ X.ex \/ X.s₀.heap.objs.size <= b) /\ b ≠ X.env.locals /\ (∀ x c, X.env.cells.lookup x = some c -> c ≠ b) /\ ∀ p ∈ X.pn ++ pins, p.1 ≠ b)
 (keep : ∀ b o, b ≠ X.env.locals -> b ∉ X.fs -> b ∉ ch -> s.heap.get? b = some o -> H b = none -> h'.get? b = some o)
 (slot : ∀ b o, b ≠ X.env.locals -> b ∈ X.fs -> b ∉ ch -> s.heap.get? b = some o -> H b = none -> ∃ sl, h'.get? b = some { o with slots := sl }) (free : ∀ b o, b ∉ ch -> s.heap.get? b = some o -> H b = none -> H' b = none)
 (there : ∀ b o, b ∉ ch -> s.heap.get? b = some o -> ∃ o', h'.get? b = some o')
 (tups : ∀ b xs, H b = some (.tup xs) -> H' b = some (.tup xs)) (frzs : ∀ b o u, H b = some (.frz o u) -> H' b = some (.frz o u)) (tbls : ∀ b ps, H b = some (.tbl ps) -> ∃ more, H' b = some (.tbl (ps ++ more)))
 (ns : ∀ m, s.heap.Ns X.env.locals m -> h'.Ns X.env.locals m) (hok : HOk X.prog X.w H' h') (hg : AllBare g') :
 Inv X pins σ H' { s with heap := h', gens := g', drawn := d', toks := t' } := by
 have neL : ∀ b o, X.s₀.heap.get? b = some o -> b ≠ X.env.locals := fun b o e => Nat.ne_of_lt (Nat.lt_of_lt_of_le (Heap.lt_size e) I.ok.above)
 have neC : ∀ b o, X.s₀.heap.get? b = some o -> b ∉ X.ex -> b ∉ ch := fun b o e hx hb => by
  rcases (hch b hb).1 with z | z
  · exact hx z
  · exact absurd (Nat.lt_of_lt_of_le (Heap.lt_size e) z) (Nat.lt_irrefl _)
 have cellK : ∀ x c, X.env.cells.lookup x = some c -> ∀ v, s.heap.IsCell c v -> h'.IsCell c v := fun x c e v ⟨o, ho, hd⟩ => by
  have nch : c ∉ ch := fun z => (hch c z).2.2.1 x c e rfl
  by_cases hc : c ∈ X.fs
  · obtain ⟨sl, q⟩ := slot c o (I.cne x c e) hc nch ho (I.freeC x c e)
    exact ⟨_, q, hd⟩
  · exact ⟨o, keep c o (I.cne x c e) hc nch ho (I.freeC x c e), hd⟩
 refine ⟨I.ok, I.os, hg, ⟨fun b o e n hb hx => ?_, fun b o e n hb hx => ?_, fun b o e n hx => ?_, fun b o e hx => ?_, fun b xs e => tups b xs (I.base.tups b xs e), fun b o xs e => frzs b o xs (I.base.frzs b o xs e), fun b ps e => ?_⟩, ?_, fun x c e => ?_, ?_, fun x c e => ?_, fun p hp => ?_, hok, I.len⟩
 · exact keep b o (neL b o e) hb (neC b o e hx) (I.base.keep b o e n hb hx) (I.base.free b o e n hx)
 · obtain ⟨sl, e1⟩ := I.base.slot b o e n hb hx
   obtain ⟨sl', e2⟩ := slot b _ (neL b o e) hb (neC b o e hx) e1 (I.base.free b o e n hx)
   exact ⟨sl', e2⟩
 · obtain ⟨o', e1⟩ := I.base.there b o e hx
   exact free b o' (neC b o e hx) e1 (I.base.free b o e n hx)
 · obtain ⟨o', e1⟩ := I.base.there b o e hx
   exact there b o' (neC b o e hx) e1
 · obtain ⟨m1, e1⟩ := I.base.tbls b ps e
   obtain ⟨m2, e2⟩ := tbls b _ e1
   exact ⟨m1 ++ m2, by rw [e2, Array.append_assoc]⟩
 · obtain ⟨m, hn, hl⟩ := I.loc
   refine ⟨m, ns m hn, fun i x v e1 e2 e3 => ?_⟩
   obtain ⟨u, r, l⟩ := hl i x v e1 e2 e3
   refine ⟨u, r, ?_⟩
   rcases l with l | ⟨k, c, e, z⟩
   · exact .inl l
   · exact .inr ⟨k, c, e, cellK x c e _ z⟩
 · obtain ⟨v, z⟩ := I.cell x c e
   exact ⟨v, cellK x c e v z⟩
 · obtain ⟨m, ⟨o, _, _, ho, _⟩, _⟩ := I.loc
   exact free _ o (fun z => (hch _ z).2.1 rfl) ho I.free
 · obtain ⟨v, o, ho, hd⟩ := I.cell x c e
   exact free c o (fun z => (hch c z).2.2.1 x c e rfl) ho (I.freeC x c e)
 · obtain ⟨e, n, ne, nf, d⟩ := I.pin p hp
   have nch : p.1 ∉ ch := fun z => (hch p.1 z).2.2.2 p hp rfl
   exact ⟨keep p.1 p.2 ne nf nch e n, free p.1 p.2 nch e n, ne, nf, d⟩
theorem Inv.un {t' : Nat} (I : Inv X pins σ H s) (u : Un X.fs [] H H' s.heap h') (hok : HOk X.prog X.w H' h') : Inv X pins σ H' { s with heap := h', toks := t' } := by
 obtain ⟨m, ⟨o, es, ep, ho, r⟩, _⟩ := id I.loc
 obtain ⟨sl, hL⟩ := u.any ho I.free (by simp)
 exact I.step (g' := s.gens) (d' := s.drawn) (ch := []) (fun _ z => nomatch z) (fun b o _ hb _ e n => u.keep b o e n hb (by simp)) (fun b o _ hb _ e n => u.slot b o e n hb (by simp)) (fun b o _ e n => u.free b o e n (by simp)) (fun b o _ e => u.there b o e (by simp)) u.tups u.frzs u.tbls (fun m' hm => by
  obtain ⟨o', es', ep', ho', r'⟩ := hm
  rw [ho] at ho'; cases ho'
  exact ⟨_, es', ep', hL, r'⟩) hok I.bare
theorem Inv.call {g' : Array GenState} {t' : Nat} {d' : Drawn} {ch : List Addr} (I : Inv X pins σ H s) (u : Un (frs X.stack) ch H H' s.heap h') (hok : HOk X.prog X.w H' h') (hg : AllBare g')
 (hch : ∀ b ∈ ch, (b ∈ X.ex \/ X.s₀.heap.objs.size <= b) /\ b ≠ X.env.locals /\ (∀ x c, X.env.cells.lookup x = some c -> c ≠ b) /\ ∀ p ∈ X.pn ++ pins, p.1 ≠ b) :
 Inv X pins σ H' { s with heap := h', gens := g', drawn := d', toks := t' } := by
 obtain ⟨m, ⟨o, es, ep, ho, r⟩, _⟩ := id I.loc
 obtain ⟨sl, hL⟩ := u.any ho I.free fun z => (hch _ z).2.1 rfl
 exact I.step (ch := ch) hch (fun b o hL hb hc e n => u.keep b o e n (fun z => (List.mem_cons.mp (I.stkSub b z)).elim hL hb) hc) (fun b o _ _ hc e n => u.any e n hc) (fun b o hc e n => u.free b o e n hc) (fun b o hc e => u.there b o e hc) u.tups u.frzs u.tbls (fun m' hm => by
  obtain ⟨o', es', ep', ho', r'⟩ := hm
  rw [ho] at ho'; cases ho'
  exact ⟨_, es', ep', hL, r'⟩) hok hg
theorem Inv.turned {t' : Nat} {it : Addr} (I : Inv X pins σ H s) (k : ∀ b o, b ≠ it -> s.heap.get? b = some o -> h'.get? b = some o) (hn : H it = none) (hL : it ≠ X.env.locals)
 (h1 : it ∈ X.ex \/ X.s₀.heap.objs.size <= it) (h2 : ∀ x c, X.env.cells.lookup x = some c -> c ≠ it) (h3 : ∀ p ∈ X.pn ++ pins, p.1 ≠ it) : Inv X pins σ H { s with heap := h', toks := t' } := by
 have nit : ∀ b u, H b = some u -> b ≠ it := fun b u e z => by rw [z, hn] at e; cases e
 refine I.step (g' := s.gens) (d' := s.drawn) (ch := [it]) (fun b hb => ?_) (fun b o _ _ hc e _ => k b o (fun z => hc (by simp [z])) e) (fun b o _ _ hc e _ => ⟨o.slots, k b o (fun z => hc (by simp [z])) e⟩) (fun _ _ _ _ n => n)
  (fun b o hc e => ⟨o, k b o (fun z => hc (by simp [z])) e⟩) (fun _ _ e => e) (fun _ _ _ e => e) (fun b ps e => ⟨#[], by rw [e]; simp⟩) (fun m hm => ?_) (fun b u e => ?_) I.bare
 · have e : b = it := by simpa using hb
   subst e
   exact ⟨h1, hL, h2, h3⟩
 · obtain ⟨o, es, ep, ho, r⟩ := hm
   exact ⟨o, es, ep, k _ o (Ne.symm hL) ho, r⟩
 · refine (I.hok b u e).stay (fun c v hc q => k c v ?_ q) (fun _ q => q) fun _ _ q => q
   rcases hc with z | z
   · rw [z]; exact nit b u e
   · exact nit c _ z
theorem Inv.tok (I : Inv X pins σ H s) (t : Nat) : Inv X pins σ H { s with toks := t } := I.un (h' := s.heap) (t' := t) Un.refl I.hok
theorem Inv.kept {t' : Nat} (I : Inv X pins σ H s) (k : ∀ b u, s.heap.get? b = some u -> h'.get? b = some u) : Inv X pins σ H { s with heap := h', toks := t' } := I.un (Un.kept k) (I.hok.kept k)
theorem Inv.laid {a : Addr} {o : HO} {t' : Nat} (I : Inv X pins σ H s) (k : ∀ b u, s.heap.get? b = some u -> h'.get? b = some u) (hp : s.heap.objs.size <= a) (new : ObjOk X.prog X.w (upd H a o) h' a o) :
 Inv X pins σ (upd H a o) { s with heap := h', toks := t' } := I.un (Un.laid k hp (I.hok.fresh hp)) (I.hok.laid k hp new)
theorem Inv.write {x e : Addr} {o : HO} {t' : Nat} (I : Inv X pins σ H s) (mu : Mut (H x)) (he : e = x \/ H e = some (.own x)) (k : ∀ b u, b ≠ e -> s.heap.get? b = some u -> h'.get? b = some u) (heo : ∃ u, h'.get? e = some u)
 (new : ObjOk X.prog X.w (upd H x o) h' x o) : Inv X pins σ (upd H x o) { s with heap := h', toks := t' } := I.un (Un.write mu he k heo) (I.hok.write mu he k heo new)
theorem Inv.pins_of {pins' : List (Addr × Obj)} (I : Inv X pins σ H s) (h : ∀ p ∈ pins', s.heap.get? p.1 = some p.2 /\ H p.1 = none /\ p.1 ≠ X.env.locals /\ p.1 ∉ X.fs /\ ∀ v, p.2.data ≠ .cell v) : Inv X pins' σ H s :=
 ⟨I.ok, I.os, I.bare, I.base, I.loc, I.cell, I.free, I.freeC, fun p hp => (List.mem_append.mp hp).elim (fun z => I.pin p (List.mem_append_left _ z)) (h p), I.hok, I.len⟩
theorem JU {N : List Str} (hN : N.Nodup) {i j : Nat} {x : Str} (a : N[i]? = some x) (b : N[j]? = some x) : i = j := by
 obtain ⟨h1, e1⟩ := List.getElem?_eq_some_iff.mp a
 obtain ⟨h2, e2⟩ := List.getElem?_eq_some_iff.mp b
 exact (List.getElem_inj hN).mp (e1.trans e2.symm)
theorem JV {M : Model} {A : Around} {E : Value -> Shared -> Prop} {i : Nat} {x : Str} {v : V} {u : Value} {Q : Unit -> Shared -> Prop} (I : Inv X pins σ H s) (hN : X.N.Nodup) (hi : X.N[i]? = some x) (hx : Loc X.env.scope x) (r : RelV v u)
 (h : ∀ s', Inv X pins (σ.set i (some v)) H s' -> (∃ a, Heap.SameBut a s.heap s'.heap /\ (a = X.env.locals \/ X.env.cells.lookup x = some a)) -> Q () s') (hf : X.fn x = true \/ X.env.scope.names.lookup x = some .local := by first | exact .inl rfl | exact .inr rfl | assumption) : wpAny M A (storeName X.env x u) Q E s := by
 obtain ⟨m, hn, hl⟩ := id I.loc
 have hcls : (X.env.scope.kind == .class || (X.env.scope.kind == .module && X.env.locals != X.env.globals)) = false := by rw [I.ok.kind]; rfl
 have hiσ : i < σ.length := by rw [I.len]; exact (List.getElem?_eq_some_iff.mp hi).1
 have cne := I.cne
 have tracked : ∀ {a : Addr} {h' : Heap}, (∃ o, s.heap.get? a = some o /\ H a = none) -> Heap.SameBut a s.heap h' -> HOk X.prog X.w H h' := fun {a h'} ha hs b ob e => by
  obtain ⟨_, _, hfree⟩ := ha
  refine (I.hok b ob e).stay (fun c w' hc q => (hs.2 c ?_).trans q) (fun _ q => q) fun _ _ q => q
  rintro rfl
  rcases hc with rfl | hc
  · rw [hfree] at e; cases e
  · rw [hfree] at hc; cases hc
 rcases hx with hk | hk
 · refine wpAny_storeName_local hk hn (fun h' hn' hs => ?_) hcls
   obtain ⟨oL, _, _, hoL, _⟩ := id hn
   refine h _ ⟨I.ok, I.os, I.bare, ⟨fun b o e n hb hx => ?_, fun b o e n hb hx => ?_, I.base.free, fun b o e hx => ?_, I.base.tups, I.base.frzs, I.base.tbls⟩, ⟨_, hn', fun j y v' e1 e2 e3 => ?_⟩, fun y c e => ?_, I.free, I.freeC, fun p hp => ?_, tracked ⟨oL, hoL, I.free⟩ hs, by simpa using I.len⟩ ⟨_, hs, .inl rfl⟩
   · exact (hs.2 b (Nat.ne_of_lt (Nat.lt_of_lt_of_le (Heap.lt_size e) I.ok.above))).trans (I.base.keep b o e n hb hx)
   · obtain ⟨sl, e1⟩ := I.base.slot b o e n hb hx
     exact ⟨sl, (hs.2 b (Nat.ne_of_lt (Nat.lt_of_lt_of_le (Heap.lt_size e) I.ok.above))).trans e1⟩
   · obtain ⟨o', e1⟩ := I.base.there b o e hx
     exact ⟨o', (hs.2 b (Nat.ne_of_lt (Nat.lt_of_lt_of_le (Heap.lt_size e) I.ok.above))).trans e1⟩
   · by_cases hj : j = i
     · subst hj
       rw [hi] at e1; cases e1
       rw [List.getElem?_set_self hiσ] at e2
       cases e2
       exact ⟨u, r, .inl ⟨hk, by simp⟩⟩
     · rw [List.getElem?_set_ne (Ne.symm hj)] at e2
       obtain ⟨u', r', q⟩ := hl j y v' e1 e2 e3
       refine ⟨u', r', ?_⟩
       rcases q with ⟨k, e⟩ | ⟨k, c, e, z⟩
       · refine .inl ⟨k, ?_⟩
         have : y ≠ x := fun e => hj (JU hN e1 (e ▸ hi))
         simp [this, e]
       · exact .inr ⟨k, c, e, z.sameBut hs (cne y c e)⟩
   · obtain ⟨w', z⟩ := I.cell y c e
     exact ⟨w', z.sameBut hs (cne y c e)⟩
   · obtain ⟨e, n, ne, nf, d⟩ := I.pin p hp
     exact ⟨(hs.2 p.1 ne).trans e, n, ne, nf, d⟩
 · have hfn : X.fn x = true := by
    rcases hf with z | z
    · exact z
    · rw [z] at hk; cases hk
   obtain ⟨c, hc⟩ := I.ok.has x (.inl hk)
   obtain ⟨w', z⟩ := I.cell x c hc
   refine wpAny_storeName_cell I.ok.kind hk hc z (fun h' hc' hs => ?_)
   obtain ⟨oc, hoc, hocd⟩ := id z
   refine h { s with heap := h' } ⟨I.ok, I.os, I.bare, ⟨fun b o e n hb hx => ?_, fun b o e n hb hx => ?_, I.base.free, fun b o e hx => ?_, I.base.tups, I.base.frzs, I.base.tbls⟩, ⟨m, hn.sameBut hs (Ne.symm (cne x c hc)), fun j y v' e1 e2 e3 => ?_⟩, fun y c' e => ?_, I.free, I.freeC, fun p hp => ?_, tracked ⟨oc, hoc, I.freeC x c hc⟩ hs, by simpa using I.len⟩ ⟨c, hs, .inr hc⟩
   · exact (hs.2 b (Nat.ne_of_lt (Nat.lt_of_lt_of_le (Heap.lt_size e) (I.ok.cab x c hfn hc)))).trans (I.base.keep b o e n hb hx)
   · obtain ⟨sl, e1⟩ := I.base.slot b o e n hb hx
     exact ⟨sl, (hs.2 b (Nat.ne_of_lt (Nat.lt_of_lt_of_le (Heap.lt_size e) (I.ok.cab x c hfn hc)))).trans e1⟩
   · obtain ⟨o', e1⟩ := I.base.there b o e hx
     exact ⟨o', (hs.2 b (Nat.ne_of_lt (Nat.lt_of_lt_of_le (Heap.lt_size e) (I.ok.cab x c hfn hc)))).trans e1⟩
   · by_cases hj : j = i
     · subst hj
       rw [hi] at e1; cases e1
       rw [List.getElem?_set_self hiσ] at e2
       cases e2
       exact ⟨u, r, .inr ⟨.inl hk, c, hc, hc'⟩⟩
     · rw [List.getElem?_set_ne (Ne.symm hj)] at e2
       obtain ⟨u', r', q⟩ := hl j y v' e1 e2 e3
       refine ⟨u', r', ?_⟩
       rcases q with q | ⟨k, c', e, z'⟩
       · exact .inl q
       · refine .inr ⟨k, c', e, z'.sameBut hs ?_⟩
         rintro rfl
         exact hj (JU hN e1 (I.ok.inj _ _ _ e hc ▸ hi))
   · by_cases hcc : c' = c
     · subst hcc; exact ⟨_, hc'⟩
     · obtain ⟨w2, z2⟩ := I.cell y c' e
       exact ⟨w2, z2.sameBut hs hcc⟩
   · obtain ⟨e, n, ne, nf, d⟩ := I.pin p hp
     refine ⟨(hs.2 p.1 ?_).trans e, n, ne, nf, d⟩
     intro q
     rw [q, hoc] at e
     have q' : oc = p.2 := Option.some.inj e
     exact d w' (by rw [<- q']; exact hocd)
theorem JW {M : Model} {A : Around} {E : Value -> Shared -> Prop} {i : Nat} {x : Str} {v : V} {u : Value} {Q : Unit -> Shared -> Prop} (I : Inv X pins σ H s) (hN : X.N.Nodup) (hi : X.N[i]? = some x) (hx : Loc X.env.scope x) (r : RelV v u)
 (h : ∀ s', Inv X pins (σ.set i (some v)) H s' -> Q () s') (hf : X.fn x = true \/ X.env.scope.names.lookup x = some .local := by first | exact .inl rfl | exact .inr rfl | assumption) : wpAny M A (storeName X.env x u) Q E s :=
 JV I hN hi hx r (fun s' I' _ => h s' I') hf
theorem Inv.call' {s' : Shared} {ch : List Addr} (I : Inv X pins σ H s) (ho : s'.os = s.os) (u : Un (frs X.stack) ch H H' s.heap s'.heap) (hok : HOk X.prog X.w H' s'.heap) (hg : AllBare s'.gens)
 (hch : ∀ b ∈ ch, (b ∈ X.ex \/ X.s₀.heap.objs.size <= b) /\ b ≠ X.env.locals /\ (∀ x c, X.env.cells.lookup x = some c -> c ≠ b) /\ ∀ p ∈ X.pn ++ pins, p.1 ≠ b) : Inv X pins σ H' s' := by
 obtain ⟨h', g', d', t', o'⟩ := s'
 have e : o' = s.os := ho
 subst e
 exact I.call (g' := g') (t' := t') (d' := d') u hok hg hch
end
abbrev XK := Value -> Option Addr -> Hp -> Prop
abbrev St := List (Option V)
abbrev VK := V -> Hp -> Prop
abbrev TE := St -> Hp -> VK -> Prop
abbrev TT := St -> Hp -> (Bool -> Hp -> Prop) -> Prop
abbrev TA := St -> Hp -> (List V -> Hp -> Prop) -> Prop
structure Ends where
 nx : St -> Hp -> Prop
 rt : VK
 bk : St -> Hp -> Prop := fun _ _ => False
 ct : St -> Hp -> Prop := fun _ _ => False
abbrev TS := Ends -> St -> Hp -> Prop
def EP (X : Cx) (pins : List (Addr × Obj)) (σ : St) (Q : VK) (u : Value) (s' : Shared) : Prop := ∃ v H', Inv X pins σ H' s' /\ RelV v u /\ Q v H'
def TP (X : Cx) (pins : List (Addr × Obj)) (σ : St) (Q : Bool -> Hp -> Prop) (b : Bool) (s' : Shared) : Prop := ∃ H', Inv X pins σ H' s' /\ Q b H'
def AP (X : Cx) (pins : List (Addr × Obj)) (σ : St) (Q : List V -> Hp -> Prop) (us : List Value) (s' : Shared) : Prop := ∃ vs H', Inv X pins σ H' s' /\ Vals vs us /\ Q vs H'
def SP (X : Cx) (pins : List (Addr × Obj)) (D : Ends) (f : Flow) (s' : Shared) : Prop :=
 match f with
 | .next => ∃ σ' H', Inv X pins σ' H' s' /\ D.nx σ' H'
 | .brk => ∃ σ' H', Inv X pins σ' H' s' /\ D.bk σ' H'
 | .cont => ∃ σ' H', Inv X pins σ' H' s' /\ D.ct σ' H'
 | .ret u => ∃ v σ' H', Inv X pins σ' H' s' /\ RelV v u /\ D.rt v H'
def PE (X : Cx) (e : Expr) (t : TE) : Prop :=
 ∀ (pins : List (Addr × Obj)) (s : Shared) (σ : St) (H : Hp) (Q : VK), Inv X pins σ H s -> t σ H Q -> wpAny (model X.prog X.w) X.A (eval e X.env) (EP X pins σ Q) X.xe s
def PT (X : Cx) (e : Expr) (t : TT) : Prop :=
 ∀ (pins : List (Addr × Obj)) (s : Shared) (σ : St) (H : Hp) (Q : Bool -> Hp -> Prop), Inv X pins σ H s -> t σ H Q -> wpAny (model X.prog X.w) X.A (isTrue e X.env (eval e X.env)) (TP X pins σ Q) X.xe s
def PW (X : Cx) (e : Expr) (t : TT) : Prop :=
 ∀ (whole : Sem Value) (pins : List (Addr × Obj)) (s : Shared) (σ : St) (H : Hp) (Q : Bool -> Hp -> Prop), Inv X pins σ H s -> t σ H Q -> wpAny (model X.prog X.w) X.A (isTrue e X.env whole) (TP X pins σ Q) X.xe s
theorem PW.pt {X : Cx} {e : Expr} {t : TT} (h : PW X e t) : PT X e t := h _
def PA (X : Cx) (es : List Expr) (t : TA) : Prop :=
 ∀ (pos : Pos) (pins : List (Addr × Obj)) (s : Shared) (σ : St) (H : Hp) (Q : List V -> Hp -> Prop), Inv X pins σ H s -> t σ H Q -> wpAny (model X.prog X.w) X.A (spliced (backTo pos (starEach es X.env))) (AP X pins σ Q) X.xe s
def PS (X : Cx) (st : Stmt) (t : TS) : Prop :=
 ∀ (pins : List (Addr × Obj)) (s : Shared) (σ : St) (H : Hp) (D : Ends), Inv X pins σ H s -> t D σ H -> wpAny (model X.prog X.w) X.A (exec st X.env) (SP X pins D) X.xe s
def PSs (X : Cx) (st : List Stmt) (t : TS) : Prop :=
 ∀ (pins : List (Addr × Obj)) (s : Shared) (σ : St) (H : Hp) (D : Ends), Inv X pins σ H s -> t D σ H -> wpAny (model X.prog X.w) X.A (execs st X.env) (SP X pins D) X.xe s
theorem thn {α : Type} {t : Sem α} {Q Q' : α -> Shared -> Prop} {M : Model} {A : Around} {E : Value -> Shared -> Prop} {s : Shared} (h : wpAny M A t Q E s) (hQ : ∀ a s, Q a s -> Q' a s) : wpAny M A t Q' E s := wpAny_mono h hQ fun _ _ x => x
end L2
namespace L2
open PySem PySem.Spec PyProof.Rows
section
variable {X : Cx}
def Ym (i : Nat) : TE := fun σ H Q => ∃ v, σ[i]? = some (some v) /\ Q v H
def tC (v : V) : TE := fun _ H Q => Q v H
theorem ZfA {i : Nat} {x : Str} {pos : Pos} (hN : X.N[i]? = some x) (hv : Vis X.env.scope x) (hd : (x == ("__debug__" : Str)) = false := by decide) (hcd : (x == ("__classdict__" : Str)) = false := by decide) : PE X (.Name x pos) (Ym i) := by
 intro pins s σ H Q I h
 obtain ⟨v, e, h⟩ := h
 obtain ⟨m, hn, hl⟩ := I.loc
 obtain ⟨u, r, l⟩ := hl i x v hN e hv
 have fin : EP X pins σ Q u s := ⟨v, H, I, r, h⟩
 rcases l with ⟨hk, hm⟩ | ⟨hk, c, hc, hcell⟩
 · exact wpAny_Name (wpAny_loadName_local I.ok.kind hk hn hm fin) hd
 · rcases hk with hk | hk
   · exact wpAny_Name (wpAny_loadName_cell I.ok.kind hk hc hcell fin) hd
   · exact wpAny_Name (wpAny_loadName_free I.ok.kind hk hc hcell fin hcd) hd
theorem Zy {i j pos} : PE X (.Constant (.int i) j pos) (tC (.int i)) := fun _ _ _ H _ I h => wpAny_Constant_int ⟨.int i, H, I.tok _, ⟨_, rfl⟩, h⟩
theorem VY {b j pos} : PE X (.Constant (.bool b) j pos) (tC (.bl b)) := fun _ _ _ H _ I h => Constant_bool ⟨.bl b, H, I, rfl, h⟩
theorem ZfB {j pos} : PE X (.Constant .none j pos) (tC .non) := fun _ _ _ H _ I h => Constant_none ⟨.non, H, I, rfl, h⟩
def Gl (X : Cx) (x : Str) : Prop := X.env.kindOf x = some .globalImplicit
theorem ZdX {E : Value -> Shared -> Prop} {pins : List (Addr × Obj)} {s : Shared} {σ : St} {H : Hp} {x : Str} {u : Value} {pos : Pos} {Q : Value -> Shared -> Prop} (I : Inv X pins σ H s) (hg : Gl X x) (hm : X.mg x = some u) (h : Q u s)
 (hd : (x == ("__debug__" : Str)) = false := by decide) : wpAny (model X.prog X.w) X.A (eval (.Name x pos) X.env) Q E s :=
 Calls.Name_function_global I.ok.kind hg (Calls.loadGlobal_global (by rw [I.ok.glob]; exact I.mod.glob.keeps I.bk) hm h) hd
theorem VZ {E : Value -> Shared -> Prop} {pins : List (Addr × Obj)} {s : Shared} {σ : St} {H : Hp} {x : Str} {u : Value} {pos : Pos} {Q : Value -> Shared -> Prop} (I : Inv X pins σ H s) (hg : Gl X x) (hm : X.mg x = none) (hv : bootBuiltins x = some u) (h : Q u s)
 (hn : x ≠ "__name__" := by decide) (hd : (x == ("__debug__" : Str)) = false := by decide) : wpAny (model X.prog X.w) X.A (eval (.Name x pos) X.env) Q E s := by
 obtain ⟨mb, h1, h2⟩ := I.mod.blt
 exact Calls.Name_function_global I.ok.kind hg (Calls.loadGlobal_builtin (by rw [I.ok.glob]; exact I.mod.glob.keeps I.bk) hm (by rw [I.ok.blt]; exact h1.keeps I.bk) ((h2 x hn).trans hv) h) hd
theorem Qt {x : Str} {v : V} {u : Value} {pos : Pos} (hg : Gl X x) (hm : X.mg x = none) (hv : bootBuiltins x = some u) (r : RelV v u) (hn : x ≠ "__name__" := by decide) (hd : (x == ("__debug__" : Str)) = false := by decide) : PE X (.Name x pos) (tC v) :=
 fun _ _ _ H _ I h => VZ I hg hm hv ⟨v, H, I, r, h⟩ hn hd
variable {a b : Expr} {ta tb : TE} {pos : Pos}
def PC (X : Cx) (op : CmpOp) (a b : Expr) (t : TE) : Prop :=
 ∀ (pins : List (Addr × Obj)) (s : Shared) (σ : St) (H : Hp) (Q : VK), Inv X pins σ H s -> t σ H Q ->
  wpAny (model X.prog X.w) X.A (eval a X.env) (fun v s₁ => wpAny (model X.prog X.w) X.A (eval b X.env) (fun u s₂ => wpAny (model X.prog X.w) X.A (compareOp op v u) (EP X pins σ Q) X.xe s₂) X.xe s₁) X.xe s
theorem ZcU (b : Expr) {op : CmpOp} (h : op ≠ .In) (h2 : op ≠ .NotIn) : behindInMarks op b = false := by
 have e1 : (op == CmpOp.In) = false := by cases op <;> first | rfl | exact absurd rfl h
 have e2 : (op == CmpOp.NotIn) = false := by cases op <;> first | rfl | exact absurd rfl h2
 cases b <;> simp [behindInMarks, e1, e2]
def JX (ta : TE) : TE := fun σ H Q => ta σ H fun x H1 => Q (.bl (!decide (x = .non))) H1
theorem RelV.none_iff {x : V} {v : Value} (r : RelV x v) : (v == Value.none) = decide (x = .non) := by
 cases x with
 | non => cases r; rfl
 | bl _ => cases r; rfl
 | int _ => obtain ⟨t, rfl⟩ := r; rfl
 | str _ => obtain ⟨t, rfl⟩ := r; rfl
 | byt _ => obtain ⟨t, rfl⟩ := r; rfl
 | flt _ => obtain ⟨t, rfl⟩ := r; rfl
 | ref _ => cases r; rfl
 | ty _ => cases r; rfl
theorem ZdY {j pos'} (ha : PE X a ta) : PC X .IsNot a (.Constant .none j pos') (JX ta) := by
 intro pins s σ H Q I h
 refine thn (ha pins s σ H _ I h) fun v s1 ⟨x, H1, I1, r1, q1⟩ => ?_
 exact Constant_none (isnot_none_gen ⟨.bl _, H1, I1, by rw [r1.none_iff]; rfl, q1⟩)
def tB (t : TE) : TT := fun σ H Q => t σ H fun x H1 => ∃ c, x = .bl c /\ Q c H1
theorem V0 {op : CmpOp} {t : TE} (h : PC X op a b t) (h1 : behindInMarks op b = false := by first | exact ZcU _ (by decide) (by decide) | rfl) : PT X (.Compare a [op] [b] pos) (tB t) := by
 intro pins s σ H Q I hw
 refine wpAny_isTrue_Compare1 (thn (h pins s σ H _ I hw) fun v s1 h1 => thn h1 fun u s2 h2 => thn h2 fun c s3 ⟨x, H1, I1, r1, q1⟩ => ?_) h1
 obtain ⟨d, rfl, q⟩ := q1
 cases r1
 exact wpAny_truthy_bool ⟨H1, I1, q⟩
theorem Qu {e : Expr} {t : TE} (h : PE X e t) (he : ∀ whole, isTrue e X.env whole = (do let v <- whole; standAt e.pos; holding [v] (truthy v)) := by intro _; rfl) : PT X e (tB t) := by
 intro pins s σ H Q I hw
 refine isTrue_plain (thn (h pins s σ H _ I hw) fun v s1 ⟨x, H1, I1, r1, q1⟩ => ?_) (he _)
 obtain ⟨d, rfl, q⟩ := q1
 cases r1
 exact wpAny_truthy_bool ⟨H1, I1, q⟩
variable {tA tB' : TT} {rest : List Expr}
def JY (t u : TT) : TT := fun σ H Q => t σ H fun c H1 => if c = true then u σ H1 Q else Q false H1
def tOr (t u : TT) : TT := fun σ H Q => t σ H fun c H1 => if c = true then Q true H1 else u σ H1 Q
def JZ (t : TT) : TT := fun σ H Q => t σ H fun c H1 => Q (!c) H1
theorem Qv (ha : PT X a tA) : PW X (.BoolOp .And [a] pos) tA := by
 intro wh pins s σ H Q I h
 refine isTrue_and (thn (ha pins s σ H Q I h) fun c s1 e => ?_)
 cases c with
 | true => exact isTrue_and_nil e
 | false => exact e
theorem ZfC (ha : PT X a tA) : PW X (.BoolOp .Or [a] pos) tA := by
 intro wh pins s σ H Q I h
 refine isTrue_or (thn (ha pins s σ H Q I h) fun c s1 e => ?_)
 cases c with
 | false => exact isTrue_or_nil e
 | true => exact e
theorem UI (ha : PT X a tA) (hb : PW X (.BoolOp .And (b :: rest) pos) tB') : PW X (.BoolOp .And (a :: b :: rest) pos) (JY tA tB') := by
 intro wh pins s σ H Q I h
 refine isTrue_and (thn (ha pins s σ H _ I h) fun c s1 ⟨H1, I1, q1⟩ => ?_)
 cases c with
 | true => exact hb wh pins s1 σ H1 Q I1 q1
 | false => exact ⟨H1, I1, q1⟩
theorem J0 (ha : PT X a tA) (hb : PW X (.BoolOp .Or (b :: rest) pos) tB') : PW X (.BoolOp .Or (a :: b :: rest) pos) (tOr tA tB') := by
 intro wh pins s σ H Q I h
 refine isTrue_or (thn (ha pins s σ H _ I h) fun c s1 ⟨H1, I1, q1⟩ => ?_)
 cases c with
 | true => exact ⟨H1, I1, q1⟩
 | false => exact hb wh pins s1 σ H1 Q I1 q1
theorem J4 (ha : PT X a tA) : PT X (.UnaryOp .Not a pos) (JZ tA) := by
 intro pins s σ H Q I h
 exact isTrue_not (ha pins s σ H (fun c H1 => Q (!c) H1) I h)
def J5 (ta tb : TE) : TE := fun σ H Q => ta σ H fun x H1 => ∃ c, x = .bl c /\ if c = true then tb σ H1 Q else Q (.bl false) H1
def J6 (ta : TE) : TE := fun σ H Q => ta σ H fun x H1 => ∃ c, x = .bl c /\ Q (.bl (!c)) H1
theorem J7 {op} {t : TE} (h : PE X a t) : PE X (.BoolOp op [a] pos) t := fun pins s σ H Q I hw => BoolOp_one (h pins s σ H Q I hw)
theorem J8 (ha : PE X a ta) (hb : PE X (.BoolOp .And (b :: rest) pos) tb) : PE X (.BoolOp .And (a :: b :: rest) pos) (J5 ta tb) := by
 intro pins s σ H Q I h
 refine BoolOp_and (thn (ha pins s σ H _ I h) fun v s1 ⟨x, H1, I1, r1, q1⟩ => ?_)
 obtain ⟨c, rfl, q1⟩ := q1
 cases r1
 refine wpAny_truthy_bool ?_
 cases c with
 | true => exact hb pins s1 σ H1 Q I1 q1
 | false => exact ⟨.bl false, H1, I1, rfl, q1⟩
theorem ZfD (ha : PE X a ta) : PE X (.UnaryOp .Not a pos) (J6 ta) := by
 intro pins s σ H Q I h
 refine UnaryOp_ (thn (ha pins s σ H _ I h) fun v s1 ⟨x, H1, I1, r1, q1⟩ => ?_)
 obtain ⟨c, rfl, q1⟩ := q1
 cases r1
 exact not_of (wpAny_truthy_bool ⟨.bl (!c), H1, I1, rfl, q1⟩)
end
end L2
namespace L2
open PySem PySem.Spec PyProof.Rows
def SqL (K : PySem.W.Frag) (H : Hp) (a : Addr) (xs : List V) : Prop :=
 Rd H a (.lst xs) \/
  ∃ (o : Obj) (its : Array Value) (n : Nat), K.lookup a = some o /\ o.cls = .type "list" /\ o.dict = none /\ o.data = .seq its n /\ its.size <= sizeLine /\ Vals xs its.toList
def SqT (K : PySem.W.Frag) (H : Hp) (a : Addr) (xs : List V) : Prop :=
 Rd H a (.tup xs) \/
  ∃ (o : Obj) (its : Array Value) (n : Nat), K.lookup a = some o /\ o.cls = .type "tuple" /\ o.data = .seq its n /\ its.size <= sizeLine /\ Vals xs its.toList
def Zhx : Value -> Option V
 | .none => some .non
 | .bool b => some (.bl b)
 | .int i _ => some (.int i)
 | .str x _ => some (.str x)
 | .bytes b _ => some (.byt b)
 | .float b _ => some (.flt b)
 | .ref a => some (.ref a)
 | .type n => some (.ty n)
 | _ => none
theorem RelV.abs {x : V} {u : Value} (r : RelV x u) : Zhx u = some x := by
 cases x with
 | non => cases r; rfl
 | bl _ => cases r; rfl
 | int _ => obtain ⟨t, rfl⟩ := r; rfl
 | str _ => obtain ⟨t, rfl⟩ := r; rfl
 | byt _ => obtain ⟨t, rfl⟩ := r; rfl
 | flt _ => obtain ⟨t, rfl⟩ := r; rfl
 | ref _ => cases r; rfl
 | ty _ => cases r; rfl
theorem RelV.inj {x y : V} {u : Value} (r : RelV x u) (q : RelV y u) : x = y := Option.some.inj (r.abs.symm.trans q.abs)
theorem Vals.inj : ∀ {xs ys : List V} {us : List Value}, Vals xs us -> Vals ys us -> xs = ys
 | _, _, _, .nil, .nil => rfl
 | _, _, _, .cons r t, .cons r' t' => by rw [r.inj r', Vals.inj t t']
section
variable {X : Cx} {pins : List (Addr × Obj)} {σ : St} {H : Hp} {s : Shared} {a : Addr} {xs ys : List V}
theorem SqL.of {K : PySem.W.Frag} (h : H a = some (.lst xs)) : SqL K H a xs := .inl (.inl h)
theorem SqT.of {K : PySem.W.Frag} (h : H a = some (.tup xs)) : SqT K H a xs := .inl (.inl h)
theorem Inv.list (I : Inv X pins σ H s) (h : SqL X.K H a xs) : ∃ its : List Value, Vals xs its /\ PlainL s.heap a its.toArray /\ xs.length <= sizeLine := by
 rcases h with h | ⟨o, its, n, hk, hc, hd, hs, hz, r⟩
 · obtain ⟨z, its, n, r, e⟩ := h.ok I.hok
   exact ⟨its, r, ⟨_, n, e, rfl, rfl, rfl⟩, z⟩
 · refine ⟨its.toList, r, ⟨o, n, I.kIn a o hk, hc, hd, by simpa using hs⟩, ?_⟩
   have e := r.length
   simp only [Array.length_toList] at e
   omega
theorem Inv.tuple (I : Inv X pins σ H s) (h : SqT X.K H a xs) : ∃ its : List Value, Vals xs its /\ IsTup s.heap a its.toArray /\ xs.length <= sizeLine := by
 rcases h with h | ⟨o, its, n, hk, hc, hs, hz, r⟩
 · obtain ⟨z, its, r, p⟩ := h.ok I.hok
   exact ⟨its, r, p.tup, z⟩
 · refine ⟨its.toList, r, ⟨o, I.kIn a o hk, hc, n, by simpa using hs⟩, ?_⟩
   have e := r.length
   simp only [Array.length_toList] at e
   omega
theorem Inv.list_inj (I : Inv X pins σ H s) (h : SqL X.K H a xs) (h' : SqL X.K H a ys) : xs = ys := by
 obtain ⟨its, r, ⟨o, n, e, _, _, d⟩, _⟩ := I.list h
 obtain ⟨its', r', ⟨o', n', e', _, _, d'⟩, _⟩ := I.list h'
 rw [e] at e'; cases e'
 rw [d] at d'
 injection d' with d1 _
 have : its = its' := by simpa using congrArg Array.toList d1
 subst this
 exact r.inj r'
theorem Inv.tuple_inj (I : Inv X pins σ H s) (h : SqT X.K H a xs) (h' : SqT X.K H a ys) : xs = ys := by
 obtain ⟨its, r, ⟨o, e, _, n, d⟩, _⟩ := I.tuple h
 obtain ⟨its', r', ⟨o', e', _, n', d'⟩, _⟩ := I.tuple h'
 rw [e] at e'; cases e'
 rw [d] at d'
 injection d' with d1 _
 have : its = its' := by simpa using congrArg Array.toList d1
 subst this
 exact r.inj r'
end
abbrev Cx.wish (X : Cx) (E : Value -> Shared -> Prop) : Cx := { X with xe := E }
abbrev Cx.nox (X : Cx) : Cx := X.wish fun _ _ => False
theorem Cx.Ok.wish {X : Cx} (ok : X.Ok) (E : Value -> Shared -> Prop) : (X.wish E).Ok :=
 ⟨ok.mod, ok.kind, ok.glob, ok.blt, ok.above, ok.inj, ok.has, ok.cab, ok.hd, ok.frames, ok.stk, ok.exf, ok.bs, ok.bsz, ok.noex, ok.exfs, ok.funs, ok.frf⟩
theorem Cx.Ok.unwish {X : Cx} {E : Value -> Shared -> Prop} (ok : (X.wish E).Ok) : X.Ok :=
 ⟨ok.mod, ok.kind, ok.glob, ok.blt, ok.above, ok.inj, ok.has, ok.cab, ok.hd, ok.frames, ok.stk, ok.exf, ok.bs, ok.bsz, ok.noex, ok.exfs, ok.funs, ok.frf⟩
section
variable {X : Cx} {pins : List (Addr × Obj)} {σ : St} {H : Hp} {s : Shared} {E : Value -> Shared -> Prop}
theorem Inv.wish (I : Inv X pins σ H s) (E : Value -> Shared -> Prop) : Inv (X.wish E) pins σ H s := ⟨I.ok.wish E, I.os, I.bare, I.base, I.loc, I.cell, I.free, I.freeC, I.pin, I.hok, I.len⟩
theorem Inv.unwish (I : Inv (X.wish E) pins σ H s) : Inv X pins σ H s := ⟨I.ok.unwish, I.os, I.bare, I.base, I.loc, I.cell, I.free, I.freeC, I.pin, I.hok, I.len⟩
theorem SP.unwish {D : Ends} {f : Flow} {s' : Shared} (h : SP (X.wish E) pins D f s') : SP X pins D f s' := by
 cases f with
 | next => obtain ⟨σ', H', I, q⟩ := h; exact ⟨σ', H', I.unwish, q⟩
 | brk => obtain ⟨σ', H', I, q⟩ := h; exact ⟨σ', H', I.unwish, q⟩
 | cont => obtain ⟨σ', H', I, q⟩ := h; exact ⟨σ', H', I.unwish, q⟩
 | ret u => obtain ⟨v, σ', H', I, r, q⟩ := h; exact ⟨v, σ', H', I.unwish, r, q⟩
theorem PSs.nox {st : List Stmt} {t : TS} (h : PSs X.nox st t) : PSs X st t := fun pins s σ H D I hw =>
 wpAny_mono (h pins s σ H D (I.wish _) hw) (fun _ _ q => q.unwish) fun _ _ z => False.elim z
end
section
variable {X : Cx} {st : Stmt} {rest : List Stmt} {t u : TS} {e : Expr} {te : TE} {pos : Pos}
def tNext : TS := fun D σ H => D.nx σ H
def Xg (t u : TS) : TS := fun D σ H => t { D with nx := u D } σ H
theorem Xh : PSs X [] tNext := fun _ _ σ H _ I h => wpAny_execs_nil ⟨σ, H, I, h⟩
theorem Zr (h1 : PS X st t) (h2 : PSs X rest u) : PSs X (st :: rest) (Xg t u) := by
 intro pins s σ H D I h
 refine wpAny_execs_cons (thn (h1 pins s σ H { D with nx := u D } I h) fun f s1 q => ?_)
 cases f with
 | next =>
  obtain ⟨σ', H', I', q⟩ := q
  exact h2 pins s1 σ' H' D I' q
 | ret v => exact q
 | brk => exact q
 | cont => exact q
theorem Zv (h1 : PS X st t) : PSs X [st] t := by
 intro pins s σ H D I h
 refine wpAny_execs_cons (thn (h1 pins s σ H D I h) fun f s1 q => ?_)
 cases f with
 | next => exact wpAny_execs_nil q
 | ret v => exact q
 | brk => exact q
 | cont => exact q
theorem Inv.quiet {pins : List (Addr × Obj)} {σ : St} {H : Hp} {s : Shared} (I : Inv X pins σ H s) : interactive X.env = false := by simp [interactive, I.ok.kind]
def UJ (te : TE) : TS := fun D σ H => te σ H fun _ H1 => D.nx σ H1
theorem X3 (he : PE X e te) (hs : swapsWith e none pos.line X.env = pure false := by rfl) : PS X (.Expr e pos) (UJ te) := by
 intro pins s σ H D I h
 exact wpAny_Expr_any (thn (he pins s σ H _ I h) fun v s1 ⟨x, H1, I1, r1, q1⟩ => ⟨σ, H1, I1, q1⟩) I.quiet hs
def UK (te : TE) : TS := fun D σ H => te σ H D.rt
theorem Z5 (he : PE X e te) : PS X (.Return (some e) pos) (UK te) := by
 intro pins s σ H D I h
 exact wpAny_Return_some (thn (he pins s σ H _ I h) fun v s1 ⟨x, H1, I1, r1, q1⟩ => ⟨x, σ, H1, I1, r1, q1⟩)
def Qw (c : TT) (t u : TS) : TS := fun D σ H => c σ H fun b H1 => if b = true then t D σ H1 else u D σ H1
theorem Xi {c : Expr} {a b : List Stmt} {tc : TT} (hc : PT X c tc) (ha : PSs X a t) (hb : PSs X b u) : PS X (.If c a b pos) (Qw tc t u) := by
 intro pins s σ H D I h
 refine wpAny_If (thn (hc pins s σ H _ I h) fun d s1 ⟨H1, I1, q1⟩ => ?_)
 cases d with
 | true => exact ha pins s1 σ H1 D I1 q1
 | false => exact hb pins s1 σ H1 D I1 q1
end
abbrev TG := V -> St -> Hp -> (St -> Hp -> Prop) -> Prop
abbrev TGs := List V -> St -> Hp -> (St -> Hp -> Prop) -> Prop
def PG (X : Cx) (target : Expr) (t : TG) : Prop :=
 ∀ (pins : List (Addr × Obj)) (s : Shared) (σ : St) (H : Hp) (v : V) (u : Value) (Q : St -> Hp -> Prop), Inv X pins σ H s -> RelV v u -> t v σ H Q ->
  wpAny (model X.prog X.w) X.A (assign target X.env u) (fun _ s' => ∃ σ' H', Inv X pins σ' H' s' /\ Q σ' H') X.xe s
def PGs (X : Cx) (ts : List Expr) (t : TGs) : Prop :=
 ∀ (pins : List (Addr × Obj)) (s : Shared) (σ : St) (H : Hp) (vs : List V) (us : List Value) (Q : St -> Hp -> Prop), Inv X pins σ H s -> Vals vs us -> t vs σ H Q ->
  wpAny (model X.prog X.w) X.A (assignInOrder ((assignEach ts X.env).map (·.2)) us) (fun _ s' => ∃ σ' H', Inv X pins σ' H' s' /\ Q σ' H') X.xe s
abbrev TSet := V -> V -> V -> Hp -> (Hp -> Prop) -> Prop
def J9 (X : Cx) (t : TSet) : Prop :=
 ∀ (pins : List (Addr × Obj)) (s : Shared) (σ : St) (H : Hp) (o i v : V) (ov iv u : Value) (Q : Hp -> Prop), Inv X pins σ H s -> RelV o ov -> RelV i iv -> RelV v u -> t o i v H Q ->
  wpAny (model X.prog X.w) X.A (setItem ov iv u) (fun _ s' => ∃ H', Inv X pins σ H' s' /\ Q H') X.xe s
section
variable {X : Cx} {pos : Pos}
def Yn (i : Nat) : TG := fun v σ H Q => Q (σ.set i (some v)) H
theorem ZO {i : Nat} {x : Str} (hN : X.N.Nodup) (hi : X.N[i]? = some x) (hx : Loc X.env.scope x) (hf : X.fn x = true \/ X.env.scope.names.lookup x = some .local := by first | exact .inl rfl | exact .inr rfl | assumption) : PG X (.Name x pos) (Yn i) := by
 intro pins s σ H v u Q I r h
 exact wpAny_assign_Name (JW I hN hi hx r (fun s' I' => ⟨_, H, I', h⟩) hf)
def gNil : TGs := fun vs σ H Q => vs = [] /\ Q σ H
def ZeW (t : TG) (u : TGs) : TGs := fun vs σ H Q => ∃ v r, vs = v :: r /\ t v σ H fun σ' H' => u r σ' H' Q
theorem ZdZ : PGs X [] gNil := by
 intro pins s σ H vs us Q I r h
 obtain ⟨e, h⟩ := h
 subst e
 cases r
 exact assignInOrder_nil ⟨σ, H, I, h⟩
theorem Za2 {e : Expr} {es : List Expr} {t : TG} {u : TGs} (h1 : PG X e t) (h2 : PGs X es u)
 (hs : (assignEach (e :: es) X.env).map (·.2) = assign e X.env :: (assignEach es X.env).map (·.2) := by rfl) : PGs X (e :: es) (ZeW t u) := by
 intro pins s σ H vs us Q I r h
 obtain ⟨v, vr, e1, h⟩ := h
 subst e1
 cases r with
 | cons r rr =>
  rw [hs]
  refine assignInOrder_cons (thn (h1 pins s σ H _ _ _ I r h) fun _ s1 ⟨σ1, H1, I1, q1⟩ => ?_)
  exact h2 pins s1 σ1 H1 _ _ Q I1 rr q1
def Qx (K : PySem.W.Frag) (n : Nat) (t : TGs) : TG := fun v σ H Q => ∃ a xs, v = .ref a /\ SqT K H a xs /\ xs.length = n /\ t xs σ H Q
theorem ZfE {es : List Expr} {k : Nat} {t : TGs} {n : Nat} (hc : X.calm = true) (h : PGs X es t)
 (hn : (assignEach es X.env).length = n := by rfl) (hst : (assignEach es X.env).findIdx? (·.1) = none := by rfl) : PG X (.Tuple es k pos) (Qx X.K n t) := by
 intro pins s σ H v u Q I r hw
 obtain ⟨a, xs, e1, hq, hl, hw⟩ := hw
 subst e1
 cases r
 obtain ⟨its, rv, ht, hz⟩ := I.tuple hq
 refine assign_Tuple_tuple (I.ok.hd hc) ht (by simp [hn, <- hl, rv.length]) hst fun h' hx => ?_
 have I1 : Inv X pins σ H { s with heap := h' } := I.kept (t' := s.toks) fun b o e => hx b o (Nat.ne_of_lt (Heap.lt_size e)) e
 exact h pins _ σ H xs _ Q I1 (by simpa using rv) hw
def Zhc (to ti : TE) (t : TSet) : TG := fun v σ H Q => to σ H fun o H1 => ti σ H1 fun i H2 => t o i v H2 fun H3 => Q σ H3
theorem ZfF {o i : Expr} {to ti : TE} {t : TSet} (ho : PE X o to) (hi : PE X i ti) (hs : J9 X t)
 (ha : ∀ v, assign (.Subscript o i pos) X.env v = (do
   let ov <- holding [v] (eval o X.env)
   let iv <- holding [v, ov] (eval i X.env)
   standAt pos
   holding [v, ov, iv] (setItem ov iv v)
   release [v, ov, iv] []) := by intro _; rfl) : PG X (.Subscript o i pos) (Zhc to ti t) := by
 intro pins s σ H v u Q I r h
 rw [ha]
 refine wpAny_bind (wpAny_holding (thn (ho pins s σ H _ I h) fun ov s1 ⟨x, H1, I1, r1, q1⟩ => ?_))
 refine wpAny_bind (wpAny_holding (thn (hi pins s1 σ H1 _ I1 q1) fun iv s2 ⟨y, H2, I2, r2, q2⟩ => ?_))
 refine wpAny_bind (wpAny_standAt (wpAny_bind (wpAny_holding (thn (hs pins s2 σ H2 x y v ov iv u _ I2 r1 r2 r q2) fun _ s3 ⟨H3, I3, q3⟩ => ?_))))
 exact wpAny_release ⟨σ, H3, I3, q3⟩
def YW (te : TE) (g : TG) : TS := fun D σ H => te σ H fun x H1 => g x σ H1 D.nx
theorem ZfG {tg e : Expr} {te : TE} {g : TG} (he : PE X e te) (hg : PG X tg g) (hs : swapsWithSole [tg] e pos.line X.env = pure false := by rfl) (hw : swappedStores [tg] e X.env = pure none := by rfl)
 (h1 : (assignEach [tg] X.env).map (·.2) = [assign tg X.env] := by rfl) : PS X (.Assign [tg] e pos) (YW te g) := by
 intro pins s σ H D I h
 refine wpAny_Assign_stores (thn (he pins s σ H _ I h) fun v s1 ⟨x, H1, I1, r1, q1⟩ => ?_) hs hw
 rw [h1]
 exact thn (hg pins s1 σ H1 x v _ I1 r1 q1) fun _ s2 q => q
theorem ZC {i : Nat} {x : Str} {e : Expr} {te : TE} {pos' : Pos} (hN : X.N.Nodup) (hi : X.N[i]? = some x) (hx : Loc X.env.scope x) (he : PE X e te) (hs : swapsWith e (some (.Name x pos')) pos.line X.env = pure false := by rfl) (hf : X.fn x = true \/ X.env.scope.names.lookup x = some .local := by first | exact .inl rfl | exact .inr rfl | assumption) :
 PS X (.Assign [.Name x pos'] e pos) (YW te (Yn i)) := by
 intro pins s σ H D I h
 refine wpAny_Assign_Name (thn (he pins s σ H _ I h) fun v s1 ⟨y, H1, I1, r1, q1⟩ => ?_) hs
 exact JW I1 hN hi hx r1 (fun s2 I2 => ⟨_, H1, I2, q1⟩) hf
end
section
variable {X : Cx} {pos : Pos}
def Zdr (c : TT) (tb : TS) : TS := fun D σ H => ∃ W : Nat -> St -> Hp -> Prop, (∃ m, W m σ H) /\ ∀ m σ H, W m σ H ->
 c σ H fun b H1 => if b = true then ∃ N : St -> Hp -> Prop, (∀ σ' H', N σ' H' -> ∃ m', m' < m /\ W m' σ' H') /\ tb { D with nx := N, ct := N, bk := D.nx } σ H1 else D.nx σ H1
theorem Qy {c : Expr} {body : List Stmt} {tc : TT} {tb : TS} (hp : PassesOwn (model X.prog X.w) X.A X.env X.xe) (hc : PT X c tc) (hb : PSs X body tb) : PS X (.While c body [] pos) (Zdr tc tb) := by
 intro pins s σ H D I h
 obtain ⟨W, ⟨m0, w0⟩, turn⟩ := h
 refine wpAny_While (codeAny_whileLoop (fun n s' => ∃ σ' H', Inv X pins σ' H' s' /\ W n σ' H') ?_ m0 ⟨σ, H, I, w0⟩)
 rintro n s1 ⟨σ1, H1, I1, w1⟩
 refine wpAny_passesOwn hp (thn (hc pins s1 σ1 H1 _ I1 (turn n σ1 H1 w1)) fun b s2 ⟨H2, I2, q2⟩ => ?_)
 cases b with
 | true =>
  obtain ⟨N, hN, q2⟩ := q2
  rw [if_pos rfl]
  refine wpAny_passesOwn hp (thn (hb pins s2 σ1 H2 _ I2 q2) fun f s3 q3 => ?_)
  cases f with
  | next =>
   obtain ⟨σ3, H3, I3, n3⟩ := q3
   obtain ⟨m', hm, w3⟩ := hN σ3 H3 n3
   exact ⟨m', hm, σ3, H3, I3, w3⟩
  | cont =>
   obtain ⟨σ3, H3, I3, n3⟩ := q3
   obtain ⟨m', hm, w3⟩ := hN σ3 H3 n3
   exact ⟨m', hm, σ3, H3, I3, w3⟩
  | brk => exact q3
  | ret v => exact q3
 | false =>
  rw [if_neg Bool.false_ne_true]
  exact wpAny_execs_nil ⟨σ1, H2, I2, q2⟩
end
structure It where
 go : Nat -> Hp -> Prop
 yld : Nat -> Hp -> V -> Hp -> Prop
 stop : Nat -> Hp -> Prop
def ZY (X : Cx) (pins : List (Addr × Obj)) (H : Hp) (b : Addr) : Prop :=
 H b = none /\ b ≠ X.env.locals /\ b ∉ X.fs /\ (b ∈ X.ex \/ X.s₀.heap.objs.size <= b) /\ (∀ x c, X.env.cells.lookup x = some c -> c ≠ b) /\ ∀ p ∈ X.pn ++ pins, p.1 ≠ b
theorem Inv.fpOk {X : Cx} {pins : List (Addr × Obj)} {σ : St} {H H' : Hp} {s : Shared} {b : Addr} (I : Inv X pins σ H s) (hb : s.heap.objs.size <= b) (hn : H' b = none) : ZY X pins H' b := by
 refine ⟨hn, Nat.ne_of_gt (Nat.lt_of_lt_of_le I.lt hb), I.nofs hb, .inr (Nat.le_trans I.sz hb), fun x c e z => ?_, fun p hp z => ?_⟩
 · obtain ⟨v, q⟩ := I.cell x c e
   exact absurd (Nat.lt_of_lt_of_le q.lt (by rw [z]; exact hb)) (Nat.lt_irrefl _)
 · exact absurd (Nat.lt_of_lt_of_le (Heap.lt_size (I.pin p hp).1) (by rw [z]; exact hb)) (Nat.lt_irrefl _)
structure Turn (P : Program) (w : World) (K : PySem.W.Frag) (tg : Expr) (J : It) (fp : List Addr) (it : Addr) (tn : Nat -> Heap -> Prop) : Prop where
 mem : it ∈ fp
 obj : ∀ i h, tn i h -> ∀ b ∈ fp, ∃ o, h.get? b = some o /\ ∀ v, o.data ≠ .cell v
 keep : ∀ i h h', tn i h -> (∀ b ∈ fp, ∀ o, h.get? b = some o -> h'.get? b = some o) -> tn i h'
 item : ∀ (X : Cx), X.prog = P -> X.w = w -> X.K = K -> X.calm = true -> ∀ (i : Nat) (pins : List (Addr × Obj)) (s : Shared) (σ : St) (H : Hp) (E : Value -> Shared -> Prop), Inv X pins σ H s -> (∀ b ∈ fp, ZY X pins H b) -> tn i s.heap -> J.go i H ->
  wpAny (model P w) X.A (pyNext (.ref it)) (fun r s1 => ∃ u, r = some u /\
   wpAny (model P w) X.A (letOwnedTupleGo tg (.ref it) u) (fun _ s2 => ∃ x H', Inv X pins σ H' s2 /\ RelV x u /\ J.yld i H x H' /\ tn (i + 1) s2.heap /\ ∀ b ∈ fp, H' b = none) E s1) E s
 done : ∀ (X : Cx), X.prog = P -> X.w = w -> X.K = K -> X.calm = true -> ∀ (i : Nat) (pins : List (Addr × Obj)) (s : Shared) (σ : St) (H : Hp) (E : Value -> Shared -> Prop), Inv X pins σ H s -> (∀ b ∈ fp, ZY X pins H b) -> tn i s.heap -> J.stop i H ->
  wpAny (model P w) X.A (pyNext (.ref it)) (fun r s1 => r = none /\ Inv X pins σ H s1) E s
 self : ∀ (A : Around) (i : Nat) (s : Shared) (Q : Value -> Shared -> Prop) (E : Value -> Shared -> Prop), tn i s.heap -> Q (.ref it) s -> wpAny (model P w) A (pyIter (.ref it)) Q E s
abbrev TI := St -> Hp -> (It -> Hp -> Prop) -> Prop
def PIE (X : Cx) (pins : List (Addr × Obj)) (σ : St) (tg : Expr) (R : It -> Hp -> Prop) (itv : Value) (s2 : Shared) : Prop :=
 ∃ (it : Addr) (fp : List Addr) (tn : Nat -> Heap -> Prop) (J : It) (H' : Hp), itv = .ref it /\ Inv X pins σ H' s2 /\ Turn X.prog X.w X.K tg J fp it tn /\ tn 0 s2.heap /\ (∀ b ∈ fp, ZY X pins H' b) /\ R J H'
def PI (X : Cx) (tg iter : Expr) (wi : TI) : Prop :=
 ∀ (pins : List (Addr × Obj)) (s : Shared) (σ : St) (H : Hp) (R : It -> Hp -> Prop), Inv X pins σ H s -> wi σ H R ->
  wpAny (model X.prog X.w) X.A (eval iter X.env) (fun v s1 => wpAny (model X.prog X.w) X.A (pyIter v) (PIE X pins σ tg R) X.xe s1) X.xe s
theorem UL {M : Model} {A : Around} {E : Value -> Shared -> Prop} {s : Shared} {tg : Expr} {it : Addr} {u : Value} {o : Obj} {n : String} {vs : Array Value} {Q : Unit -> Shared -> Prop} (ho : s.heap.get? it = some o) (hc : o.cls = .type n) (hd : o.data = .fields vs)
 (hn : ["enumerate", "zip", "dict_itemiterator", "dict_reverseitemiterator", "odict_iterator", "itertools.zip_longest", "itertools.pairwise"].contains n = false) (hQ : Q () s) : wpAny M A (letOwnedTupleGo tg (.ref it) u) Q E s := by
 unfold letOwnedTupleGo
 cases tg <;> first
  | exact wpAny_pure hQ
  | (cases u <;> first
      | exact wpAny_pure hQ
      | (refine wpAny_bind (wpAny_load ho ?_)
         rw [hc, hd]
         show wpAny M A (if (["enumerate", "zip", "dict_itemiterator", "dict_reverseitemiterator", "odict_iterator", "itertools.zip_longest", "itertools.pairwise"].contains n && vs[0]? == some (rawInt _)) = true then _ else _) Q E s
         rw [if_neg (by intro h; rw [hn, Bool.false_and] at h; cases h)]
         exact wpAny_pure hQ))
def Itl (K : PySem.W.Frag) (a : Addr) : It :=
 ⟨fun i H => ∃ xs x, SqL K H a xs /\ xs[i]? = some x, fun i H x H' => H' = H /\ ∀ xs, SqL K H a xs -> xs[i]? = some x, fun i H => ∃ xs, SqL K H a xs /\ xs.length <= i⟩
def Itt (K : PySem.W.Frag) (a : Addr) : It :=
 ⟨fun i H => ∃ xs x, SqT K H a xs /\ xs[i]? = some x, fun i H x H' => H' = H /\ ∀ xs, SqT K H a xs -> xs[i]? = some x, fun i H => ∃ xs, SqT K H a xs /\ xs.length <= i⟩
def Itr (lo : Int) (n : Nat) : It := ⟨fun i _ => i < n, fun i H x H' => H' = H /\ x = .int (lo + i), fun i _ => n <= i⟩
theorem Zcn {P : Program} {w : World} {K : PySem.W.Frag} {tg : Expr} (a it : Addr) : Turn P w K tg (Itl K a) [it] it (fun i h => h.IsListIter it a i) where
 mem := by simp
 obj := fun i h st b hb => by
  have e : b = it := by simpa using hb
  subst e
  obtain ⟨o, e, c, d⟩ := st
  exact ⟨o, e, fun v z => by rw [d] at z; cases z⟩
 keep := fun i h h' st k => st.at fun o e => k it (by simp) o e
 item := by
  intro X hP hw hK hc i pins s σ H E I hf st hg
  subst hP hw hK
  obtain ⟨xs, x, hq, hx⟩ := hg
  obtain ⟨its, rv, p, hz⟩ := I.list hq
  obtain ⟨u, hu, ru⟩ := rv.get hx
  obtain ⟨f0, f1, f2, f3, f4, f5⟩ := hf it (by simp)
  refine wpAny_pyNext_list_item st p.isList (x := u) (by simpa using hu) fun h' st' sb => ?_
  have I1 : Inv X pins σ H { s with heap := h' } := I.turned (t' := s.toks) (fun b o hb e => (sb.2 b hb).trans e) f0 f1 f3 f4 f5
  obtain ⟨o, e, c, d⟩ := id st'
  exact ⟨u, rfl, UL (s := { s with heap := h' }) e c d (by decide) ⟨x, H, I1, ru, ⟨rfl, fun ys hy => by rw [I.list_inj hy hq]; exact hx⟩, st', fun b hb => (hf b hb).1⟩⟩
 done := by
  intro X hP hw hK hc i pins s σ H E I hf st hg
  subst hP hw hK
  obtain ⟨xs, hq, hx⟩ := hg
  obtain ⟨its, rv, p, hz⟩ := I.list hq
  obtain ⟨f0, f1, f2, f3, f4, f5⟩ := hf it (by simp)
  have hl := rv.length
  exact wpAny_pyNext_list_end (I.ok.hd hc) st p.isList (by simp; omega) fun h' eb => ⟨rfl, I.turned (t' := s.toks) (fun b o hb e => eb b o hb e) f0 f1 f3 f4 f5⟩
 self := fun _ _ _ _ _ st h => wpAny_pyIter_listiter st h
theorem Zah {P : Program} {w : World} {K : PySem.W.Frag} {tg : Expr} (a it : Addr) : Turn P w K tg (Itt K a) [it] it (fun i h => h.IsTupleIter it a i) where
 mem := by simp
 obj := fun i h st b hb => by
  have e : b = it := by simpa using hb
  subst e
  obtain ⟨o, e, c, d⟩ := st
  exact ⟨o, e, fun v z => by rw [d] at z; cases z⟩
 keep := fun i h h' st k => st.at fun o e => k it (by simp) o e
 item := by
  intro X hP hw hK hc i pins s σ H E I hf st hg
  subst hP hw hK
  obtain ⟨xs, x, hq, hx⟩ := hg
  obtain ⟨its, rv, p, hz⟩ := I.tuple hq
  obtain ⟨u, hu, ru⟩ := rv.get hx
  obtain ⟨f0, f1, f2, f3, f4, f5⟩ := hf it (by simp)
  refine wpAny_pyNext_tuple_item st (show s.heap.IsTuple a its.toArray from p) (x := u) (by simpa using hu) fun h' st' sb => ?_
  have I1 : Inv X pins σ H { s with heap := h' } := I.turned (t' := s.toks) (fun b o hb e => (sb.2 b hb).trans e) f0 f1 f3 f4 f5
  obtain ⟨o, e, c, d⟩ := id st'
  exact ⟨u, rfl, UL (s := { s with heap := h' }) e c d (by decide) ⟨x, H, I1, ru, ⟨rfl, fun ys hy => by rw [I.tuple_inj hy hq]; exact hx⟩, st', fun b hb => (hf b hb).1⟩⟩
 done := by
  intro X hP hw hK hc i pins s σ H E I hf st hg
  subst hP hw hK
  obtain ⟨xs, hq, hx⟩ := hg
  obtain ⟨its, rv, p, hz⟩ := I.tuple hq
  obtain ⟨f0, f1, f2, f3, f4, f5⟩ := hf it (by simp)
  have hl := rv.length
  exact wpAny_pyNext_tuple_end (I.ok.hd hc) st (show s.heap.IsTuple a its.toArray from p) (by simp; omega) fun h' eb => ⟨rfl, I.turned (t' := s.toks) (fun b o hb e => eb b o hb e) f0 f1 f3 f4 f5⟩
 self := fun _ _ _ _ _ st h => wpAny_pyIter_tupleiter st h
theorem Zbu {P : Program} {w : World} {K : PySem.W.Frag} {tg : Expr} (it : Addr) (lo : Int) (n : Nat) : Turn P w K tg (Itr lo n) [it] it (fun i h => IsRangeIter h it (lo + (i : Nat) * 1) ((n : Int) - (i : Nat)) 1) where
 mem := by simp
 obj := fun i h st b hb => by
  have e : b = it := by simpa using hb
  subst e
  exact ⟨_, st, fun v z => by
   have z' : Data.fields _ = Data.cell v := z
   cases z'⟩
 keep := fun i h h' st k => k it (by simp) _ st
 item := by
  intro X hP hw hK hc i pins s σ H E I hf st hg
  subst hP hw hK
  obtain ⟨f0, f1, f2, f3, f4, f5⟩ := hf it (by simp)
  have W := Walks.range (prog := X.prog) (w := X.w) (I.ok.hd hc) it lo 1 n
  refine W.item i s _ _ hg st fun v h' tk hv st' kk => ?_
  obtain ⟨t, rfl⟩ := hv
  have I1 : Inv X pins σ H { s with heap := h', toks := tk } := I.turned (fun b o hb e => kk b o (by simpa using hb) e) f0 f1 f3 f4 f5
  refine ⟨_, rfl, UL (s := { s with heap := h', toks := tk }) (n := "range_iterator") st' rfl rfl (by decide) ⟨.int (lo + i), H, I1, ⟨t, ?_⟩, ⟨rfl, rfl⟩, st', fun b hb => (hf b hb).1⟩⟩
  rw [Int.mul_one]
 done := by
  intro X hP hw hK hc i pins s σ H E I hf st hg
  subst hP hw hK
  obtain ⟨f0, f1, f2, f3, f4, f5⟩ := hf it (by simp)
  exact wpAny_pyNext_range_end (I.ok.hd hc) st (by have : n <= i := hg; omega) fun h' eb => ⟨rfl, I.turned (t' := s.toks) (fun b o hb e => eb b o hb e) f0 f1 f3 f4 f5⟩
 self := fun _ _ _ _ _ st h => wpAny_pyIter_rangeiter st h
end L2
namespace L2
open PySem PySem.Spec PyProof.Rows
section
variable {X : Cx} {tg : Expr}
def Zhy (K : PySem.W.Frag) (tl : TE) : TI := fun σ H R => tl σ H fun x H1 => ∃ a, x = .ref a /\ (∃ xs, SqT K H1 a xs) /\ R (Itt K a) H1
theorem ZfH {l : Expr} {tl : TE} (hl : PE X l tl) : PI X tg l (Zhy X.K tl) := by
 intro pins s σ H R I h
 refine thn (hl pins s σ H _ I h) fun v s1 ⟨x, H1, I1, r1, q1⟩ => ?_
 obtain ⟨a, e, ⟨xs, hq⟩, q⟩ := q1
 subst e
 cases r1
 obtain ⟨its, rv, p, hz⟩ := I1.tuple hq
 refine wpAny_pyIter_tuple (show s1.heap.IsTuple a its.toArray from p) ?_
 refine ⟨s1.heap.objs.size, [s1.heap.objs.size], _, _, H1, rfl, I1.kept (t' := s1.toks) fun b o e => Heap.get?_push_of_some _ e, Zah a _, ⟨_, Heap.get?_push_size _ rfl, rfl, rfl⟩, fun b hb => ?_, q⟩
 have e : b = s1.heap.objs.size := by simpa using hb
 subst e
 exact I1.fpOk (Nat.le_refl _) (I1.hok.fresh (Nat.le_refl _))
theorem ZcV {pins : List (Addr × Obj)} {σ : St} {H : Hp} {s : Shared} {R : It -> Hp -> Prop} {E : Value -> Shared -> Prop} {lo hi : Int} {t u v : Tok} {tk : Nat} (I : Inv X pins σ H s) (h1 : -(2 ^ 62) <= lo) (h2 : lo < 2 ^ 62) (h3 : -(2 ^ 62) <= hi) (h4 : hi < 2 ^ 62)
 (q : R (Itr lo (hi - lo).toNat) H) : wpAny (model X.prog X.w) X.A (pyIter (.ref s.heap.objs.size)) (PIE X pins σ tg R) E { s with heap := s.heap.push { cls := .type "range", data := .fields #[.int lo t, .int hi u, .int 1 v] }, toks := tk } := by
 refine wpAny_pyIter_range (IsRange.new ..) (small_one h1 h2 h3 h4) ?_
 have I1 : Inv X pins σ H { s with heap := s.heap.push { cls := .type "range", data := .fields #[.int lo t, .int hi u, .int 1 v] }, toks := tk } := I.kept fun b o e => Heap.get?_push_of_some _ e
 refine ⟨(s.heap.push { cls := .type "range", data := .fields #[.int lo t, .int hi u, .int 1 v] }).objs.size, [(s.heap.push { cls := .type "range", data := .fields #[.int lo t, .int hi u, .int 1 v] }).objs.size], _, _, H, rfl,
  I1.kept (t' := tk) fun b o e => Heap.get?_push_of_some _ e, Zbu _ lo (hi - lo).toNat, ?_, fun b hb => ?_, q⟩
 · have e1 : lo + ((0 : Nat) : Int) * 1 = lo := by simp
   have e2 : (((hi - lo).toNat : Nat) : Int) - ((0 : Nat) : Int) = Builtin.Range.rangeSize lo hi 1 := by rw [rangeSize_one]; split <;> omega
   show IsRangeIter _ _ (lo + ((0 : Nat) : Int) * 1) ((((hi - lo).toNat : Nat) : Int) - ((0 : Nat) : Int)) 1
   rw [e1, e2]
   exact Heap.get?_push_size _ rfl
 · have e : b = (s.heap.push { cls := .type "range", data := .fields #[.int lo t, .int hi u, .int 1 v] }).objs.size := by simpa using hb
   subst e
   exact I1.fpOk (Nat.le_refl _) (I1.hok.fresh (Nat.le_refl _))
def Qz (ta : TA) : TI := fun σ H R => ta σ H fun vs H1 => ∃ j : Int, vs = [.int j] /\ -(2 ^ 62) <= j /\ j < 2 ^ 62 /\ R (Itr 0 j.toNat) H1
theorem Xt {a : Expr} {ta : TA} {p pos : Pos} (hg : Gl X "range") (hm : X.mg "range" = none) (ha : PA X [a] ta) (hs : starEach [a] X.env = [(false, eval a X.env)] := by rfl) : PI X tg (.Call (.Name "range" p) [a] [] pos) (Qz ta) := by
 intro pins s σ H R I h
 refine Call_ (VZ I hg hm boot_range (PyProof.Rows.callWith_type1 (thn (ha pos pins s σ H _ I h) fun us s1 ⟨vs, H1, I1, r1, q1⟩ => ?_) hs rfl))
 obtain ⟨j, e, q1, q2, q⟩ := q1
 subst e
 cases r1 with
 | cons r rr =>
  cases rr
  obtain ⟨t, rfl⟩ := r
  exact call_range_1 (ZcV I1 (by omega) (by omega) q1 q2 (by simpa using q))
def V1 (wi : TI) (g : TG) (tb : TS) : TS := fun D σ H => wi σ H fun J H1 => ∃ W : Nat -> Nat -> St -> Hp -> Prop, (∃ m, W 0 m σ H1) /\ ∀ i m σ H, W i m σ H ->
 (J.stop i H /\ D.nx σ H) \/ (J.go i H /\ ∃ N : St -> Hp -> Prop, (∀ σ' H', N σ' H' -> ∃ m', m' < m /\ W (i + 1) m' σ' H') /\ ∀ x H', J.yld i H x H' -> g x σ H' fun σ2 H2 => tb { D with nx := N, ct := N, bk := D.nx } σ2 H2)
def Yg (fp : List Addr) (h : Heap) : List (Addr × Obj) := fp.filterMap fun b => (h.get? b).map fun o => (b, o)
theorem Vj {fp : List Addr} {h : Heap} {b : Addr} {o : Obj} (hb : b ∈ fp) (e : h.get? b = some o) : (b, o) ∈ Yg fp h := List.mem_filterMap.mpr ⟨b, hb, by rw [e]; rfl⟩
theorem QA {fp : List Addr} {h : Heap} {p : Addr × Obj} (hp : p ∈ Yg fp h) : p.1 ∈ fp /\ h.get? p.1 = some p.2 := by
 obtain ⟨b, hb, e⟩ := List.mem_filterMap.mp hp
 cases q : h.get? b with
 | none => rw [q] at e; cases e
 | some o =>
  rw [q] at e
  have e' : (b, o) = p := Option.some.inj e
  subst e'
  exact ⟨hb, q⟩
theorem Inv.pinned {pins : List (Addr × Obj)} {σ : St} {H : Hp} {s : Shared} {fp : List Addr} (I : Inv X pins σ H s) (hf : ∀ b ∈ fp, ZY X pins H b) (ho : ∀ b ∈ fp, ∃ o, s.heap.get? b = some o /\ ∀ v, o.data ≠ .cell v) : Inv X (pins ++ Yg fp s.heap) σ H s :=
 I.pins_of fun p hp => (List.mem_append.mp hp).elim (fun z => I.pin p (List.mem_append_right _ z)) fun z => by
  obtain ⟨hb, e⟩ := QA z
  obtain ⟨f0, f1, f2, _⟩ := hf p.1 hb
  obtain ⟨o, e', d⟩ := ho p.1 hb
  rw [e] at e'; cases e'
  exact ⟨e, f0, f1, f2, d⟩
theorem Inv.unpinned {pins pl : List (Addr × Obj)} {σ : St} {H : Hp} {s : Shared} (I : Inv X (pins ++ pl) σ H s) : Inv X pins σ H s := I.pins_of fun p hp => I.pin p (List.mem_append_right _ (List.mem_append_left _ hp))
theorem YQ {iter : Expr} {body : List Stmt} {wi : TI} {g : TG} {tb : TS} {pos : Pos} (hp : PassesOwn (model X.prog X.w) X.A X.env X.xe) (hc : X.calm = true) (hi : PI X tg iter wi) (hg : PG X tg g) (hb : PSs X body tb)
 (hs : ∀ x, foldedSetIterable iter X.env x = pure x := by intro _; rfl) : PS X (.For tg iter body [] pos) (V1 wi g tb) := by
 intro pins s σ H D I h
 refine wpAny_For (thn (hi pins s σ H _ I h) fun v s1 h1 => thn h1 fun itv s2 h2 => ?_) hs
 obtain ⟨it, fp, tn, J, H2, e, I2, T, st2, f2, W, ⟨m0, w0⟩, turn⟩ := h2
 subst e
 have stat : ∀ {H' : Hp}, (∀ b ∈ fp, H' b = none) -> ∀ b ∈ fp, ZY X pins H' b := fun hn b hb => ⟨hn b hb, (f2 b hb).2⟩
 refine codeAny_forLoop_any (fun n s' => ∃ i σ' H', Inv X pins σ' H' s' /\ tn i s'.heap /\ (∀ b ∈ fp, H' b = none) /\ W i n σ' H') ?_ m0 ⟨0, σ, H2, I2, st2, fun b hb => (f2 b hb).1, w0⟩
 rintro n s3 ⟨i, σ3, H3, I3, st3, fr3, w3⟩
 rcases turn i n σ3 H3 w3 with ⟨stop, qn⟩ | ⟨go, N, hN, step⟩
 · refine wpAny_passesOwn hp (thn (T.done X rfl rfl rfl hc i pins s3 σ3 H3 X.xe I3 (stat fr3) st3 stop) fun r s4 ⟨hr, I4⟩ => ?_)
   subst hr
   exact wpAny_execs_nil ⟨σ3, H3, I4, qn⟩
 · refine wpAny_passesOwn hp (thn (T.item X rfl rfl rfl hc i pins s3 σ3 H3 X.xe I3 (stat fr3) st3 go) fun r s4 ⟨u, hr, h4⟩ => ?_)
   subst hr
   refine wpAny_passesOwn hp (thn h4 fun _ s5 ⟨x, H5, I5, r5, y5, st5, fr5⟩ => ?_)
   have I5' := I5.pinned (stat fr5) (T.obj _ _ st5)
   refine wpAny_passesOwn hp (thn (hg _ s5 σ3 H5 x u _ I5' r5 (step x H5 y5)) fun _ s6 ⟨σ6, H6, I6, q6⟩ => ?_)
   refine wpAny_passesOwn hp (thn (hb _ s6 σ6 H6 _ I6 q6) fun f s7 q7 => ?_)
   have again : ∀ {σ7 : St} {H7 : Hp}, Inv X (pins ++ Yg fp s5.heap) σ7 H7 s7 -> N σ7 H7 -> ∃ m, m < n /\ ∃ i σ' H', Inv X pins σ' H' s7 /\ tn i s7.heap /\ (∀ b ∈ fp, H' b = none) /\ W i m σ' H' := fun {σ7 H7} I7 n7 => by
    obtain ⟨m', hm, w7⟩ := hN σ7 H7 n7
    refine ⟨m', hm, i + 1, σ7, H7, I7.unpinned, T.keep _ _ _ st5 fun b hb o e => (I7.pin (b, o) (List.mem_append_right _ (List.mem_append_right _ (Vj hb e)))).1, fun b hb => ?_, w7⟩
    obtain ⟨o, e, d⟩ := T.obj _ _ st5 b hb
    exact (I7.pin (b, o) (List.mem_append_right _ (List.mem_append_right _ (Vj hb e)))).2.1
   cases f with
   | next => obtain ⟨σ7, H7, I7, n7⟩ := q7; exact again I7 n7
   | cont => obtain ⟨σ7, H7, I7, n7⟩ := q7; exact again I7 n7
   | brk => obtain ⟨σ7, H7, I7, q7⟩ := q7; exact ⟨σ7, H7, I7.unpinned, q7⟩
   | ret v => obtain ⟨x7, σ7, H7, I7, r7, q7⟩ := q7; exact ⟨x7, σ7, H7, I7.unpinned, r7, q7⟩
end
end L2
namespace L2
open PySem PySem.Spec PyProof.Rows
abbrev R2 := V -> V -> Hp -> VK -> Prop
def OpR (X : Cx) (f : Value -> Value -> Sem Value) (r : R2) : Prop :=
 ∀ (pins : List (Addr × Obj)) (s : Shared) (σ : St) (H : Hp) (x y : V) (v u : Value) (Q : VK), Inv X pins σ H s -> RelV x v -> RelV y u -> r x y H Q ->
  wpAny (model X.prog X.w) X.A (f v u) (EP X pins σ Q) X.xe s
def ZZ (X : Cx) (f : Value) (r : List V -> Hp -> VK -> Prop) : Prop :=
 ∀ (pins : List (Addr × Obj)) (s : Shared) (σ : St) (H : Hp) (xs : List V) (us : List Value) (Q : VK), Inv X pins σ H s -> Vals xs us -> r xs H Q ->
  wpAny (model X.prog X.w) X.A (call f us) (EP X pins σ Q) X.xe s
def tOp (r : R2) (ta tb : TE) : TE := fun σ H Q => ta σ H fun x H1 => tb σ H1 fun y H2 => r x y H2 Q
def rI (C : Int -> Int -> Prop) (g : Int -> Int -> V) : R2 := fun x y H Q => ∃ i j, x = .int i /\ y = .int j /\ C i j /\ Q (g i j) H
def rI0 (g : Int -> Int -> V) : R2 := fun x y H Q => ∃ i j, x = .int i /\ y = .int j /\ Q (g i j) H
section
variable {X : Cx} {a b c : Expr} {ta tb tc : TE} {pos : Pos}
theorem QB (ha : PE X a ta) (hb : PE X b tb) {pins : List (Addr × Obj)} {s : Shared} {σ : St} {H : Hp} {R : V -> V -> Hp -> Prop} (I : Inv X pins σ H s)
 (h : ta σ H fun x H1 => tb σ H1 fun y H2 => R x y H2) {Q : Value -> Shared -> Prop} {f : Value -> Value -> Sem Value}
 (hf : ∀ v u s2 x y H2, Inv X pins σ H2 s2 -> RelV x v -> RelV y u -> R x y H2 -> wpAny (model X.prog X.w) X.A (f v u) Q X.xe s2) :
 wpAny (model X.prog X.w) X.A (eval a X.env) (fun v s₁ => wpAny (model X.prog X.w) X.A (eval b X.env) (fun u s₂ => wpAny (model X.prog X.w) X.A (f v u) Q X.xe s₂) X.xe s₁) X.xe s := by
 refine thn (ha pins s σ H _ I h) fun v s1 ⟨x, H1, I1, r1, q1⟩ => ?_
 refine thn (hb pins s1 σ H1 _ I1 q1) fun u s2 ⟨y, H2, I2, r2, q2⟩ => ?_
 exact hf v u s2 x y H2 I2 r1 r2 q2
theorem ZP {op : Operator} {r : R2} (ho : OpR X (binaryOp op) r) (ha : PE X a ta) (hb : PE X b tb) : PE X (.BinOp a op b pos) (tOp r ta tb) := by
 intro pins s σ H Q I h
 exact wpAny_BinOp (QB ha hb I h fun v u s2 x y H2 I2 rx ry q => ho pins s2 σ H2 x y v u Q I2 rx ry q)
theorem opI {f : Value -> Value -> Sem Value} {C : Int -> Int -> Prop} {g : Int -> Int -> Int}
 (rule : ∀ (i j : Int) (t u : Tok) (s : Shared) (Q : Value -> Shared -> Prop) (E : Value -> Shared -> Prop), C i j -> Q (.int (g i j) s.toks) { s with toks := s.toks + 1 } -> wpAny (model X.prog X.w) X.A (f (.int i t) (.int j u)) Q E s) :
 OpR X f (rI C fun i j => .int (g i j)) := by
 intro pins s σ H x y v u Q I rx ry h
 obtain ⟨i, j, rfl, rfl, hc, q⟩ := h
 obtain ⟨t, rfl⟩ := rx
 obtain ⟨t', rfl⟩ := ry
 exact rule i j t t' s _ _ hc ⟨.int (g i j), H, I.tok _, ⟨_, rfl⟩, q⟩
theorem Zhz {f : Value -> Value -> Sem Value} {g : Int -> Int -> Int}
 (rule : ∀ (i j : Int) (t u : Tok) (s : Shared) (Q : Value -> Shared -> Prop) (E : Value -> Shared -> Prop), Q (.int (g i j) s.toks) { s with toks := s.toks + 1 } -> wpAny (model X.prog X.w) X.A (f (.int i t) (.int j u)) Q E s) :
 OpR X f (rI0 fun i j => .int (g i j)) := by
 intro pins s σ H x y v u Q I rx ry h
 obtain ⟨i, j, rfl, rfl, q⟩ := h
 obtain ⟨t, rfl⟩ := rx
 obtain ⟨t', rfl⟩ := ry
 exact rule i j t t' s _ _ ⟨.int (g i j), H, I.tok _, ⟨_, rfl⟩, q⟩
theorem Zhd {f : Value -> Value -> Sem Value} {g : Int -> Int -> Bool}
 (rule : ∀ (i j : Int) (t u : Tok) (s : Shared) (Q : Value -> Shared -> Prop) (E : Value -> Shared -> Prop), Q (.bool (g i j)) s -> wpAny (model X.prog X.w) X.A (f (.int i t) (.int j u)) Q E s) :
 OpR X f (rI0 fun i j => .bl (g i j)) := by
 intro pins s σ H x y v u Q I rx ry h
 obtain ⟨i, j, rfl, rfl, q⟩ := h
 obtain ⟨t, rfl⟩ := rx
 obtain ⟨t', rfl⟩ := ry
 exact rule i j t t' s _ _ ⟨.bl (g i j), H, I, rfl, q⟩
def YX (i j : Int) : Prop := 0 < j /\ j < 1073741824
def Zhe (i j : Int) : Prop := 0 <= j /\ j <= 1000000 /\ i.natAbs < 2 ^ 64
def CMul (i j : Int) : Prop := (-(2 ^ 64) < i /\ i < 2 ^ 64) \/ (-(2 ^ 64) < j /\ j < 2 ^ 64)
theorem CMul.ok {i j : Int} (h : CMul i j) : IntMulOk i j := by
 rcases h with ⟨h1, h2⟩ | ⟨h1, h2⟩
 · exact .of_left (intBits_le_64 h1 h2)
 · exact .of_right (intBits_le_64 h1 h2)
theorem op_add : OpR X (binaryOp .Add) (rI0 fun i j => .int (i + j)) := Zhz fun _ _ _ _ _ _ _ q => add_int q
theorem ZbL : OpR X (binaryOp .FloorDiv) (rI YX fun i j => .int (i / j)) := opI fun i j _ _ _ _ _ hc q => by
 have h1 : (0 : Int) < j := hc.1
 have h2 : j < 1073741824 := hc.2
 exact floordiv_int (by omega) (by rw [Int.fdiv_eq_ediv_of_nonneg i (by omega)]; exact q) (.inl (PyProof.noPylong_small (by omega)))
theorem Vk : OpR X (binaryOp .Mod) (rI (fun _ j => 0 < j) fun i j => .int (i % j)) := opI fun i j _ _ _ _ _ hc q => by
 have h1 : (0 : Int) < j := hc
 exact mod_int' (by omega) (by rw [Int.fmod_eq_emod_of_nonneg i (by omega)]; exact q)
end
def scal : V -> V -> Bool
 | .non, .non => true | .non, .int _ => true | .int _, .non => true | .non, .bl _ => true | .bl _, .non => true | .non, .str _ => true | .str _, .non => true
 | .int _, .int _ => true | .bl _, .bl _ => true | .str _, .str _ => true | .byt _, .byt _ => true
 | .int _, .str _ => true | .str _, .int _ => true | .bl _, .str _ => true | .str _, .bl _ => true
 | _, _ => false
def rEq : R2 := fun x y H Q => scal x y = true /\ Q (.bl (decide (x = y))) H
def rNe : R2 := fun x y H Q => scal x y = true /\ Q (.bl (!decide (x = y))) H
theorem ZbM {i j : Int} : decide (V.int i = V.int j) = (i == j) := by
 rw [Bool.eq_iff_iff]
 simp
theorem Zds {i j : Bool} : decide (V.bl i = V.bl j) = (i == j) := by
 rw [Bool.eq_iff_iff]
 simp
theorem ZbN {i j : Str} : decide (V.str i = V.str j) = (i == j) := by
 rw [Bool.eq_iff_iff]
 simp
theorem ZbO {i j : Array UInt8} : decide (V.byt i = V.byt j) = (i.toList == j.toList) := by
 rw [Bool.eq_iff_iff]
 cases i
 cases j
 simp
section
variable {X : Cx} {a b c : Expr} {ta tb tc : TE} {pos : Pos}
theorem Zz {pins : List (Addr × Obj)} {σ : St} {H : Hp} {s : Shared} {Q : VK} {k k' : Bool} (I : Inv X pins σ H s) (q : Q (.bl k) H) (e : k = k') : EP X pins σ Q (.bool k') s := by
 subst e
 exact ⟨.bl k, H, I, rfl, q⟩
theorem Zgj : OpR X (compareOp .Eq) rEq := by
 intro pins s σ H x y v u Q I rx ry h
 obtain ⟨hs, q⟩ := h
 cases x with
 | non =>
  cases rx
  cases y with
  | non => cases ry; exact PySem.EqNone.eq_none_none (Zz I q (by simp))
  | bl j => cases ry; exact PySem.EqNone.eq_none_bool (Zz I q (by simp))
  | int j => obtain ⟨t', rfl⟩ := ry; exact PySem.EqNone.eq_none_int (Zz I q (by simp))
  | str j => obtain ⟨t', rfl⟩ := ry; exact PySem.EqNone.eq_none_str (Zz I q (by simp))
  | _ => exact absurd (show false = true from hs) Bool.false_ne_true
 | bl i =>
  cases rx
  cases y with
  | non => cases ry; exact PySem.EqNone.eq_bool_none (Zz I q (by simp))
  | bl j => cases ry; exact eq_bool (Zz I q Zds)
  | str j => obtain ⟨t', rfl⟩ := ry; exact PySem.EqMixed.eq_bool_str (Zz I q (by simp))
  | _ => exact absurd (show false = true from hs) Bool.false_ne_true
 | int i =>
  obtain ⟨t, rfl⟩ := rx
  cases y with
  | non => cases ry; exact PySem.EqNone.eq_int_none (Zz I q (by simp))
  | int j => obtain ⟨t', rfl⟩ := ry; exact eq_int (Zz I q ZbM)
  | str j => obtain ⟨t', rfl⟩ := ry; exact PySem.EqMixed.eq_int_str (Zz I q (by simp))
  | _ => exact absurd (show false = true from hs) Bool.false_ne_true
 | str i =>
  obtain ⟨t, rfl⟩ := rx
  cases y with
  | non => cases ry; exact PySem.EqNone.eq_str_none (Zz I q (by simp))
  | bl j => cases ry; exact PySem.EqMixed.eq_str_bool (Zz I q (by simp))
  | int j => obtain ⟨t', rfl⟩ := ry; exact PySem.EqMixed.eq_str_int (Zz I q (by simp))
  | str j => obtain ⟨t', rfl⟩ := ry; exact eq_str (Zz I q ZbN)
  | _ => exact absurd (show false = true from hs) Bool.false_ne_true
 | byt i =>
  obtain ⟨t, rfl⟩ := rx
  cases y with
  | byt j => obtain ⟨t', rfl⟩ := ry; exact PySem.W.eq_bytes (Zz I q ZbO)
  | _ => exact absurd (show false = true from hs) Bool.false_ne_true
 | _ => cases y <;> exact absurd (show false = true from hs) Bool.false_ne_true
theorem Zgk : OpR X (compareOp .NotEq) rNe := by
 intro pins s σ H x y v u Q I rx ry h
 obtain ⟨hs, q⟩ := h
 cases x with
 | non =>
  cases rx
  cases y with
  | non => cases ry; exact PySem.EqNone.ne_none_none (Zz I q (by simp))
  | bl j => cases ry; exact PySem.EqNone.ne_none_bool (Zz I q (by simp))
  | int j => obtain ⟨t', rfl⟩ := ry; exact PySem.EqNone.ne_none_int (Zz I q (by simp))
  | str j => obtain ⟨t', rfl⟩ := ry; exact PySem.EqNone.ne_none_str (Zz I q (by simp))
  | _ => exact absurd (show false = true from hs) Bool.false_ne_true
 | bl i =>
  cases rx
  cases y with
  | non => cases ry; exact PySem.EqNone.ne_bool_none (Zz I q (by simp))
  | bl j => cases ry; exact ne_bool (Zz I q (congrArg not Zds))
  | str j => obtain ⟨t', rfl⟩ := ry; exact PySem.EqMixed.ne_bool_str (Zz I q (by simp))
  | _ => exact absurd (show false = true from hs) Bool.false_ne_true
 | int i =>
  obtain ⟨t, rfl⟩ := rx
  cases y with
  | non => cases ry; exact PySem.EqNone.ne_int_none (Zz I q (by simp))
  | int j => obtain ⟨t', rfl⟩ := ry; exact ne_int (Zz I q (congrArg not ZbM))
  | str j => obtain ⟨t', rfl⟩ := ry; exact PySem.EqMixed.ne_int_str (Zz I q (by simp))
  | _ => exact absurd (show false = true from hs) Bool.false_ne_true
 | str i =>
  obtain ⟨t, rfl⟩ := rx
  cases y with
  | non => cases ry; exact PySem.EqNone.ne_str_none (Zz I q (by simp))
  | bl j => cases ry; exact PySem.EqMixed.ne_str_bool (Zz I q (by simp))
  | int j => obtain ⟨t', rfl⟩ := ry; exact PySem.EqMixed.ne_str_int (Zz I q (by simp))
  | str j => obtain ⟨t', rfl⟩ := ry; exact ne_str (Zz I q (congrArg not ZbN))
  | _ => exact absurd (show false = true from hs) Bool.false_ne_true
 | byt i =>
  obtain ⟨t, rfl⟩ := rx
  cases y with
  | byt j => obtain ⟨t', rfl⟩ := ry; exact PySem.W.ne_bytes (Zz I q (congrArg not ZbO))
  | _ => exact absurd (show false = true from hs) Bool.false_ne_true
 | _ => cases y <;> exact absurd (show false = true from hs) Bool.false_ne_true
theorem ZeX : OpR X (compareOp .Lt) (rI0 fun i j => .bl (decide (i < j))) := Zhd fun _ _ _ _ _ _ _ q => lt_int q
theorem Vl : OpR X (compareOp .Gt) (rI0 fun i j => .bl (decide (j < i))) := Zhd fun _ _ _ _ _ _ _ q => gt_int q
theorem Zco : OpR X (compareOp .In) (fun x y H Q => ∃ i j, x = .str i /\ y = .str j /\ Q (.bl (!(Builtin.Str.occurrences j i 0 j.length 1).isEmpty)) H) := by
 intro pins s σ H x y v u Q I rx ry h
 obtain ⟨i, j, rfl, rfl, q⟩ := h
 obtain ⟨t, rfl⟩ := rx
 obtain ⟨t', rfl⟩ := ry
 exact in_str (Zz I q rfl)
theorem ZaM : OpR X (compareOp .NotIn) (fun x y H Q => ∃ i j, x = .str i /\ y = .str j /\ Q (.bl (!(!(Builtin.Str.occurrences j i 0 j.length 1).isEmpty))) H) := by
 intro pins s σ H x y v u Q I rx ry h
 obtain ⟨i, j, rfl, rfl, q⟩ := h
 obtain ⟨t, rfl⟩ := rx
 obtain ⟨t', rfl⟩ := ry
 exact notIn_str (Zz I q rfl)
theorem OpR.or {f : Value -> Value -> Sem Value} {r r' : R2} (h : OpR X f r) (h' : OpR X f r') : OpR X f (fun x y H Q => r x y H Q \/ r' x y H Q) := by
 intro pins s σ H x y v u Q I rx ry q
 rcases q with q | q
 · exact h pins s σ H x y v u Q I rx ry q
 · exact h' pins s σ H x y v u Q I rx ry q
theorem Yh (b : Expr) {op : CmpOp} (h : op ≠ .In := by decide) (h2 : op ≠ .NotIn := by decide) : behindInMarks op b = false := by
 have e1 : (op == CmpOp.In) = false := by cases op <;> first | rfl | exact absurd rfl h
 have e2 : (op == CmpOp.NotIn) = false := by cases op <;> first | rfl | exact absurd rfl h2
 cases b <;> simp [behindInMarks, e1, e2]
theorem V2 {op : CmpOp} {r : R2} (ho : OpR X (compareOp op) r) (ha : PE X a ta) (hb : PE X b tb) (hm : behindInMarks op b = false) : PE X (.Compare a [op] [b] pos) (tOp r ta tb) := by
 intro pins s σ H Q I h
 exact wpAny_Compare1 (QB ha hb I h fun v u s2 x y H2 I2 rx ry q => ho pins s2 σ H2 x y v u Q I2 rx ry q) hm
def ZeY (t : TE) : TT := fun σ H Q => t σ H fun x H' => ∃ k, x = .bl k /\ Q k H'
theorem Yo {op : CmpOp} {r : R2} (ho : OpR X (compareOp op) r) (ha : PE X a ta) (hb : PE X b tb) (hm : behindInMarks op b = false) : PT X (.Compare a [op] [b] pos) (ZeY (tOp r ta tb)) := by
 intro pins s σ H Q I h
 refine wpAny_isTrue_Compare1 (thn (ha pins s σ H _ I h) fun v s1 ⟨x, H1, I1, r1, q1⟩ => thn (hb pins s1 σ H1 _ I1 q1) fun u s2 ⟨y, H2, I2, r2, q2⟩ =>
  thn (ho pins s2 σ H2 x y v u _ I2 r1 r2 q2) fun c s3 ⟨z, H3, I3, r3, k, e, q3⟩ => ?_) hm
 subst e
 cases r3
 exact wpAny_truthy_bool ⟨H3, I3, q3⟩
theorem Vm : (sizeLine : Nat) < 2 ^ 63 := by rw [sizeLine_eq]; decide
theorem Zbv : OpR X (binaryOp .Add) (fun x y H Q => ∃ i j, x = .str i /\ y = .str j /\ i.length + j.length <= sizeLine /\ Q (.str (i ++ j)) H) := by
 intro pins s σ H x y v u Q I rx ry h
 obtain ⟨i, j, rfl, rfl, hz, q⟩ := h
 obtain ⟨t, rfl⟩ := rx
 obtain ⟨t', rfl⟩ := ry
 exact add_str (fun t' tk => ⟨.str (i ++ j), H, I.tok _, ⟨_, rfl⟩, q⟩) hz
theorem YD {x : V} {us : List Value} (r : Vals [x] us) : ∃ u, us = [u] /\ RelV x u := by
 cases r with
 | cons r1 r2 => cases r2; exact ⟨_, rfl, r1⟩
theorem ZeZ {x y : V} {us : List Value} (r : Vals [x, y] us) : ∃ u w', us = [u, w'] /\ RelV x u /\ RelV y w' := by
 cases r with
 | cons r1 r2 =>
  cases r2 with
  | cons r3 r4 => cases r4; exact ⟨_, _, rfl, r1, r3⟩
theorem Zcp : ZZ X (.type "int") (fun xs H Q => (∃ i, xs = [.int i] /\ Q (.int i) H) \/ ∃ k, xs = [.bl k] /\ Q (.int (if k then 1 else 0)) H) := by
 intro pins s σ H xs us Q I r h
 rcases h with ⟨i, rfl, q⟩ | ⟨k, rfl, q⟩
 · obtain ⟨u, rfl, t, rfl⟩ := YD r
   exact call_int_int ⟨.int i, H, I, ⟨_, rfl⟩, q⟩
 · obtain ⟨u, rfl, r1⟩ := YD r
   cases r1
   exact call_int_bool ⟨.int (if k then 1 else 0), H, I.tok _, ⟨_, rfl⟩, q⟩
end
end L2
namespace L2
open PySem PySem.Spec PyProof.Rows
structure ObjM (h : Heap) (x dx C : Addr) (mA : Str -> Option Value) : Prop where
 obj : h.get? x = some (PySem.W.instObj C dx)
 ns : h.Ns1 dx mA
 ne : dx ≠ x
theorem Zcq {h : Heap} {dx : Addr} {mA : Str -> Option Value} (n : h.Ns1 dx mA) : ∃ od, h.get? dx = some od /\ ∀ name, PySem.W.lookIn name od = some (mA name) := by
 obtain ⟨o, es, ep, ho, hd, hk, _, hm⟩ := n
 refine ⟨o, ho, fun name => ?_⟩
 have e := hm name
 unfold nsFind findBy at e
 rw [<- Array.find?_toList] at e
 unfold PySem.W.lookIn
 rw [hd]
 dsimp only
 split
 · rename_i y q
   rw [q] at e
   exact congrArg some e
 · rename_i q
   rw [q] at e
   have a : es.toList.any (·.refKey) = false := by
    rw [List.any_eq_false]
    intro y hy
    obtain ⟨z, t, hkey⟩ := hk y (Array.mem_toList_iff.mp hy)
    simp [DictEntry.refKey, hkey]
   have a' : ¬ es.toList.any (·.refKey) = true := by rw [a]; exact Bool.false_ne_true
   rw [if_neg a']
   exact congrArg some e
theorem ObjM.look {h : Heap} {x dx C : Addr} {mA : Str -> Option Value} (I : ObjM h x dx C mA) : ∃ od, PySem.W.InstAt h x (PySem.W.instObj C dx) C (some od) /\ ∀ name, PySem.W.lookIn name od = some (mA name) :=
 let ⟨od, ho, hl⟩ := Zcq I.ns
 ⟨od, ⟨I.obj, rfl, rfl, ho⟩, hl⟩
section
variable {prog : Program} {w : World} {A : Around} {E : Value -> Shared -> Prop} {s : Shared} {K : PySem.W.Frag} {x dx C f : Addr} {mA : Str -> Option Value} {name : Str} {v : Value}
end
theorem RelO.some_of {v : V} {o : Option Value} (r : RelO (some v) o) : ∃ u, o = some u /\ RelV v u := by
 cases o with
 | none => exact (show False from r).elim
 | some u => exact ⟨u, rfl, r⟩
section
variable {P : Program} {w : World} {H H' : Hp} {h h' : Heap} {a C dx : Addr} {fs fs' : List (Str × V)}
theorem Zd0 (hok : HOk P w H h) (e : H a = some (.ins C dx fs)) : ∃ mA, ObjM h a dx C mA /\ (∀ f, RelO (fs.lookup f) (mA f)) /\ PySem.Within mA (fs.map (·.1)) /\ fs.length <= 1000 /\ H dx = some (.own a) := by
 obtain ⟨d, z, ne, ob, mA, n, r, q⟩ := (show ObjOk P w H h a (.ins C dx fs) from hok a _ e)
 exact ⟨mA, ⟨ob, n, ne⟩, r, q, z, d⟩
end
structure Cls (K : PySem.W.Frag) (C : Addr) : Prop where
 pg : PySem.W.plainGet K C Str.empty = true
 hd : PySem.W.hasDictIn K C = true
 po : PySem.W.plainOver K C = true
 sa : PySem.W.findIn K (.ref C) "__setattr__" = some (some (.builtin "object.__setattr__"))
theorem Cls.get {K : PySem.W.Frag} {C : Addr} (c : Cls K C) (f : Str) : PySem.W.plainGet K C f = true := c.pg
structure Con (K : PySem.W.Frag) (C : Addr) (f : Str) (v : V) (u : Value) : Prop where
 at_ : PySem.W.findIn K (.ref C) f = some (some u)
 rel : RelV v u
 get : PySem.W.specialIn K u "__get__" = some none
 cp : PySem.W.copiedNames.contains f = false
structure Meth (K : PySem.W.Frag) (C : Addr) (m : Str) (f : Addr) : Prop where
 at_ : PySem.W.findIn K (.ref C) m = some (some (.ref f))
 fn : PySem.W.isFn K (.ref f) = true
 kp : PySem.W.keepIn K (.ref f) = true
section
variable {X : Cx} {pins : List (Addr × Obj)} {σ : St} {H : Hp} {s : Shared} {a C dx : Addr} {fs : List (Str × V)} {f : Str} {v : V} {A : Around} {E : Value -> Shared -> Prop}
end
section
variable {X : Cx} {o e value : Expr} {f : Str} {pos pos' tpos : Pos} {ta tv : TE}
end
section
variable {X : Cx} {pins : List (Addr × Obj)} {σ : St} {H : Hp} {s : Shared} {A : Around} {E : Value -> Shared -> Prop} {Q : Value -> Shared -> Prop} {c : Value} {b : Bool}
inductive TyOf (K : PySem.W.Frag) (H : Hp) : V -> Value -> Prop where
 | non : TyOf K H .non (.type "NoneType")
 | bl (x : Bool) : TyOf K H (.bl x) (.type "bool")
 | int (i : Int) : TyOf K H (.int i) (.type "int")
 | str (x : Str) : TyOf K H (.str x) (.type "str")
 | flt (x : UInt64) : TyOf K H (.flt x) (.type "float")
 | lst {a : Addr} {xs : List V} (e : H a = some (.lst xs)) : TyOf K H (.ref a) (.type "list")
 | frz {a : Addr} {o : Obj} {xs : List V} (e : H a = some (.frz o (.lst xs))) : TyOf K H (.ref a) (.type "list")
 | tup {a : Addr} {xs : List V} (e : H a = some (.tup xs)) : TyOf K H (.ref a) (.type "tuple")
 | dK {a : Addr} {kvs : List (Key × V)} (e : H a = some (.dK kvs)) : TyOf K H (.ref a) (.type "dict")
 | dT {a : Addr} {kvs : List (List Key × V)} (e : H a = some (.dT kvs)) : TyOf K H (.ref a) (.type "dict")
 | ins {a C dx : Addr} {fs : List (Str × V)} (e : H a = some (.ins C dx fs)) (cl : Cls K C) (ha : PySem.W.findIn K (.ref C) "__class__" = some (some (.builtin "object.__class__")))
  (hn : PySem.W.specialIn K (.builtin "object.__class__") "__get__" = some (some (.builtin "getset_descriptor.__get__"))) (htk : PySem.W.takesIn K (.builtin "object.__class__") = some true)
  (hm : PySem.W.mroIn K C (.type "object") = some true) : TyOf K H (.ref a) (.ref C)
theorem Zcr {x : V} {u t : Value} (I : Inv X pins σ H s) (rx : RelV x u) (ty : TyOf X.K H x t) (e : PySem.W.kitOne X.K t c = some b) (h : ∀ tk, Q (.bool b) { s with toks := tk }) :
 wpAny (model X.prog X.w) A (call (.builtin "isinstance") [u, c]) Q E s := by
 cases ty with
 | non => cases (show u = Value.none from rx); exact PySem.W.kia_one PySem.W.kitx_none I.kIn True.intro e (fun z => nomatch z) h
 | bl y => cases (show u = Value.bool y from rx); exact PySem.W.kia_one PySem.W.kitx_bool I.kIn True.intro e (fun z => nomatch z) h
 | int i => obtain ⟨t, q⟩ := (show ∃ t, u = Value.int i t from rx); cases q; exact PySem.W.kia_one PySem.W.kitx_int I.kIn True.intro e (fun z => nomatch z) h
 | str y => obtain ⟨t, q⟩ := (show ∃ t, u = Value.str y t from rx); cases q; exact PySem.W.kia_one PySem.W.kitx_str I.kIn True.intro e (fun z => nomatch z) h
 | flt y => obtain ⟨t, q⟩ := (show ∃ t, u = Value.float y t from rx); cases q; exact PySem.W.kia_one PySem.W.kitx_float I.kIn True.intro e (fun z => nomatch z) h
 | @lst a xs ea =>
  cases (show u = Value.ref a from rx)
  obtain ⟨_, _, n, _, h1⟩ := (show ObjOk X.prog X.w H s.heap a (.lst xs) from I.hok a _ ea)
  exact PySem.W.kia_one PySem.W.kitx_list I.kIn ⟨_, h1, rfl⟩ e (fun z => nomatch z) h
 | @frz a ob xs ea =>
  cases (show u = Value.ref a from rx)
  obtain ⟨_, _, _, n, _, h1⟩ := (show ObjOk X.prog X.w H s.heap a (.frz ob (.lst xs)) from I.hok a _ ea)
  exact PySem.W.kia_one PySem.W.kitx_list I.kIn ⟨_, h1, rfl⟩ e (fun z => nomatch z) h
 | @tup a xs ea =>
  cases (show u = Value.ref a from rx)
  obtain ⟨_, _, _, p⟩ := (show ObjOk X.prog X.w H s.heap a (.tup xs) from I.hok a _ ea)
  obtain ⟨o, h1, h2, _⟩ := p
  exact PySem.W.kia_one PySem.W.kitx_tuple I.kIn ⟨o, h1, h2⟩ e (fun z => nomatch z) h
 | @dK a kvs ea =>
  cases (show u = Value.ref a from rx)
  obtain ⟨_, _, vs, _, p⟩ := (show ObjOk X.prog X.w H s.heap a (.dK kvs) from I.hok a _ ea)
  obtain ⟨o, es, ep, h1, h2, _⟩ := p
  exact PySem.W.kia_one PySem.W.kitx_dict I.kIn ⟨o, h1, h2.1⟩ e (fun z => nomatch z) h
 | @dT a kvs ea =>
  cases (show u = Value.ref a from rx)
  obtain ⟨_, _, xs, _, o, es, ep, h1, h2, _⟩ := (show ObjOk X.prog X.w H s.heap a (.dT kvs) from I.hok a _ ea)
  exact PySem.W.kia_one PySem.W.kitx_dict I.kIn ⟨o, h1, h2.1⟩ e (fun z => nomatch z) h
 | @ins a C dx fs ea cl ha hn htk hm =>
  cases (show u = Value.ref a from rx)
  obtain ⟨mA, O, _⟩ := Zd0 I.hok ea
  obtain ⟨od, J, _⟩ := O.look
  exact PySem.W.kia_one (PySem.W.kitx_own (cl.get _) cl.hd ha hn htk hm) I.kIn J e (fun z => nomatch z) h
end
end L2
namespace L2
open PySem PySem.Spec PyProof.Rows
structure Room (k : Nat) (A : Around) : Prop where
 hd : A.handled = none
 dp : A.depth + 3 * k + 5 < recursionLimit
 un : A.units + 16 * k + 200 < cLine
theorem Room.mono {j k : Nat} {A : Around} (r : Room k A) (h : j <= k) : Room j A := ⟨r.hd, by have := r.dp; omega, by have := r.un; omega⟩
theorem Room.deeper {k : Nat} {A : Around} (r : Room (k + 1) A) (env : Env) : Room k (A.deeper env) :=
 ⟨r.hd, by have := r.dp; show A.depth + 1 + 3 * k + 5 < _; omega, by have := r.un; show A.units + 3 + 16 * k + 200 < _; omega⟩
theorem Room.depth {k : Nat} {A : Around} (r : Room k A) : A.depth < recursionLimit := by have := r.dp; omega
theorem Room.units {k : Nat} {A : Around} (r : Room k A) : A.units + 64 < cLine := by have := r.un; omega
def tNil : TA := fun _ H Q => Q [] H
def Xj (ta : TE) (tr : TA) : TA := fun σ H Q => ta σ H fun x H1 => tr σ H1 fun xs H2 => Q (x :: xs) H2
section
variable {X : Cx} {e : Expr} {es : List Expr} {te : TE} {t : TA} {pos : Pos}
theorem Zk : PA X [] tNil := fun _ _ _ _ H Q I h => Calls.spliced_nil ⟨[], H, I, .nil, h⟩
theorem Ze (ha : PE X e te) (hr : PA X es t) (hs : starEach (e :: es) X.env = (false, eval e X.env) :: starEach es X.env := by rfl) : PA X (e :: es) (Xj te t) := by
 intro pos pins s σ H Q I h
 rw [hs]
 show wpAny _ _ (spliced ((false, eval e X.env) :: backTo pos (starEach es X.env))) _ _ s
 refine Calls.spliced_cons (thn (ha pins s σ H _ I h) fun u s1 ⟨x, H1, I1, r1, q1⟩ => ?_)
 exact thn (hr pos pins s1 σ H1 _ I1 q1) fun us s2 ⟨xs, H2, I2, r2, q2⟩ => ⟨x :: xs, H2, I2, .cons r1 r2, q2⟩
def Zhf (t : TA) : TE := fun σ H Q => t σ H fun xs H1 => xs.length <= sizeLine /\ ∀ p, H1 p = none -> Q (.ref p) (upd H1 p (.tup xs))
def QC (t : TA) : TE := fun σ H Q => t σ H fun xs H1 => xs.length <= sizeLine /\ ∀ p, H1 p = none -> Q (.ref p) (upd H1 p (.lst xs))
theorem QD {x1} (h : PA X es t) : PE X (.Tuple es x1 pos) (Zhf t) := by
 intro pins s σ H Q I hq
 refine wpAny_Tuple_spliced (thn (h pos pins s σ H _ I hq) fun us s1 ⟨xs, H1, I1, r, z, q⟩ => ⟨by rw [<- r.length]; exact z, ?_⟩)
 have hf : H1 s1.heap.objs.size = none := I1.hok.fresh (Nat.le_refl _)
 refine ⟨.ref s1.heap.objs.size, upd H1 s1.heap.objs.size (.tup xs), I1.laid (t' := s1.toks) (fun b u e => Heap.get?_push_of_some _ e) (Nat.le_refl _) ?_, rfl, q _ hf⟩
 exact ⟨z, us, r, ⟨_, Heap.get?_push_size _ rfl, rfl, ⟨_, rfl⟩, rfl⟩⟩
theorem Xu (h : PA X es t) : PE X (.List es pos) (QC t) := by
 intro pins s σ H Q I hq
 refine wpAny_List_spliced (thn (h pos pins s σ H _ I hq) fun us s1 ⟨xs, H1, I1, r, z, q⟩ => ⟨by rw [<- r.length]; exact z, ?_⟩)
 have hf : H1 s1.heap.objs.size = none := I1.hok.fresh (Nat.le_refl _)
 refine ⟨.ref s1.heap.objs.size, upd H1 s1.heap.objs.size (.lst xs), I1.laid (t' := s1.toks) (fun b u e => Heap.get?_push_of_some _ e) (Nat.le_refl _) ?_, rfl, q _ hf⟩
 exact ⟨z, us, 0, r, Heap.get?_push_size _ rfl⟩
end
abbrev Sp := List V -> Hp -> VK -> XK -> Prop
abbrev CXT := List Env -> Hp -> Shared -> XK -> Value -> Shared -> Prop
structure Env0 (P : Program) (w : World) (K : PySem.W.Frag) (mg : Str -> Option Value) (base : Heap) (A : Around) (outer : List Env) (s : Shared) (H : Hp) : Prop where
 frames : A.frames = some outer
 mod : Mod K mg base
 bs : ∀ b o, base.get? b = some o -> s.heap.get? b = some o /\ H b = none
 bsz : base.objs.size <= s.heap.objs.size
 funs : s.heap.FunFrames base outer
 frf : ∀ b ∈ frs outer, H b = none
 hok : HOk P w H s.heap
 bare : AllBare s.gens
def CE (outer : List Env) (P : Program) (w : World) (H : Hp) (s : Shared) (Q : VK) (u : Value) (s' : Shared) : Prop :=
 ∃ v H', s'.os = s.os /\ AllBare s'.gens /\ Un (frs outer) [] H H' s.heap s'.heap /\ HOk P w H' s'.heap /\ RelV v u /\ Q v H'
def CR (CX : CXT) (outer : List Env) (P : Program) (w : World) (H : Hp) (s : Shared) (Q : VK) (E : XK) (r : Result) (s' : Shared) : Prop :=
 match r with
 | .ok (.ret u) => CE outer P w H s Q u s'
 | .ok _ => False
 | .error e => CX outer H s E e s'
structure FnOk (P : Program) (w : World) (K : PySem.W.Frag) (mg : Str -> Option Value) (base : Heap) (CX : CXT) (k : Nat) (f : Addr) (fd : FuncData) (ps : List Str) (sp : Sp) : Prop where
 len : ∀ vs H Q E, sp vs H Q E -> vs.length = ps.length
 run : ∀ (A : Around) (outer : List Env) (s : Shared) (H : Hp) (args : Args) (us : List Value) (vs : List V) (Q : VK) (E : XK), Room k A -> Env0 P w K mg base A outer s H -> BindsTo s fd args (ps.zip us) -> Vals vs us -> sp vs H Q E ->
  codeAny (model P w) A (.call (.ref f) args) (CR CX outer P w H s Q E) s
theorem FnOk.mono {P : Program} {w : World} {K : PySem.W.Frag} {mg : Str -> Option Value} {base : Heap} {CX : CXT} {j k : Nat} {f : Addr} {fd : FuncData} {ps : List Str} {sp : Sp} (F : FnOk P w K mg base CX j f fd ps sp) (h : j <= k) :
 FnOk P w K mg base CX k f fd ps sp := ⟨F.len, fun A outer s H args us vs Q E hr => F.run A outer s H args us vs Q E (hr.mono h)⟩
theorem FnOk.imp {P : Program} {w : World} {K : PySem.W.Frag} {mg : Str -> Option Value} {base : Heap} {CX : CXT} {k : Nat} {f : Addr} {fd : FuncData} {ps : List Str} {sp sp' : Sp} (F : FnOk P w K mg base CX k f fd ps sp)
 (h : ∀ vs H Q E, sp' vs H Q E -> sp vs H Q E) : FnOk P w K mg base CX k f fd ps sp' :=
 ⟨fun vs H Q E q => F.len vs H Q E (h _ _ _ _ q), fun A outer s H args us vs Q E hr he hb hv hs => F.run A outer s H args us vs Q E hr he hb hv (h _ _ _ _ hs)⟩
section
variable {X : Cx} {pins : List (Addr × Obj)} {σ : St} {H : Hp} {s s' : Shared}
theorem Inv.env0 (I : Inv X pins σ H s) : Env0 X.prog X.w X.K X.mg X.base X.A X.stack s H :=
 ⟨I.ok.frames, I.ok.mod, I.bs, Nat.le_trans I.ok.bsz I.sz, I.stack, I.stkFree, I.hok, I.bare⟩
theorem Inv.after {Q : VK} {u : Value} (I : Inv X pins σ H s) (h : CE X.stack X.prog X.w H s Q u s') : EP X pins σ Q u s' := by
 obtain ⟨v, H', os, bare, un, hok, r, q⟩ := h
 obtain ⟨hh, g, d, t, os'⟩ := s'
 obtain rfl : os' = s.os := os
 exact ⟨v, H', I.call (h' := hh) (g' := g) (d' := d) (t' := t) (ch := []) un hok bare (fun b z => absurd z (by simp)), r, q⟩
end
def UM (sp : Sp) (dvs : List V) (E : XK) (t : TA) : TE := fun σ H Q => t σ H fun vs H1 => sp (vs ++ dvs) H1 Q E
def Binds (K : PySem.W.Frag) (fd : FuncData) (ps : List Str) (ds : List Value) : Prop :=
 ∀ (s : Shared) (us : List Value), K.In s.heap -> (us ++ ds).length = ps.length -> BindsTo s fd ⟨us, []⟩ (ps.zip (us ++ ds))
theorem Binds.all {K : PySem.W.Frag} {fd : FuncData} {ps : List Str} (h : ∀ us : List Value, us.length = ps.length -> bindArgs fd ⟨us, []⟩ = pure (ps.zip us)) : Binds K fd ps [] := fun s us _ hl => by
 rw [List.append_nil] at hl ⊢
 exact .of_eq (h us hl)
def QE (CX : CXT) (X : Cx) (E : XK) : Prop := ∀ (pins : List (Addr × Obj)) (σ : St) (H : Hp) (s : Shared) (e : Value) (s' : Shared), Inv X pins σ H s -> CX X.stack H s E e s' -> X.xe e s'
section
variable {X : Cx} {CX : CXT} {k : Nat} {f C : Addr} {fd : FuncData} {ps : List Str} {sp : Sp} {dvs : List V} {ds : List Value} {E : XK} {x m : Str} {p pos apos : Pos} {e o : Expr} {es : List Expr} {ta : TE} {t : TA}
theorem ZfI {pins : List (Addr × Obj)} {σ : St} {H : Hp} {s : Shared} {Q : VK} {us : List Value} {vs : List V} (F : FnOk X.prog X.w X.K X.mg X.base CX k f fd ps sp) (hr : Room k X.A) (hb : Binds X.K fd ps ds) (hd : Vals dvs ds) (hx : QE CX X E)
 (I : Inv X pins σ H s) (r : Vals vs us) (h : sp (vs ++ dvs) H Q E) : wpAny (model X.prog X.w) X.A (call (.ref f) us) (EP X pins σ Q) X.xe s := by
 have r2 : Vals (vs ++ dvs) (us ++ ds) := r.append hd
 have hl : (us ++ ds).length = ps.length := by rw [<- r2.length]; exact F.len _ _ _ _ h
 refine wpAny_call (codeAny_mono (F.run X.A X.stack s H ⟨us, []⟩ (us ++ ds) (vs ++ dvs) Q E hr I.env0 (hb s us I.kIn hl) r2 h) fun r s' hq => ?_)
 cases r with
 | error e => exact hx pins σ H s e s' I hq
 | ok fl =>
  cases fl with
  | ret u => exact I.after hq
  | next => exact False.elim hq
  | brk => exact False.elim hq
  | cont => exact False.elim hq
theorem Z0 (F : FnOk X.prog X.w X.K X.mg X.base CX k f fd ps sp) (hr : Room k X.A) (hg : Gl X x) (hm : X.mg x = some (.ref f)) (hk : PySem.W.keepIn X.K (.ref f) = true) (hb : Binds X.K fd ps ds) (hd : Vals dvs ds) (hx : QE CX X E)
 (ha : PA X (e :: es) t) (hdb : (x == ("__debug__" : Str)) = false := by decide) (he : starEach (e :: es) X.env = (false, eval e X.env) :: starEach es X.env := by rfl) (hpl : (backTo pos (starEach es X.env)).any (·.1) = false := by rfl) :
 PE X (.Call (.Name x p) (e :: es) [] pos) (UM sp dvs E t) := by
 intro pins s σ H Q I h
 refine wpAny_Call_Name_kw (ZdX I hg hm ?_ hdb)
 refine PySem.W.callWith_K (h₀ := X.base) I.ok.mod.kin hk (thn (ha pos pins s σ H _ I h) fun us s1 ⟨vs, H1, I1, r, q⟩ => ⟨I1.kIn, ?_⟩) he hpl
 exact ZfI F hr hb hd hx I1 r q
structure Mk (K : PySem.W.Frag) (C f : Addr) : Prop where
 makes : PySem.W.makesIn K C = true
 init : PySem.W.findIn K (.ref C) "__init__" = some (some (.ref f))
 fn : PySem.W.isFn K (.ref f) = true
 kp : PySem.W.keepIn K (.ref C) = true
end
section
variable {X : Cx} {CX : CXT} {k : Nat} {f C : Addr} {fd : FuncData} {ps ks : List Str} {sp : Sp} {E : XK} {x m : Str} {p pos apos kpos : Pos} {e o : Expr} {es : List Expr} {kws : List Keyword} {te ta : TE} {t tk : TA} {nm : Option Str}
structure KBinds (K : PySem.W.Frag) (fd : FuncData) (ps ks : List Str) (g : List Value -> List Value -> List Value) (gV : List V -> List V -> List V) : Prop where
 to : ∀ (s : Shared) (us ws : List Value), K.In s.heap -> (g us ws).length = ps.length -> BindsTo s fd ⟨us, ks.zip ws⟩ (ps.zip (g us ws))
 rel : ∀ {vs : List V} {us : List Value} {zs : List V} {ws : List Value}, Vals vs us -> Vals zs ws -> Vals (gV vs zs) (g us ws)
variable {g : List Value -> List Value -> List Value} {gV : List V -> List V -> List V}
end
structure FnScope (N P : List Str) (sc : Scope) : Prop where
 kind : sc.kind = .function
 co : sc.isCoroutine = false
 gen : sc.isGenerator = false
 nd : N.Nodup
 pre : N.take P.length = P
 par : ∀ x ∈ P, sc.names.lookup x = some .local \/ sc.names.lookup x = some .cell
 nofree : ∀ y ∈ sc.names, y.2 ≠ .free
theorem Zar {kindOf : Str -> Option NameKind} {x : Str} : ∀ {binds : List (Str × Value)} {m : Str -> Option Value}, (∀ v, (x, v) ∉ binds) -> bindL kindOf binds m x = m x
 | [], _, _ => rfl
 | (n, v) :: r, m, h => by
  unfold bindL
  rw [Zar fun w hw => h w (List.mem_cons_of_mem _ hw)]
  split
  · have : x ≠ n := by rintro rfl; exact h v List.mem_cons_self
    simp [this]
  · rfl
theorem Zas {kindOf : Str -> Option NameKind} {x : Str} : ∀ {binds : List (Str × Value)} {m : Str -> Option Value}, (∀ v, (x, v) ∉ binds) -> bindC kindOf binds m x = m x
 | [], _, _ => rfl
 | (n, v) :: r, m, h => by
  unfold bindC
  rw [Zas fun w hw => h w (List.mem_cons_of_mem _ hw)]
  split
  · rfl
  · have : x ≠ n := by rintro rfl; exact h v List.mem_cons_self
    simp [this]
theorem Zat {kindOf : Str -> Option NameKind} {x : Str} {v : Value} : ∀ {P : List Str} {vs : List Value} {i : Nat} {m : Str -> Option Value}, P.Nodup -> P[i]? = some x -> vs[i]? = some v -> kindOf x = some .local ->
 bindL kindOf (P.zip vs) m x = some v
 | [], _, _, _, _, h, _, _ => by simp at h
 | _ :: _, [], _, _, _, _, h, _ => by simp at h
 | p :: P, w :: vs, 0, m, nd, h1, h2, hk => by
  simp at h1 h2; subst h1; subst h2
  show bindL kindOf ((p, w) :: P.zip vs) m p = _
  unfold bindL
  rw [Zar fun v hv => (List.nodup_cons.mp nd).1 (List.of_mem_zip hv).1, if_pos hk]
  simp
 | p :: P, w :: vs, i + 1, m, nd, h1, h2, hk => by
  show bindL kindOf ((p, w) :: P.zip vs) m x = _
  unfold bindL
  exact Zat (i := i) (List.nodup_cons.mp nd).2 (by simpa using h1) (by simpa using h2) hk
theorem Zau {kindOf : Str -> Option NameKind} {x : Str} {v : Value} : ∀ {P : List Str} {vs : List Value} {i : Nat} {m : Str -> Option Value}, P.Nodup -> P[i]? = some x -> vs[i]? = some v -> kindOf x ≠ some .local ->
 bindC kindOf (P.zip vs) m x = some v
 | [], _, _, _, _, h, _, _ => by simp at h
 | _ :: _, [], _, _, _, _, h, _ => by simp at h
 | p :: P, w :: vs, 0, m, nd, h1, h2, hk => by
  simp at h1 h2; subst h1; subst h2
  show bindC kindOf ((p, w) :: P.zip vs) m p = _
  unfold bindC
  rw [Zas fun v hv => (List.nodup_cons.mp nd).1 (List.of_mem_zip hv).1, if_neg hk]
  simp
 | p :: P, w :: vs, i + 1, m, nd, h1, h2, hk => by
  show bindC kindOf ((p, w) :: P.zip vs) m x = _
  unfold bindC
  exact Zau (i := i) (List.nodup_cons.mp nd).2 (by simpa using h1) (by simpa using h2) hk
def start (N : List Str) (vs : List V) : St := vs.map some ++ List.replicate (N.length - vs.length) none
def YR (CX : CXT) (P : Program) (w : World) (K : PySem.W.Frag) (mg : Str -> Option Value) (base : Heap) (N : List Str) (qual : Str) (scope : Scope) (f : Addr) (cd : Value) (A : Around) (outer : List Env) (s : Shared) (H : Hp) (E : XK) : Cx where
 prog := P
 w := w
 K := K
 mg := mg
 base := base
 A := A.deeper (envOfC qual scope s.heap.objs.size f cd)
 N := N
 s₀ := s
 H₀ := H
 env := envOfC qual scope s.heap.objs.size f cd
 outer := outer
 stack := envOfC qual scope s.heap.objs.size f cd :: outer
 ex := []
 calm := true
 fn := fun _ => true
 pn := []
 xe := fun e s' => wpAny (model P w) (A.deeper (envOfC qual scope s.heap.objs.size f cd)) (leaving (envOfC qual scope s.heap.objs.size f cd) e) (fun _ s'' => CX outer H s E e s'') (fun e' s'' => CX outer H s E e' s'') s'
theorem Za3 {sc : Scope} {n : Nat} {x : Str} (h : sc.names.lookup x = some .cell) : ∃ c, (cellsFrom n sc.names []).lookup x = some c := by
 have q := PySem.W.cellsFrom_some sc.names n [] (.inl h)
 exact Option.isSome_iff_exists.mp q
theorem Zcs {CX : CXT} {P : Program} {w : World} {K : PySem.W.Frag} {mg : Str -> Option Value} {base : Heap} {N ps : List Str} {qual : Str} {scope : Scope} {f : Addr} {cd : Value} {A : Around} {outer : List Env} {s s1 : Shared} {H : Hp} {E : XK} {us : List Value} {vs : List V}
 (S : FnScope N ps scope) (hd : A.handled = none) (e0 : Env0 P w K mg base A outer s H) (hl : vs.length = ps.length) (r : Vals vs us)
 (x : InCallC s s.heap.objs.size (bindL (envOfC qual scope s.heap.objs.size f cd).kindOf (ps.zip us) fun _ => none) (cellsFrom (s.heap.objs.size + 1) scope.names []) (bindC (envOfC qual scope s.heap.objs.size f cd).kindOf (ps.zip us) fun _ => none) s1) :
 Inv (YR CX P w K mg base N qual scope f cd A outer s H E) [] (start N vs) H s1 := by
 have hpl : ps.length <= N.length := by have := congrArg List.length S.pre; rw [List.length_take] at this; omega
 obtain ⟨h1, tk, rfl, hk⟩ := x.done
 have noA : ∀ b : Addr, b ∉ (YR CX P w K mg base N qual scope f cd A outer s H E).ex := fun b z => absurd (show b ∈ ([] : List Addr) from z) (by simp)
 refine ⟨⟨e0.mod, S.kind, rfl, rfl, Nat.le_refl _, fun y z c h1 h2 => ?_, fun y hy => ?_, fun y c _ h => ?_, fun _ => hd, Around.frames_deeper e0.frames, .inr ⟨rfl, rfl⟩, fun b z => absurd z (noA b), e0.bs, e0.bsz, fun b _ _ => noA b, fun b z => absurd z (noA b), e0.funs, e0.frf⟩,
  rfl, e0.bare, Un.kept hk, ⟨_, x.toInCall.ns, fun i y v h1 h2 h3 => ?_⟩, fun y c h => ⟨_, x.cell y c h⟩, e0.hok.fresh (Nat.le_refl _), fun y c h => ?_, fun p hp => absurd (show p ∈ ([] : List (Addr × Obj)) from hp) (by simp), e0.hok.kept hk, ?_⟩
 · exact name_of_addr x.apart (PySem.mem_of_lookup h1) (PySem.mem_of_lookup h2)
 · have hy : scope.names.lookup y = some .cell \/ scope.names.lookup y = some .free := hy
   rcases hy with hy | hy
   · exact Za3 hy
   · exact absurd rfl (S.nofree _ (PySem.mem_of_lookup hy))
 · exact Nat.le_of_lt (x.above y c (PySem.mem_of_lookup h))
 · have hi : i < vs.length := by
    unfold start at h2
    by_cases hi : i < vs.length
    · exact hi
    · rw [List.getElem?_append_right (by simpa using hi)] at h2
      rw [List.getElem?_replicate] at h2
      split at h2 <;> cases h2
   have ha : vs[i]? = some v := by
    unfold start at h2
    rw [List.getElem?_append_left (by simpa using hi), List.getElem?_map] at h2
    cases e : vs[i]? with
    | none => rw [e] at h2; cases h2
    | some a => rw [e] at h2; cases h2; rfl
   obtain ⟨u, hu, rv⟩ := r.get ha
   have hp : ps[i]? = some y := by
    rw [<- S.pre, List.getElem?_take_of_lt (by omega)]; exact h1
   have ndP : ps.Nodup := by rw [<- S.pre]; exact S.nd.sublist (List.take_sublist _ _)
   refine ⟨u, rv, ?_⟩
   rcases S.par y (List.mem_of_getElem? hp) with k | k
   · exact .inl ⟨k, Zat ndP hp hu k⟩
   · obtain ⟨c, e⟩ := Za3 (n := s.heap.objs.size + 1) k
     refine .inr ⟨.inl k, c, e, ?_⟩
     have q := x.cell y c e
     rw [Zau ndP hp hu (by show scope.names.lookup y ≠ _; rw [k]; decide)] at q
     exact q
 · exact e0.hok.fresh (Nat.le_of_lt (x.above y c (PySem.mem_of_lookup h)))
 · unfold start
   show _ = N.length
   rw [List.length_append, List.length_map, List.length_replicate]
   omega
theorem Ze0 {CX : CXT} {P : Program} {w : World} {K : PySem.W.Frag} {mg : Str -> Option Value} {base : Heap} {k : Nat} {f : Addr} {name qual : Str} {params : Arguments} {body : List Stmt} {scope : Scope} {dV kV doc pm cdv ct oc : Value} {an od : Option Addr}
 {osl : Array (Option Value)} {N ps : List Str} {sp : Sp} (lk : K.lookup f = some ⟨oc, od, .func (PySem.W.fnOf name qual params body scope dV kV doc pm an cdv ct), osl⟩) (hcd : PySem.W.codeIn K cdv qual = true) (S : FnScope N ps scope)
 (len : ∀ vs H Q E, sp vs H Q E -> vs.length = ps.length)
 (hbody : ∀ (A : Around) (outer : List Env) (s : Shared) (H : Hp) (vs : List V) (Q : VK) (E : XK), Room k (A.deeper (envOfC qual scope s.heap.objs.size f cdv)) -> sp vs H Q E ->
   ∃ t, PSs (YR CX P w K mg base N qual scope f cdv A outer s H E) body t /\ t { nx := fun _ H' => Q .non H', rt := Q } (start N vs) H) :
 FnOk P w K mg base CX (k + 1) f (PySem.W.fnOf name qual params body scope dV kV doc pm an cdv ct) ps sp := by
 refine ⟨len, fun A outer s H args us vs Q E hr e0 hb r hsp => ?_⟩
 have hl := len _ _ _ _ hsp
 have KX : K.In s.heap := e0.mod.kin.keeps fun b o e => (e0.bs b o e).1
 have lim : s.heap.NoLimit := e0.mod.nolimit.keeps fun b o e => (e0.bs b o e).1
 have hkind : ∀ y ∈ ps.zip us, scope.names.lookup y.1 = some .local \/ (scope.names.lookup y.1 = some .cell /\ ((cellsFrom (s.heap.objs.size + 1) scope.names []).lookup y.1).isSome = true) := fun ⟨n, v⟩ hy => by
  rcases S.par n (List.of_mem_zip hy).1 with q | q
  · exact .inl q
  · exact .inr ⟨q, PySem.W.cellsFrom_some _ _ _ (.inl q)⟩
 refine codeAny_call_function hr.depth (KX _ _ lk) rfl S.co S.gen rfl (PySem.W.codeRec_of KX hcd) (hb _ _ _ _ ?_)
 refine wpAny_newFunctionEnv_cells S.kind hkind fun env he s1 x => ?_
 subst he
 refine ⟨lim.keeps x.toInCall.keep, codeAny_func ?_⟩
 obtain ⟨t, ht, hq⟩ := hbody A outer s H vs Q E (hr.deeper _) hsp
 have I : Inv (YR CX P w K mg base N qual scope f cdv A outer s H E) [] (start N vs) H s1 := Zcs S hr.hd e0 hl r x
 refine wpAny_mono (ht [] s1 (start N vs) H _ I hq) (fun fl s' hs => ?_) fun e s' hs => hs
 have fin : ∀ {σ' : St} {H' : Hp} {v : V} {u : Value}, Inv (YR CX P w K mg base N qual scope f cdv A outer s H E) [] σ' H' s' -> RelV v u -> Q v H' -> CE outer P w H s Q u s' :=
  fun {σ' H' v u} J rv q => ⟨v, H', J.os, J.bare, J.base, J.hok, rv, q⟩
 cases fl with
 | ret u =>
  obtain ⟨v, σ', H', J, rv, q⟩ := hs
  exact fin J rv q
 | next =>
  obtain ⟨σ', H', J, q⟩ := hs
  exact fin (v := V.non) (u := Value.none) J rfl q
 | brk =>
  obtain ⟨_, _, _, q⟩ := hs
  exact False.elim q
 | cont =>
  obtain ⟨_, _, _, q⟩ := hs
  exact False.elim q
end L2
namespace L2
open PySem PySem.Spec PyProof.Rows
section
variable {X : Cx} {x : Str} {p pos : Pos} {e : Expr} {es : List Expr} {t : TA} {id T : String} {r : List V -> Hp -> VK -> Prop}
def tCB (r : List V -> Hp -> VK -> Prop) (t : TA) : TE := fun σ H Q => t σ H fun vs H1 => r vs H1 Q
theorem Yp (hc : ZZ X (.builtin id) r) (hg : Gl X x) (hm : X.mg x = none) (hv : bootBuiltins x = some (.builtin id)) (ha : PA X (e :: es) t) (hn : x ≠ "__name__" := by decide) (hdb : (x == ("__debug__" : Str)) = false := by decide)
 (he : starEach (e :: es) X.env = (false, eval e X.env) :: starEach es X.env := by rfl) (hpl : (backTo pos (starEach es X.env)).any (·.1) = false := by rfl) : PE X (.Call (.Name x p) (e :: es) [] pos) (tCB r t) := by
 intro pins s σ H Q I h
 refine wpAny_Call_Name_kw (VZ I hg hm hv ?_ hn hdb)
 exact PyProof.Rows.callWith_builtin1 (thn (ha pos pins s σ H _ I h) fun us s1 ⟨vs, H1, I1, r1, q1⟩ => hc pins s1 σ H1 vs us Q I1 r1 q1) he hpl
theorem UN (hc : ZZ X (.type T) r) (hg : Gl X x) (hm : X.mg x = none) (hv : bootBuiltins x = some (.type T)) (ha : PA X (e :: es) t) (hn : x ≠ "__name__" := by decide) (hdb : (x == ("__debug__" : Str)) = false := by decide)
 (he : starEach (e :: es) X.env = (false, eval e X.env) :: starEach es X.env := by rfl) (hpl : (backTo pos (starEach es X.env)).any (·.1) = false := by rfl) : PE X (.Call (.Name x p) (e :: es) [] pos) (tCB r t) := by
 intro pins s σ H Q I h
 refine wpAny_Call_Name_kw (VZ I hg hm hv ?_ hn hdb)
 exact PyProof.Rows.callWith_type1 (thn (ha pos pins s σ H _ I h) fun us s1 ⟨vs, H1, I1, r1, q1⟩ => hc pins s1 σ H1 vs us Q I1 r1 q1) he hpl
end
end L2
namespace HT
open PySem PyProof.Rows
section
open PySem.SeqAt
open PySem.AutoSeq1 (wpAny_loadPart')
open PySem.MeetsSeq PySem.MeetsSeq2 PySem.MeetsSeq3
end
section
variable {prog : Program} {w : World} {A : Around} {E : Value -> Shared -> Prop} {s : Shared}
end
end HT
namespace L2
open PySem PySem.Spec PyProof.Rows
section
variable {X : Cx} {e : Expr} {te : TE} {lo hi : Option Expr} {tl th : TO} {pos p2 : Pos}
end
end L2
namespace L2
open PySem PySem.Spec PyProof.Rows
def ixN (n : Nat) (i : Int) : Option Nat := if 0 <= i then (if i < n then some i.toNat else none) else if -(n : Int) <= i then some (i + n).toNat else none
def atI {α : Type} (xs : List α) (i : Int) : Option α := (ixN xs.length i).bind fun j => xs[j]?
theorem ZbP {n : Nat} {i : Int} {j : Nat} (h : ixN n i = some j) : seqIndex? i n = some j /\ j < n /\ -(n : Int) <= i /\ i < n := by
 unfold ixN at h
 by_cases h0 : 0 <= i
 · rw [if_pos h0] at h
   by_cases h1 : i < n
   · rw [if_pos h1] at h
     have e : i.toNat = j := Option.some.inj h
     exact ⟨by rw [seqIndex_of h0 h1, e], by omega, by omega, h1⟩
   · rw [if_neg h1] at h; cases h
 · rw [if_neg h0] at h
   by_cases h1 : -(n : Int) <= i
   · rw [if_pos h1] at h
     have e : (i + n).toNat = j := Option.some.inj h
     exact ⟨by rw [seqIndex_neg (by omega) h1, e], by omega, h1, by omega⟩
   · rw [if_neg h1] at h; cases h
theorem QF {α : Type} {xs : List α} {i : Int} {v : α} (h : atI xs i = some v) : ∃ j, seqIndex? i xs.length = some j /\ xs[j]? = some v /\ j < xs.length /\ -(xs.length : Int) <= i /\ i < xs.length := by
 unfold atI at h
 cases e : ixN xs.length i with
 | none => rw [e] at h; cases h
 | some j =>
  rw [e] at h
  obtain ⟨h1, h2, h3, h4⟩ := ZbP e
  exact ⟨j, h1, h, h2, h3, h4⟩
theorem QG {α : Type} {xs : List α} {j : Nat} {v : α} (h : xs[j]? = some v) : atI xs (j : Int) = some v := by
 have hj : j < xs.length := (List.getElem?_eq_some_iff.mp h).1
 have e : ixN xs.length (j : Int) = some j := by
  unfold ixN
  rw [if_pos (by omega), if_pos (by omega)]; simp
 unfold atI; rw [e]; exact h
def Zd1 (b : Expr) : Prop := ∀ o i, subscripted b false o i = operate [o, i] (getItem o i)
def IxR (X : Cx) (r : R2) : Prop :=
 ∀ (value slice : Expr) (pins : List (Addr × Obj)) (s : Shared) (σ : St) (H : Hp) (x y : V) (v u : Value) (Q : VK), Inv X pins σ H s -> RelV x v -> RelV y u -> r x y H Q ->
  subscripted slice false v u = operate [v, u] (getItem v u) -> wpAny (model X.prog X.w) X.A (subscriptTail value slice v u) (EP X pins σ Q) X.xe s
def MtR (X : Cx) (id : String) (r : V -> List V -> Hp -> VK -> Prop) : Prop :=
 ∀ (pins : List (Addr × Obj)) (s : Shared) (σ : St) (H : Hp) (x : V) (xs : List V) (v : Value) (us : List Value) (Q : VK), Inv X pins σ H s -> RelV x v -> Vals xs us -> r x xs H Q ->
  wpAny (model X.prog X.w) X.A (call (.builtin id) (v :: us)) (EP X pins σ Q) X.xe s
section
variable {X : Cx} {a b : Expr} {ta tb : TE} {pos : Pos}
theorem IxR.or {r r' : R2} (h : IxR X r) (h' : IxR X r') : IxR X (fun x y H Q => r x y H Q \/ r' x y H Q) := by
 intro value slice pins s σ H x y v u Q I rx ry q hs
 rcases q with q | q
 · exact h value slice pins s σ H x y v u Q I rx ry q hs
 · exact h' value slice pins s σ H x y v u Q I rx ry q hs
theorem ZS {r : R2} (hr : IxR X r) (ha : PE X a ta) (hb : PE X b tb) (hs : Zd1 b) : PE X (.Subscript a b pos) (tOp r ta tb) := by
 intro pins s σ H Q I h
 exact Subscript_ (QB ha hb I h fun v u s2 x y H2 I2 rx ry q => hr a b pins s2 σ H2 x y v u Q I2 rx ry q (hs _ _))
def Zhg (K : PySem.W.Frag) : R2 := fun x y H Q => ∃ p xs i v, x = .ref p /\ y = .int i /\ SqL K H p xs /\ atI xs i = some v /\ Q v H
def Zhh (K : PySem.W.Frag) : R2 := fun x y H Q => ∃ p xs i v, x = .ref p /\ y = .int i /\ SqT K H p xs /\ atI xs i = some v /\ Q v H
def rIxS : R2 := fun x y H Q => ∃ z i c, x = .str z /\ y = .int i /\ z.length <= sizeLine /\ atI z.cps.toList i = some c /\ Q (.str ⟨#[c]⟩) H
theorem ix_list : IxR X (Zhg X.K) := by
 intro value slice pins s σ H x y v u Q I rx ry h hs
 obtain ⟨p, xs, i, z, rfl, rfl, hq, he, q⟩ := h
 cases rx
 obtain ⟨t, rfl⟩ := ry
 obtain ⟨its, r, pl, hz⟩ := I.list hq
 obtain ⟨j, h1, h2, h3, h4, h5⟩ := QF he
 obtain ⟨w, ew, rw'⟩ := r.get h2
 have hl := r.length
 have hn := Vm
 have fin : EP X pins σ Q w s := ⟨z, H, I, rw', q⟩
 by_cases h0 : 0 <= i
 · have hj : i.toNat = j := by
    rw [seqIndex_of h0 h5] at h1
    exact Option.some.inj h1
   exact item_listR pl.isList h0 (by omega) (by rw [hj]; simpa using ew) fin hs
 · have hj : (i + (its.toArray.size : Int)).toNat = j := by
    rw [seqIndex_neg (by omega) h4] at h1
    rw [List.size_toArray, <- hl]
    exact Option.some.inj h1
   exact subscriptTail_builtinR (x := w) pl.isList.typeIs slot_list_getitem.lookup
    (wpAny_getItem_list_neg (Q := fun r s' => r = w /\ EP X pins σ Q r s') pl.isList (by omega) (by rw [List.size_toArray] <;> omega) (by omega) (by rw [hj]; simpa using ew) ⟨rfl, fin⟩) hs
theorem ix_tup : IxR X (Zhh X.K) := by
 intro value slice pins s σ H x y v u Q I rx ry h hs
 obtain ⟨p, xs, i, z, rfl, rfl, hq, he, q⟩ := h
 cases rx
 obtain ⟨t, rfl⟩ := ry
 obtain ⟨its, r, pl, hz⟩ := I.tuple hq
 obtain ⟨j, h1, h2, h3, h4, h5⟩ := QF he
 obtain ⟨w, ew, rw'⟩ := r.get h2
 have hl := r.length
 have hn := Vm
 have fin : EP X pins σ Q w s := ⟨z, H, I, rw', q⟩
 exact subscriptTail_builtinR (x := w) pl.typeIs slot_tuple_getitem.lookup
  (getItem_tuple (j := j) (Q := fun r s' => r = w /\ EP X pins σ Q r s') pl (by omega) (by omega) (by rw [List.size_toArray, <- hl]; exact h1) (by simpa using ew) ⟨rfl, fin⟩) hs
theorem ZfJ : IxR X rIxS := by
 intro value slice pins s σ H x y v u Q I rx ry h hs
 obtain ⟨z, i, c, rfl, rfl, hz, he, q⟩ := h
 obtain ⟨t, rfl⟩ := rx
 obtain ⟨t', rfl⟩ := ry
 obtain ⟨j, h1, h2, h3, h4, h5⟩ := QF he
 have hl : z.cps.toList.length = z.length := by simp [Str.length]
 rw [hl] at h1 h4 h5
 have hn := Vm
 exact tail_any (typeIs_str s z t) slot_str_getitem.lookup (getItem_str (c := c) (by
  have e1 : decide (i < -(2 ^ 63 : Int)) = false := decide_eq_false (by omega)
  have e2 : decide (i ≥ 2 ^ 63) = false := decide_eq_false (by omega)
  rw [e1, e2, Bool.or_false]) (by rw [h1]; simpa using h2) ⟨.str ⟨#[c]⟩, H, I.tok _, ⟨_, rfl⟩, q⟩) hs
theorem Zbw (its : List Value) (n j : Nat) (u : Value) : Obj.mapSeq (·.setIfInBounds j u) { cls := .type "list", data := .seq its.toArray n } = { cls := .type "list", data := .seq (its.set j u).toArray n } := by
 simp [Obj.mapSeq]
theorem Inv.lst {pins : List (Addr × Obj)} {σ : St} {H : Hp} {s : Shared} {p : Addr} {xs : List V} (I : Inv X pins σ H s) (h : H p = some (.lst xs)) :
 ∃ (its : List Value) (n : Nat), Vals xs its /\ s.heap.get? p = some { cls := .type "list", data := .seq its.toArray n } /\ xs.length <= sizeLine := by
 obtain ⟨z, its, n, r, e⟩ := I.hok p _ h
 exact ⟨its, n, r, e, z⟩
theorem Inv.lstUpd {pins : List (Addr × Obj)} {σ : St} {H : Hp} {s : Shared} {p : Addr} {xs ys : List V} {its its' : List Value} {n n' : Nat} {f : Obj -> Obj} (I : Inv X pins σ H s) (h : H p = some (.lst xs))
 (ho : s.heap.get? p = some { cls := .type "list", data := .seq its.toArray n }) (hf : f { cls := .type "list", data := .seq its.toArray n } = { cls := .type "list", data := .seq its'.toArray n' }) (r : Vals ys its') (hz : ys.length <= sizeLine) (t : Nat) :
 Inv X pins σ (upd H p (.lst ys)) { s with heap := s.heap.update p f, toks := t } := by
 have e : (s.heap.update p f).get? p = some { cls := .type "list", data := .seq its'.toArray n' } := by
  rw [Heap.get?_update_self f ho (by rw [hf] <;> rfl), hf]
 refine I.write (x := p) (e := p) (by rw [h]; trivial) (.inl rfl) (fun b u hb q => (Heap.get?_update_other _ _ (Ne.symm hb)).trans q) ⟨_, e⟩ ?_
 exact ⟨hz, its', n', r, e⟩
def rSetL : V -> V -> V -> Hp -> (Hp -> Prop) -> Prop := fun o i v H Q => ∃ p xs k j, o = .ref p /\ i = .int k /\ H p = some (.lst xs) /\ ixN xs.length k = some j /\ Q (upd H p (.lst (xs.set j v)))
theorem ZcW : J9 X rSetL := by
 intro pins s σ H o i v ov iv u Q I ro ri rv h
 obtain ⟨p, xs, k, j, rfl, rfl, hp, hj, q⟩ := h
 cases ro
 obtain ⟨t, rfl⟩ := ri
 obtain ⟨its, n, r, ho, hz⟩ := I.lst hp
 obtain ⟨h1, h2, h3, h4⟩ := ZbP hj
 have hl := r.length
 have hn := Vm
 have I' : Inv X pins σ (upd H p (.lst (xs.set j v))) { s with heap := s.heap.update p (Obj.mapSeq (·.setIfInBounds j u)) } :=
  I.lstUpd hp ho (Zbw its n j u) (r.set rv j) (by rw [List.length_set]; exact hz) s.toks
 by_cases h0 : 0 <= k
 · have hk : k.toNat = j := by
    rw [seqIndex_of h0 h4] at h1
    exact Option.some.inj h1
   exact PySem.W.ki_setAt ho h0 (by omega) (by rw [List.size_toArray, <- hl]; exact h4) (by rw [hk]; exact ⟨_, I', q⟩)
 · have hk : (k + (its.toArray.size : Int)).toNat = j := by
    rw [seqIndex_neg (by omega) h3] at h1
    rw [List.size_toArray, <- hl]
    exact Option.some.inj h1
   exact PySem.W.ki_setBack ho (by omega) (by rw [List.size_toArray, <- hl]; exact h3) (by omega) (by rw [hk]; exact ⟨_, I', q⟩)
def YY : V -> Bool
 | .non => true
 | .bl _ => true
 | .int _ => true
 | .str _ => true
 | _ => false
def eqV : V -> V -> Bool
 | .non, .non => true
 | .bl a, .bl b => a == b
 | .bl a, .int b => (if a then 1 else 0) == b
 | .int a, .bl b => a == (if b then 1 else 0)
 | .int a, .int b => a == b
 | .str a, .str b => a == b
 | _, _ => false
theorem ZfK {A : Around} {s : Shared} {y x : V} {u v : Value} (ry : RelV y u) (rx : RelV x v) (fy : YY y = true) (fx : YY x = true) : SeqAt.EqAt A s u v (eqV y x) := by
 cases y with
 | non =>
  cases ry
  cases x with
  | non => cases rx; exact SeqAt.EqAt.same _
  | bl b => cases rx; exact SeqAt.EqAt.none_bool b
  | int b => obtain ⟨t, rfl⟩ := rx; exact SeqAt.EqAt.none_int b t
  | str b => obtain ⟨t, rfl⟩ := rx; exact SeqAt.EqAt.none_str b t
  | _ => exact absurd (show false = true from fx) Bool.false_ne_true
 | bl a =>
  cases ry
  cases x with
  | non => cases rx; exact SeqAt.EqAt.bool_none a
  | bl b => cases rx; exact SeqAt.EqAt.bool_bool a b
  | int b => obtain ⟨t, rfl⟩ := rx; exact SeqAt.EqAt.bool_int a b t
  | str b => obtain ⟨t, rfl⟩ := rx; exact SeqAt.EqAt.bool_str a b t
  | _ => exact absurd (show false = true from fx) Bool.false_ne_true
 | int a =>
  obtain ⟨t', rfl⟩ := ry
  cases x with
  | non => cases rx; exact SeqAt.EqAt.int_none a t'
  | bl b => cases rx; exact SeqAt.EqAt.int_bool a t' b
  | int b => obtain ⟨t, rfl⟩ := rx; exact SeqAt.EqAt.int_int a t' b t
  | str b => obtain ⟨t, rfl⟩ := rx; exact SeqAt.EqAt.int_str a t' b t
  | _ => exact absurd (show false = true from fx) Bool.false_ne_true
 | str a =>
  obtain ⟨t', rfl⟩ := ry
  cases x with
  | non => cases rx; exact SeqAt.EqAt.str_none a t'
  | bl b => cases rx; exact SeqAt.EqAt.str_bool a t' b
  | int b => obtain ⟨t, rfl⟩ := rx; exact SeqAt.EqAt.str_int a t' b t
  | str b => obtain ⟨t, rfl⟩ := rx; exact SeqAt.EqAt.str_str a t' b t
  | _ => exact absurd (show false = true from fx) Bool.false_ne_true
 | _ => exact absurd (show false = true from fy) Bool.false_ne_true
def eqU (x : V) (u : Value) : Bool := match u with
 | .none => eqV .non x
 | .bool b => eqV (.bl b) x
 | .int i _ => eqV (.int i) x
 | .str z _ => eqV (.str z) x
 | _ => false
theorem Zdt {x y : V} {u : Value} (r : RelV y u) (f : YY y = true) : eqU x u = eqV y x := by
 cases y with
 | non => cases r; rfl
 | bl b => cases r; rfl
 | int i => obtain ⟨t, rfl⟩ := r; rfl
 | str z => obtain ⟨t, rfl⟩ := r; rfl
 | _ => exact absurd (show false = true from f) Bool.false_ne_true
theorem V3 {x : V} : ∀ {xs : List V} {us : List Value}, Vals xs us -> xs.all YY = true -> us.any (eqU x) = xs.any fun y => eqV y x
 | _, _, .nil, _ => rfl
 | y :: xs, u :: us, .cons r t, f => by
  rw [List.all_cons, Bool.and_eq_true] at f
  rw [List.any_cons, List.any_cons, Zdt r f.1, V3 t f.2]
theorem V4 {A : Around} {s : Shared} {x : V} {v : Value} (rx : RelV x v) (fx : YY x = true) : ∀ {xs : List V} {us : List Value}, Vals xs us -> xs.all YY = true -> ∀ u ∈ us, SeqAt.EqAt A s u v (eqU x u)
 | _, _, .nil, _ => fun u hu => by cases hu
 | y :: xs, u :: us, .cons r t, f => fun u' hu => by
  rw [List.all_cons, Bool.and_eq_true] at f
  rcases List.mem_cons.mp hu with rfl | hu
  · rw [Zdt r f.1]; exact ZfK r rx f.1 fx
  · exact V4 rx fx t f.2 u' hu
def inV (x : V) (xs : List V) : Bool := xs.any fun y => eqV y x
def rIn (K : PySem.W.Frag) (neg : Bool) : R2 := fun x y H Q => ∃ p xs, y = .ref p /\ (SqL K H p xs \/ SqT K H p xs) /\ YY x = true /\ xs.all YY = true /\ Q (.bl (if neg then !inV x xs else inV x xs)) H
theorem Zct : OpR X (compareOp .In) (rIn X.K false) := by
 intro pins s σ H x y v u Q I rx ry h
 obtain ⟨p, xs, rfl, hq, fx, fs, q⟩ := h
 cases ry
 rcases hq with hq | hq
 · obtain ⟨its, r, pl, hz⟩ := I.list hq
   refine SeqAt.in_listAt (eqU x) pl.isList (fun w hw => V4 rx fx r fs w (by simpa using hw)) ⟨.bl _, H, I, rfl, ?_⟩
   rw [show its.toArray.any (eqU x) = its.any (eqU x) by simp, V3 r fs]
   exact q
 · obtain ⟨its, r, pl, hz⟩ := I.tuple hq
   refine SeqAt.in_tupleAt (eqU x) pl (fun w hw => V4 rx fx r fs w (by simpa using hw)) ⟨.bl _, H, I, rfl, ?_⟩
   rw [show its.toArray.any (eqU x) = its.any (eqU x) by simp, V3 r fs]
   exact q
theorem ZaN : OpR X (compareOp .NotIn) (rIn X.K true) := by
 intro pins s σ H x y v u Q I rx ry h
 obtain ⟨p, xs, rfl, hq, fx, fs, q⟩ := h
 cases ry
 rcases hq with hq | hq
 · obtain ⟨its, r, pl, hz⟩ := I.list hq
   refine SeqAt.notIn_listAt (eqU x) pl.isList (fun w hw => V4 rx fx r fs w (by simpa using hw)) ⟨.bl _, H, I, rfl, ?_⟩
   rw [show its.toArray.any (eqU x) = its.any (eqU x) by simp, V3 r fs]
   exact q
 · obtain ⟨its, r, pl, hz⟩ := I.tuple hq
   refine SeqAt.notIn_tupleAt (eqU x) pl (fun w hw => V4 rx fx r fs w (by simpa using hw)) ⟨.bl _, H, I, rfl, ?_⟩
   rw [show its.toArray.any (eqU x) = its.any (eqU x) by simp, V3 r fs]
   exact q
theorem ZaO : ZZ X (.builtin "len") (fun xs H Q => ∃ p ys, xs = [.ref p] /\ (SqL X.K H p ys \/ SqT X.K H p ys) /\ Q (.int ys.length) H) := by
 intro pins s σ H xs us Q I r h
 obtain ⟨p, ys, rfl, hq, q⟩ := h
 obtain ⟨u, rfl, rx⟩ := YD r
 cases rx
 have hn := Vm
 rcases hq with hq | hq
 · obtain ⟨its, r', pl, hz⟩ := I.list hq
   have hlen := r'.length
   exact Calls.call_len_list pl.isList (by simp only [List.size_toArray] <;> omega) ⟨.int ys.length, H, I.tok _, ⟨s.toks + 1, by rw [List.size_toArray, hlen]⟩, q⟩
 · obtain ⟨its, r', pl, hz⟩ := I.tuple hq
   have hlen := r'.length
   exact len_tuple pl (by simp only [List.size_toArray] <;> omega) ⟨.int ys.length, H, I.tok _, ⟨s.toks + 1, by rw [List.size_toArray, hlen]⟩, q⟩
theorem ZaP : ZZ X (.builtin "len") (fun xs H Q => ∃ z, xs = [.str z] /\ z.length <= sizeLine /\ Q (.int z.length) H) := by
 intro pins s σ H xs us Q I r h
 obtain ⟨z, rfl, hz, q⟩ := h
 obtain ⟨u, rfl, t, rfl⟩ := YD r
 have hn := Vm
 exact len_str (by omega) ⟨.int z.length, H, I.tok _, ⟨_, rfl⟩, q⟩
theorem ZaQ : ZZ X (.type "list") (fun xs H Q => ∃ p ys, xs = [.ref p] /\ (SqL X.K H p ys \/ SqT X.K H p ys) /\ ∀ l, H l = none -> Q (.ref l) (upd H l (.lst ys))) := by
 intro pins s σ H xs us Q I r h
 obtain ⟨p, ys, rfl, hq, q⟩ := h
 obtain ⟨u, rfl, rx⟩ := YD r
 cases rx
 have fin : ∀ (its : List Value), Vals ys its -> ys.length <= sizeLine -> ∀ (h' : Heap) (c' : Nat), (∀ b o', s.heap.get? b = some o' -> h'.get? b = some o') ->
  h'.get? s.heap.objs.size = some { cls := .type "list", dict := none, data := .seq its.toArray c', slots := #[] } -> EP X pins σ Q (.ref s.heap.objs.size) { s with heap := h' } := fun its r' hz h' c' kp e =>
  ⟨.ref s.heap.objs.size, _, I.laid (t' := s.toks) kp (Nat.le_refl _) (show ObjOk X.prog X.w _ h' _ (.lst ys) from ⟨hz, its, c', r', e⟩), rfl, q _ (I.hok.fresh (Nat.le_refl _))⟩
 rcases hq with hq | hq
 · obtain ⟨its, r', pl, hz⟩ := I.list hq
   have hlen := r'.length
   obtain ⟨o, ho, hc, n, hd⟩ := pl.isList
   exact call_list_seq p (.inl rfl) ho hc hd (fun h' c' kp e => fin its r' hz h' c' kp e) (by simp only [List.size_toArray] <;> omega)
 · obtain ⟨its, r', pl, hz⟩ := I.tuple hq
   have hlen := r'.length
   obtain ⟨o, ho, hc, n, hd⟩ := pl
   exact call_list_seq p (.inr rfl) ho hc hd (fun h' c' kp e => fin its r' hz h' c' kp e) (by simp only [List.size_toArray] <;> omega)
def tyV (K : PySem.W.Frag) (T : String) (x : V) (H : Hp) : Prop := match x with
 | .str _ => T = "str"
 | .int _ => T = "int"
 | .ref p => (T = "list" /\ ∃ xs, SqL K H p xs) \/ (T = "tuple" /\ ∃ o, K.lookup p = some o /\ o.cls = .type "tuple" /\ o.dict = none) \/
  (T = "dict" /\ ((∃ kvs, H p = some (.dK kvs)) \/ ∃ kvs, H p = some (.dT kvs))) \/ (T = "set" /\ ∃ S n, H p = some (.set S n)) \/ (T = "tuple" /\ ∃ xs, H p = some (.tup xs))
 | _ => False
theorem Zdu {pins : List (Addr × Obj)} {σ : St} {H : Hp} {s : Shared} {T : String} {x : V} {v : Value} (I : Inv X pins σ H s) (r : RelV x v) (ty : tyV X.K T x H) :
 s.TypeIs v T /\ ∀ a, v = .ref a -> ∃ ob, s.heap.get? a = some ob /\ ob.dict = none := by
 cases x with
 | str z =>
  obtain ⟨t, rfl⟩ := r
  cases (show T = "str" from ty)
  exact ⟨typeIs_str s z t, fun _ e => nomatch e⟩
 | int i =>
  obtain ⟨t, rfl⟩ := r
  cases (show T = "int" from ty)
  exact ⟨typeIs_int s i t, fun _ e => nomatch e⟩
 | ref p =>
  cases r
  rcases ty with ⟨rfl, xs, hq⟩ | ⟨rfl, o, hk, hc, hd⟩ | ⟨rfl, hk⟩ | ⟨rfl, S, n, hk⟩ | ⟨rfl, xs, hk⟩
  · obtain ⟨its, _, pl, _⟩ := I.list hq
    refine ⟨pl.isList.typeIs, fun a e => ?_⟩
    cases e
    obtain ⟨o, n, e, c, hd, _⟩ := pl
    exact ⟨o, e, hd⟩
  · refine ⟨⟨o, I.kIn p o hk, hc⟩, fun a e => ?_⟩
    cases e
    exact ⟨o, I.kIn _ o hk, hd⟩
  · have z : ∃ o, s.heap.get? p = some o /\ o.ExactDict := by
     rcases hk with ⟨kvs, hk⟩ | ⟨kvs, hk⟩
     · obtain ⟨_, _, _, _, o, _, _, e, ex, _⟩ := I.hok p _ hk
       exact ⟨o, e, ex⟩
     · obtain ⟨_, _, _, _, o, _, _, e, ex, _⟩ := I.hok p _ hk
       exact ⟨o, e, ex⟩
    obtain ⟨o, e, ex⟩ := z
    refine ⟨⟨o, e, ex.1⟩, fun a e2 => ?_⟩
    cases e2
    exact ⟨o, e, ex.2.1⟩
  · obtain ⟨o, _, _, _, e, ex, _⟩ := I.hok p _ hk
    refine ⟨⟨o, e, ex.1⟩, fun a e2 => ?_⟩
    cases e2
    exact ⟨o, e, ex.2.1⟩
  · obtain ⟨_, its, _, o, e, c, _, dn⟩ := (show ObjOk X.prog X.w H s.heap p (.tup xs) from I.hok p _ hk)
    refine ⟨⟨o, e, c⟩, fun a e2 => ?_⟩
    cases e2
    exact ⟨o, e, dn⟩
 | _ => exact False.elim ty
def QH (K : PySem.W.Frag) (T : String) (r : V -> List V -> Hp -> VK -> Prop) (to : TE) : TE := fun σ H Q => to σ H fun x H1 => tyV K T x H1 /\ r x [] H1 Q
def tBM (K : PySem.W.Frag) (T : String) (r : V -> List V -> Hp -> VK -> Prop) (to : TE) (t : TA) : TE := fun σ H Q => to σ H fun x H1 => tyV K T x H1 /\ t σ H1 fun xs H2 => r x xs H2 Q
variable {o e : Expr} {es : List Expr} {to : TE} {t : TA} {name : Str} {apos cpos : Pos} {T id : String} {r : V -> List V -> Hp -> VK -> Prop}
theorem ZfL (pa : PlainAttrs T) (slot : Slot T name id) (hty : typeOf (.builtin id) = pure (.type "method_descriptor")) (hm : MtR X id r) (ho : PE X o to)
 (hbase : attributeBase o name X.env (eval o X.env) = eval o X.env := by rfl) (hline : (apos.endLine == cpos.line) = true := by rfl) : PE X (.Call (.Attribute o name apos) [] [] cpos) (QH X.K T r to) := by
 intro pins s σ H Q I h
 refine wpAny_Call_method0_late hbase hline (thn (ho pins s σ H _ I h) fun v s1 ⟨x, H1, I1, r1, ty, q1⟩ => ?_)
 obtain ⟨h1, h2⟩ := Zdu I1 r1 ty
 exact ⟨T, id, pa, slot, hty, h1, h2, Calls.callWith_builtin rfl (PySem.evalArgs_none (hm pins s1 σ H1 x [] v [] Q I1 r1 .nil q1))⟩
theorem Zgl (pa : PlainAttrs T) (slot : Slot T name id) (hty : typeOf (.builtin id) = pure (.type "method_descriptor")) (hm : MtR X id r) (ho : PE X o to) (ha : PA X (e :: es) t)
 (hbase : attributeBase o name X.env (eval o X.env) = eval o X.env := by rfl)
 (hfew : ((backTo cpos (starEach (e :: es) X.env)).all (fun x => !x.1) && (backToKw cpos (keywordEach [] X.env)).all (fun x => x.1.isSome)
   && decide ((e :: es).length + ([] : List Keyword).length + (if ([] : List Keyword).isEmpty then 0 else 1) < 30)) = true := by rfl)
 (hline : (apos.endLine == cpos.line) = true := by rfl) (hs : starEach (e :: es) X.env = (false, eval e X.env) :: starEach es X.env := by rfl) (hplain : (backTo cpos (starEach es X.env)).any (·.1) = false := by rfl) :
 PE X (.Call (.Attribute o name apos) (e :: es) [] cpos) (tBM X.K T r to t) := by
 intro pins s σ H Q I h
 refine wpAny_Call_method_late hbase hfew hline rfl (thn (ho pins s σ H _ I h) fun v s1 ⟨x, H1, I1, r1, ty, q1⟩ => ?_)
 obtain ⟨h1, h2⟩ := Zdu I1 r1 ty
 refine ⟨T, id, pa, slot, hty, h1, h2, ?_⟩
 have hA := ha cpos pins s1 σ H1 _ I1 q1
 rw [hs] at hA ⊢
 refine Calls.callWith_builtin (by show (false || (backTo cpos (starEach es X.env)).any (·.1)) = false; rw [hplain] <;> rfl) (Calls.evalArgs_plain ?_)
 exact thn hA fun us s2 ⟨vs, H2, I2, r2, q2⟩ => hm pins s2 σ H2 x vs v us Q I2 r1 r2 q2
end
end L2
namespace L2
open PySem PySem.Spec PyProof.Rows
def MtM (X : Cx) (id : String) (r : V -> List V -> Hp -> VK -> Prop) : Prop :=
 ∀ (pins : List (Addr × Obj)) (s : Shared) (σ : St) (H : Hp) (x : V) (xs : List V) (v : Value) (us : List Value) (Q : VK), Inv X pins σ H s -> RelV x v -> Vals xs us -> r x xs H Q ->
  wpAny (model X.prog X.w) X.A (call (.builtin id) (v :: us)) (EP X pins σ Q) X.xe s
theorem Vals.one : ∀ {x : V} {us : List Value}, Vals [x] us -> ∃ u, us = [u] /\ RelV x u
 | _, _, .cons r .nil => ⟨_, rfl, r⟩
theorem Vals.zero : ∀ {us : List Value}, Vals [] us -> us = []
 | _, .nil => rfl
theorem Vals.dropLast {xs : List V} {us : List Value} (h : Vals xs us) : Vals xs.dropLast us.dropLast := by
 induction h with
 | nil => exact .nil
 | cons r t ih =>
  cases t with
  | nil => exact .nil
  | cons q t' => exact .cons r ih
theorem Vals.rep {xs : List V} {us : List Value} (h : Vals xs us) : ∀ k : Nat, Vals (List.replicate k xs).flatten (List.replicate k us).flatten
 | 0 => .nil
 | k + 1 => by
  rw [List.replicate_succ, List.replicate_succ, List.flatten_cons, List.flatten_cons]
  exact Vals.append h (Vals.rep h k)
theorem Zbx {α : Type} (l : List α) : l.eraseIdx (l.length - 1) = l.dropLast := by
 induction l with
 | nil => rfl
 | cons a r ih =>
  cases r with
  | nil => rfl
  | cons b r =>
   have e : (a :: b :: r).length - 1 = ((b :: r).length - 1) + 1 := by
    have h1 : (a :: b :: r).length = r.length + 2 := rfl
    have h2 : (b :: r).length = r.length + 1 := rfl
    omega
   rw [e, List.eraseIdx_cons_succ, ih]
   all_goals rfl
theorem Zav (its : List Value) : ∀ (k : Nat) (acc : List Value),
 List.foldl (fun x1 x2 => x1 ++ x2) acc.toArray (List.replicate k its.toArray) = (acc ++ (List.replicate k its).flatten).toArray
 | 0, acc => by simp
 | k + 1, acc => by
  have e : acc.toArray ++ its.toArray = (acc ++ its).toArray := by simp
  have e2 : (acc ++ its) ++ (List.replicate k its).flatten = acc ++ (List.replicate (k + 1) its).flatten := by
   rw [List.replicate_succ, List.flatten_cons, List.append_assoc]
  rw [<- e2, <- Zav its k (acc ++ its), <- e, List.replicate_succ, List.foldl_cons]
section
variable {X : Cx} {pins : List (Addr × Obj)} {σ : St} {H : Hp} {s : Shared} {l b : Addr} {xs ys zs : List V}
theorem Inv.lset {its its' : List Value} {n : Nat} {f : Array Value -> Array Value} {t' : Nat} (I : Inv X pins σ H s) (hH : H l = some (.lst xs))
 (e : s.heap.get? l = some { cls := .type "list", data := .seq its.toArray n }) (hf : f its.toArray = its'.toArray) (hv : Vals ys its') (hz : ys.length <= sizeLine) :
 Inv X pins σ (upd H l (.lst ys)) { s with heap := s.heap.update l (Obj.mapSeq f), toks := t' } := by
 have q := PySem.IsL.update e f
 rw [hf] at q
 refine I.write (x := l) (e := l) (by rw [hH]; exact trivial) (.inl rfl) (fun b' u hb hu => (Heap.get?_update_other s.heap (Obj.mapSeq f) (Ne.symm hb)).trans hu) ⟨_, q⟩ ?_
 exact ⟨hz, its', _, hv, q⟩
theorem Inv.lnew {its : List Value} {t' : Nat} (I : Inv X pins σ H s) (hv : Vals ys its) (hz : ys.length <= sizeLine) :
 Inv X pins σ (upd H s.heap.objs.size (.lst ys)) { s with heap := s.heap.push { cls := .type "list", data := .seq its.toArray }, toks := t' } :=
 I.laid (fun _ _ q => Heap.get?_push_of_some _ q) (Nat.le_refl _) ⟨hz, its, 0, hv, Heap.get?_push_size _ rfl⟩
theorem Inv.fresh (I : Inv X pins σ H s) : H s.heap.objs.size = none := I.hok.fresh (Nat.le_refl _)
theorem Inv.lstM (I : Inv X pins σ H s) (hH : H l = some (.lst xs)) : xs.length <= sizeLine /\ ∃ (its : List Value) (n : Nat), Vals xs its /\ xs.length = its.length /\ s.heap.get? l = some { cls := .type "list", data := .seq its.toArray n } := by
 obtain ⟨z, its, n, r, e⟩ := I.hok l _ hH
 exact ⟨z, its, n, r, r.length, e⟩
theorem ZcX {n : Nat} (h : n <= sizeLine) : Builtin.List.listTooLong n = false := by
 unfold Builtin.List.listTooLong
 exact decide_eq_false (by omega)
end
section
variable {X : Cx}
def rAppend : V -> List V -> Hp -> VK -> Prop := fun x vs H Q => ∃ l xs y, x = .ref l /\ vs = [y] /\ H l = some (.lst xs) /\ xs.length < sizeLine /\ Q .non (upd H l (.lst (xs ++ [y])))
theorem X4 : MtM X "list.append" rAppend := by
 intro pins s σ H x vs v us Q I rx rv h
 obtain ⟨l, xs, y, rfl, rfl, hH, hz, q⟩ := h
 cases rx
 obtain ⟨u, rfl, ru⟩ := rv.one
 obtain ⟨z, its, n, r, hl, e⟩ := I.lstM hH
 refine call_meets F.slot_list_append ⟨_, e, rfl⟩ F.entry_list_append (F.args_list_append_2 _ _) (PySem.list_append l its.toArray n u (by rw [List.size_toArray]; omega)) ⟨e, ?_⟩
 refine ⟨.non, _, I.lset (its' := its ++ [u]) hH e (by simp) (r.append (.cons ru .nil)) ?_, rfl, q⟩
 rw [List.length_append, List.length_singleton]
 omega
def rPop : V -> List V -> Hp -> VK -> Prop := fun x vs H Q => ∃ l xs y, x = .ref l /\ vs = [] /\ H l = some (.lst xs) /\ xs[xs.length - 1]? = some y /\ Q y (upd H l (.lst xs.dropLast))
theorem ZfM : MtM X "list.pop" rPop := by
 intro pins s σ H x vs v us Q I rx rv h
 obtain ⟨l, xs, y, rfl, rfl, hH, hy, q⟩ := h
 cases rx
 have hus := rv.zero
 subst hus
 obtain ⟨z, its, n, r, hl, e⟩ := I.lstM hH
 obtain ⟨u, hu, ru⟩ := r.get hy
 have hy' : its.toArray[its.toArray.size - 1]? = some u := by
  show its.toArray[its.length - 1]? = some u
  rw [<- Array.getElem?_toList, <- hl]
  exact hu
 refine call_meets F.slot_list_pop ⟨_, e, rfl⟩ F.entry_list_pop (F.args_list_pop_1 _) (MeetsSeq.list_pop_last l its.toArray n u hy' (by rw [List.size_toArray]; omega)) ⟨e, ?_⟩
 refine ⟨y, _, I.lset (its' := its.dropLast) hH e ?_ r.dropLast ?_, ru, q⟩
 · show its.toArray.eraseIdxIfInBounds (its.toArray.size - 1) = its.dropLast.toArray
   rw [List.size_toArray, List.eraseIdxIfInBounds_toArray, Zbx]
 · rw [List.length_dropLast]
   omega
def ZhA : R2 := fun x y H Q => ∃ l b xs zs, x = .ref l /\ y = .ref b /\ H l = some (.lst xs) /\ H b = some (.lst zs) /\ xs.length + zs.length <= sizeLine /\ ∀ p, H p = none -> Q (.ref p) (upd H p (.lst (xs ++ zs)))
theorem Zd2 {α : Type} (xs : List α) (k : Nat) : (List.replicate k xs).flatten.length = k * xs.length := by
 induction k with
 | zero => simp
 | succ k ih => rw [List.replicate_succ, List.flatten_cons, List.length_append, ih, Nat.succ_mul, Nat.add_comm]
end
section
variable {prog : Program} {w : World} {A : Around} {E : Value -> Shared -> Prop} {s : Shared}
set_option maxRecDepth 100000 in
end
section
variable {X : Cx}
end
end L2
namespace Att
open PySem PySem.W PySem.Calls PyProof.Rows
theorem Zag {P : Params} {h : Heap} : ∀ (ns : List Int) (vs : List Value), WellAll P h vs (ns.map WData.int) -> IntsAre vs ns := by
 intro ns
 induction ns with
 | nil =>
  intro vs w
  rw [List.map_nil] at w
  cases w
  exact .nil
 | cons n ns ih =>
  intro vs w
  rw [List.map_cons] at w
  cases w with
  | cons a b =>
   cases a
   exact .cons _ _ (ih _ b)
theorem Zcu {l : OpenLaw} {n : Nat} (hn : l.most = some n) {P : Params} {h : Heap} {args : List WData} {vals : List Value}
 (hpre : l.row.toRowW.claim.pre args = true) (hwl : WellAll P h vals args) :
 ∃ a vs ns, vals = [Value.ref a] /\ args = [WData.list (ns.map WData.int)] /\ h.get? a = some { cls := .type "list", data := .seq vs.toArray } /\ IntsAre vs ns /\ ns.length <= n := by
 have hsh : WShape.hasAll [] args [.list .int] = true := (pre_splitW hpre).1
 have hc : l.pre.holds [] { args := args } = true := (pre_splitW hpre).2
 obtain ⟨d, r, rfl, h1, h2⟩ := hasAllW_cons hsh
 obtain rfl := hasAllW_nil h2
 obtain ⟨xs, rfl, h3⟩ := hasW_list h1
 obtain ⟨ns, rfl⟩ := items_int h3
 have hlen : ns.length <= n := by
  unfold OpenLaw.pre at hc
  have h4 : (WTm.not (.lt (.lit (.int (n : Int))) (.len (.arg 0)))).holds [] { args := [.list (ns.map .int)] } = true := by
   have h4 := (holds_andW hc).1
   rw [hn] at h4
   exact h4
  have h5 := condW_of h4 (w_not (w_lt w_lit (w_len_list (w_arg rfl))))
  rw [List.length_map] at h5
  refine Nat.le_of_not_lt fun q => ?_
  have q' : (n : Int) < ((ns.length : Nat) : Int) := by omega
  first
   | (rw [decide_eq_true q'] at h5; exact absurd h5 (by decide))
   | (simp at h5; omega)
 cases hwl with
 | cons w1 w2 =>
  cases w2
  cases w1 with
  | list ho hall => exact ⟨_, _, ns, rfl, rfl, ho, Zag ns _ hall, hlen⟩
theorem Zcv (l : OpenLaw) (args : List WData) : l.row.toRowW.claim.post args (.bool true) args = true :=
 postW_of (r := l.row.toRowW) (X := (true == true))
  (show WShape.has [] (.bool true) .bool = true by first | rfl | decide | simp [WShape.has, WShape.arms, WShape.armsAll])
  (show (WTm.eq .res (.lit (.bool true))).value [] { args := args, res := some (.bool true), after := args } = some (.bool (true == true)) from w_eq_bool (w_res rfl) w_lit) rfl
theorem attach_call {l : OpenLaw} {n : Nat} {q : Program} {loose : List Str} {XP : (Str -> Option Value) -> Heap -> Prop} {YP : World -> Heap -> Prop} {d : DefRec}
 (hn : l.most = some n) (hdf : d.params.defaults = [])
 (call : ∀ (w : World) (s₀ s₁ : Shared) (mg mb : Str -> Option Value) (fa : Addr) (o : Obj) (pm cd doc : Value) (a : Addr) (vs : List Value) (ns : List Int),
   Ground q loose [] XP w s₀ mg mb s₁.heap -> YP w s₁.heap ->
   s₁.heap.get? fa = some o -> o.data = .func (docDef d.name d.params d.body d.scope pm cd doc) -> s₁.heap.CodeRec cd d.name -> mg d.name = some (.ref fa) ->
   s₁.heap.get? a = some { cls := .type "list", data := .seq vs.toArray } -> IntsAre vs ns -> ns.length <= n -> s₁.gens = #[] ->
   codeAny (model l.prog w) callerA (.call (.ref fa) ⟨[.ref a], []⟩) (fun r s' => r = .ok (.ret (.bool true)) /\ OldK s₁.heap s'.heap /\ s'.os = s₁.os /\ AllBare s'.gens) s₁) :
 WalkO q loose XP YP l.row.toRowW d [] (fun f vs => PySem.call f vs) := by
 intro w s₀ s₁ mg mb G Y fa o pm cd doc dV kV ho hd hcd hD hmg hg args vals as hpre hlay hrd hwl hlo
 obtain rfl : dV = .none := Dflts.none hD hdf
 obtain rfl : kV = .none := Dflts.noKw hD
 obtain ⟨a, vs, ns, rfl, rfl, hobj, hints, hlen⟩ := Zcu hn hpre hwl
 refine enter_call (codeAny_mono (call w s₀ s₁ mg mb fa o pm cd doc a vs ns G Y ho (fd_plain hd) hcd hmg hobj hints hlen hg) fun r s' hq => ?_)
 obtain ⟨rfl, h2, h3, h4⟩ := hq
 exact ⟨.inl ⟨.bool true, .bool true, [], rfl, fun _ => rfl, .bool true, Zcv l _, fun _ => ⟨List.Pairwise.nil, fun _ hm => (nomatch hm)⟩⟩, h2, h3, h4⟩
section
variable {prog : Program} {w : World} {A : Around} {E : Value -> Shared -> Prop} {s : Shared} {K : Frag}
end
end Att
namespace L2
open PySem PySem.Spec PyProof.Rows
theorem Zaw : ∀ {vs : List Value} {ns : List Int}, IntsAre vs ns -> Vals (ns.map V.int) vs
 | _, _, .nil => .nil
 | _, _, .cons n t h => .cons ⟨t, rfl⟩ (Zaw h)
def QI (H : Hp) : Prop := ∀ b, H b = none \/ ∃ o xs, H b = some (.frz o (.lst xs))
theorem ZcY {P : Program} {w : World} {K : PySem.W.Frag} {mg mb : Str -> Option Value} {CX : CXT} {k : Nat} {fa a : Addr} {fd : FuncData} {x : Str} {sp : Sp} {s₁ : Shared} {vs : List Value} {ns : List Int}
 (KX : K.In s₁.heap) (hns : s₁.heap.Ns mainGlobals mg) (hb : s₁.heap.Ns builtinsNs mb) (hbb : ∀ x : Str, x ≠ "__name__" -> mb x = bootBuiltins x) (hlim : s₁.heap.NoLimit) (hg : s₁.gens = #[])
 (ha : s₁.heap.get? a = some { cls := .type "list", data := .seq vs.toArray }) (hi : IntsAre vs ns) (hl : ns.length <= sizeLine) (hr : Room k callerA)
 (F : ∀ base : Heap, K.In base -> base.Ns mainGlobals mg -> FnOk P w K mg base CX k fa fd [x] sp) (hbind : ∀ (s : Shared) (u : Value), BindsTo s fd ⟨[u], []⟩ [(x, u)])
 (hsp : ∀ H : Hp, QI H -> SqL K H a (ns.map V.int) -> sp [.ref a] H (fun v _ => v = .bl true) fun _ _ _ => False)
 (hCX : ∀ H e s', CX [] H s₁ (fun _ _ _ => False) e s' -> False) :
 codeAny (model P w) callerA (.call (.ref fa) ⟨[.ref a], []⟩) (fun r s' => r = .ok (.ret (.bool true)) /\ OldK s₁.heap s'.heap /\ s'.os = s₁.os /\ AllBare s'.gens) s₁ := by
 have rv := Zaw hi
 have lenV := hi.length
 have core : ∀ H : Hp, QI H -> SqL K H a (ns.map V.int) -> HOk P w H s₁.heap -> (∀ b, H b ≠ none -> b = a) -> (H a ≠ none -> K.lookup a = none) ->
  codeAny (model P w) callerA (.call (.ref fa) ⟨[.ref a], []⟩) (fun r s' => r = .ok (.ret (.bool true)) /\ OldK s₁.heap s'.heap /\ s'.os = s₁.os /\ AllBare s'.gens) s₁ := by
  intro H hO hS hok hA hK
  have base_of : ∀ {b : Addr} {o : Obj}, s₁.heap.get? b = some o -> H b = none -> (Xf s₁.heap H).get? b = some o := fun e n => ZcT e n
  have noA : ∀ {b : Addr} {o : Obj} {es : Array DictEntry} {ep : Nat}, s₁.heap.get? b = some o -> o.data = .dict es ep -> H b = none := fun {b o es ep} e d => by
   cases q : H b with
   | none => rfl
   | some u =>
    have e' : b = a := hA b (by rw [q]; simp)
    subst e'
    rw [ha] at e; cases e
    have d' : Data.seq vs.toArray _ = Data.dict es ep := d
    cases d'
  have nsK : ∀ {b : Addr} {m : Str -> Option Value}, s₁.heap.Ns b m -> (Xf s₁.heap H).Ns b m := fun {b m} ⟨o, es, ep, e, d, r⟩ => ⟨o, es, ep, base_of e (noA e d), d, r⟩
  have hKb : K.In (Xf s₁.heap H) := fun b o e => base_of (KX b o e) (by
   cases q : H b with
   | none => rfl
   | some u =>
    have e' : b = a := hA b (by rw [q]; simp)
    subst e'
    rw [hK (by rw [q]; simp)] at e; cases e)
  have hM : Mod K mg (Xf s₁.heap H) := ⟨hKb, nsK hns, ⟨mb, nsK hb, hbb⟩, let ⟨mc, h1, h2⟩ := hlim; ⟨mc, nsK h1, h2⟩⟩
  have e0 : Env0 P w K mg (Xf s₁.heap H) callerA [] s₁ H := ⟨rfl, hM, fun b o e => ZdW e, Nat.le_of_eq (Zcm _ _), trivial, fun b hb => absurd (show b ∈ ([] : List Addr) from hb) (by simp), hok, .of_eq hg⟩
  refine codeAny_mono ((F _ hKb (nsK hns)).run callerA [] s₁ H ⟨[.ref a], []⟩ [.ref a] [.ref a] _ _ hr e0 (hbind s₁ (.ref a)) (.cons rfl .nil) (hsp H hO hS)) fun r s' h => ?_
  cases r with
  | error e => exact (hCX H e s' h).elim
  | ok fl =>
   cases fl with
   | next => exact False.elim h
   | brk => exact False.elim h
   | cont => exact False.elim h
   | ret u =>
    obtain ⟨v, H', os, bare, un, hok', r', q⟩ := h
    have q' : v = .bl true := q
    subst q'
    obtain rfl : u = Value.bool true := r'
    refine ⟨rfl, OldK.of_keep fun b o e => ?_, os, bare⟩
    cases q : H b with
    | none => exact un.keep b o e q (by intro z; exact absurd (show b ∈ ([] : List Addr) from z) (by simp)) (by simp)
    | some u =>
     rcases hO b with z | ⟨ob, xs, z⟩
     · rw [q] at z; cases z
     · have z2 := un.frzs b ob _ z
       obtain ⟨e1, _⟩ := hok b _ z
       obtain ⟨e2, _⟩ := hok' b _ z2
       rw [e] at e1; cases e1
       exact e2
 cases hk : K.lookup a with
 | some o =>
  have e := KX a o hk
  rw [ha] at e
  cases e
  refine core (fun _ => none) (fun _ => .inl rfl) (.inr ⟨_, vs.toArray, _, hk, rfl, rfl, rfl, by rw [List.size_toArray, lenV]; exact hl, by simpa using rv⟩) (fun b u z => by have z' : (none : Option HO) = some u := z; cases z') (fun b z => absurd rfl z) fun z => absurd rfl z
 | none =>
  refine core (fun b => if b = a then some (.frz { cls := .type "list", data := .seq vs.toArray } (.lst (ns.map V.int))) else none) (fun b => ?_) (.inl (.inr ⟨{ cls := .type "list", data := .seq vs.toArray }, if_pos rfl⟩)) (fun b u z => ?_) (fun b z => ?_) fun _ => hk
  · by_cases hb : b = a
    · exact .inr ⟨_, _, if_pos hb⟩
    · exact .inl (if_neg hb)
  · by_cases hb : b = a
    · have z' := (if_pos hb).symm.trans z
      cases z'
      subst hb
      exact ⟨ha, by rw [List.length_map]; exact hl, vs, _, rv, ha⟩
    · have z' := (if_neg hb).symm.trans z
      cases z'
  · by_cases hb : b = a
    · exact hb
    · exact absurd (if_neg hb) z
end L2
namespace L2
open PySem PySem.Spec PyProof.Rows
theorem walk_of {l : PySem.W.OpenLaw} {n k : Nat} {q : Program} {loose : List Str} {XP : (Str -> Option Value) -> Heap -> Prop} {YP : World -> Heap -> Prop} {d : DefRec} {K : Params -> PySem.W.Frag} {CX : World -> CXT} {sp : World -> Sp} {x : Str}
 (hn : l.most = some n) (hn2 : n <= sizeLine) (hdf : d.params.defaults = []) (hr : Room k callerA)
 (hY : ∀ (w : World) (h : Heap), YP w h -> (K w.params).In h)
 (F : ∀ (w : World) (mg : Str -> Option Value) (fa : Addr) (h : Heap), (K w.params).In h -> h.Ns mainGlobals mg -> mg d.name = some (.ref fa) ->
   ∃ fd : FuncData, (∀ (s : Shared) (u : Value), BindsTo s fd ⟨[u], []⟩ [(x, u)]) /\
    ∀ base : Heap, (K w.params).In base -> base.Ns mainGlobals mg -> FnOk l.prog w (K w.params) mg base (CX w) k fa fd [x] (sp w))
 (hsp : ∀ (w : World) (H : Hp) (a : Addr) (ns : List Int), ns.length <= n -> QI H -> SqL (K w.params) H a (ns.map V.int) -> sp w [.ref a] H (fun v _ => v = .bl true) fun _ _ _ => False)
 (hCX : ∀ (w : World) (H : Hp) (s : Shared) (e : Value) (s' : Shared), CX w [] H s (fun _ _ _ => False) e s' -> False) :
 PySem.W.WalkO q loose XP YP l.row.toRowW d [] (fun f vs => PySem.call f vs) := by
 refine Att.attach_call hn hdf fun w s₀ s₁ mg mb fa o pm cd doc a vs ns G Y ho hd hcd hmg hobj hints hlen hg => ?_
 have KX := hY w _ Y
 obtain ⟨fd, hb, hF⟩ := F w mg fa _ KX G.T.g hmg
 exact ZcY KX G.T.g G.T.b G.T.builtins G.T.nolimit hg hobj hints (Nat.le_trans hlen hn2) hr hF hb (fun H hO hS => hsp w H a ns hlen hO hS) fun H e s' => hCX w H s₁ e s'
end L2
namespace L2
open PySem PySem.Spec PyProof.Rows
def Z1 (s : Stmt) : Arguments := match s with
 | .FunctionDef _ a _ _ _ _ _ _ _ _ => a
 | _ => { posonlyargs := [], args := [], vararg := none, kwonlyargs := [], kw_defaults := [], kwarg := none, defaults := [] }
def ZJ (s : Stmt) : List Stmt := match s with
 | .FunctionDef _ _ b _ _ _ _ _ _ _ => b
 | _ => []
def Zo (s : Stmt) : Scope := match s with
 | .FunctionDef _ _ _ _ _ _ sc _ _ _ => sc
 | _ => { kind := .function, names := [], isGenerator := false, isCoroutine := false }
abbrev CX0 : CXT := fun _ _ _ _ _ _ => False
abbrev E0 : XK := fun _ _ _ => False
theorem Z2 {X : Cx} : QE CX0 X E0 := fun _ _ _ _ _ _ _ h => h.elim
structure Fun (K : PySem.W.Frag) (x qual : Str) (st : Stmt) (f : Addr) (fd : FuncData) : Prop where
 ex : ∃ (oc : Value) (od : Option Addr) (kV doc pm : Value) (an : Option Addr) (cdv ct : Value) (osl : Array (Option Value)),
  fd = PySem.W.fnOf x qual (Z1 st) (ZJ st) (Zo st) .none kV doc pm an cdv ct /\ K.lookup f = some ⟨oc, od, .func fd, osl⟩ /\ PySem.W.codeIn K cdv qual = true
 kp : PySem.W.keepIn K (.ref f) = true
section
variable {P : Program} {w : World} {K : PySem.W.Frag} {mg : Str -> Option Value} {base : Heap}
theorem Fun.ok {x qual : Str} {st : Stmt} {f : Addr} {fd : FuncData} {N ps : List Str} {k : Nat} {sp : Sp} (F : Fun K x qual st f fd) (S : FnScope N ps (Zo st)) (len : ∀ vs H Q E, sp vs H Q E -> vs.length = ps.length)
 (hbody : ∀ (cdv : Value) (A : Around) (outer : List Env) (s : Shared) (H : Hp) (vs : List V) (Q : VK) (E : XK), Room k (A.deeper (envOfC qual (Zo st) s.heap.objs.size f cdv)) -> sp vs H Q E ->
   ∃ t, PSs (YR CX0 P w K mg base N qual (Zo st) f cdv A outer s H E).nox (ZJ st) t /\ t { nx := fun _ H' => Q .non H', rt := Q } (start N vs) H) : FnOk P w K mg base CX0 (k + 1) f fd ps sp := by
 obtain ⟨oc, od, kV, doc, pm, an, cdv, ct, osl, rfl, lk, hcd⟩ := F.ex
 refine Ze0 lk hcd S len fun A outer s H vs Q E hr hsp => ?_
 obtain ⟨t, h, q⟩ := hbody cdv A outer s H vs Q E hr hsp
 exact ⟨t, h.nox, q⟩
theorem Fun.binds {x qual : Str} {st : Stmt} {f : Addr} {fd : FuncData} {ps : List Str} (F : Fun K x qual st f fd)
 (h : ∀ (kV doc pm : Value) (an : Option Addr) (cdv ct : Value) (us : List Value), us.length = ps.length -> bindArgs (PySem.W.fnOf x qual (Z1 st) (ZJ st) (Zo st) .none kV doc pm an cdv ct) ⟨us, []⟩ = pure (ps.zip us)) : Binds K fd ps [] := by
 obtain ⟨oc, od, kV, doc, pm, an, cdv, ct, osl, rfl, lk, hcd⟩ := F.ex
 exact .all (h kV doc pm an cdv ct)
theorem ZD {x qual : Str} {st : Stmt} {f : Addr} {oc : Value} {od an : Option Addr} {osl : Array (Option Value)} {kV doc pm cdv ct : Value} (l : K.lookup f = some ⟨oc, od, .func (PySem.W.fnOf x qual (Z1 st) (ZJ st) (Zo st) .none kV doc pm an cdv ct), osl⟩)
 (c : PySem.W.codeIn K cdv qual = true) (k : PySem.W.keepIn K (.ref f) = true) : Fun K x qual st f (PySem.W.fnOf x qual (Z1 st) (ZJ st) (Zo st) .none kV doc pm an cdv ct) := ⟨⟨oc, od, kV, doc, pm, an, cdv, ct, osl, rfl, l, c⟩, k⟩
end
section
variable {X : Cx}
theorem pv (i : Nat) {x : Str} {pos : Pos} (hN : X.N[i]? = some x := by rfl) (hv : Vis X.env.scope x := by first | exact Or.inl rfl | exact Or.inr (Or.inl rfl) | exact Or.inr (Or.inr rfl)) (hd : (x == ("__debug__" : Str)) = false := by decide)
 (hcd : (x == ("__classdict__" : Str)) = false := by decide) : PE X (.Name x pos) (Ym i) := ZfA hN hv hd hcd
end
theorem Xv {A B : Prop} (h : B) : if false = true then A else B := by
 rw [if_neg Bool.false_ne_true]
 exact h
theorem Xw {A B : Prop} (h : A) : if true = true then A else B := by
 rw [if_pos rfl]
 exact h
def Same (H H' : Hp) : Prop := ∀ b o, H b = some o -> H' b = some o
theorem Same.refl (H : Hp) : Same H H := fun _ _ h => h
theorem Same.trans {H H1 H2 : Hp} (a : Same H H1) (b : Same H1 H2) : Same H H2 := fun c o h => b c o (a c o h)
theorem Same.free {H H' : Hp} (e : Same H H') {l : Addr} (h : H' l = Option.none) : H l = Option.none := by
 cases q : H l with
 | none => rfl
 | some o =>
  rw [e l o q] at h
  cases h
theorem Same.seq {K : PySem.W.Frag} {H H' : Hp} {a : Addr} {xs : List V} (e : Same H H') (h : SqL K H a xs) : SqL K H' a xs := by
 rcases h with (h | ⟨o, h⟩) | h
 · exact .inl (.inl (e _ _ h))
 · exact .inl (.inr ⟨o, e _ _ h⟩)
 · exact .inr h
end L2
namespace L2
open PySem Builtin Builtin.Str
abbrev tx (cs : List Nat) : Str := ⟨cs.toArray⟩
theorem tx_inj {a b : List Nat} : tx a = tx b ↔ a = b := by
 constructor
 · intro h
   have h2 : a.toArray = b.toArray := congrArg Str.cps h
   simpa using h2
 · rintro rfl; rfl
theorem Vn (cs : List Nat) : (tx cs).cps.toList = cs := by simp [tx]
theorem YZ (cs : List Nat) : (tx cs).length = cs.length := by simp [tx, Str.length]
theorem ZfN (a b : List Nat) : tx a ++ tx b = tx (a ++ b) := by
 show Str.mk (a.toArray ++ b.toArray) = Str.mk (a ++ b).toArray
 simp
def V5 (n d : Nat) : Option Int -> Nat
 | none => d
 | some v => if v < 0 then (v + (n : Int)).toNat else min v.toNat n
def cutL {α : Type} (xs : List α) (lo hi : Option Int) : List α := (xs.drop (V5 xs.length 0 lo)).take (V5 xs.length xs.length hi - V5 xs.length 0 lo)
end L2
namespace L2
open PySem Builtin Builtin.Str
def UO (c : Nat) : Bool := decide (48 <= c) && decide (c <= 57)
def QJ (cs : List Nat) : Nat := cs.foldl (fun acc c => acc * 10 + (c - 48)) 0
end L2
namespace L2
open PySem PySem.Spec PyProof.Rows
section
variable {prog : Program} {w : World} {A : Around} {R : Result -> Shared -> Prop} {s : Shared}
theorem Zac {elt target iter : Expr} {ifs : List Expr} {scope : Scope} {pos : Pos} {it acc : Value} {env : Env} (I : Nat -> Shared -> Prop)
 (turn : ∀ n s, I n s -> wpAny (model prog w) A (pyNext it) (fun r s₁ => match r with
   | none => R (.ok .next) s₁
   | some v => wpAny (model prog w) A (letOwnedTupleGo target it v) (fun _ s₀ => wpAny (model prog w) A (assign target env v) (fun _ s₂ =>
    wpAny (model prog w) A (forIn ifs true fun c r => if r = true then do let ok <- isTrue c env (eval c env); pure (ForInStep.yield ok) else pure (ForInStep.yield r)) (fun ok s₃ =>
     if ok = true then wpAny (model prog w) A (eval elt env) (fun x s₄ =>
      wpAny (model prog w) A (call (.builtin "list.append") [acc, x]) (fun _ s₅ => ∃ m, m < n /\ I m s₅) (notedBy (model prog w) A env fun e s' => R (.error e) s') s₄) (notedBy (model prog w) A env fun e s' => R (.error e) s') s₃
     else ∃ m, m < n /\ I m s₃) (notedBy (model prog w) A env fun e s' => R (.error e) s') s₂) (notedBy (model prog w) A env fun e s' => R (.error e) s') s₀) (notedBy (model prog w) A env fun e s' => R (.error e) s') s₁) (notedBy (model prog w) A env fun e s' => R (.error e) s') s)
 (n : Nat) (h : I n s) :
 codeAny (model prog w) A (.compLoop (.ListComp elt [⟨target, iter, ifs, 0⟩] scope pos) 0 it acc env) R s := by
 refine codeAny_loop rfl I (fun n s hI => ?_) n h
 show wpAny _ A ((compTurn (.ListComp elt [⟨target, iter, ifs, 0⟩] scope pos) 0 it acc env).onRaise (fun x => do noteFrame x env; theTreesLotGoes x)) _ _ s
 refine wpAny_noted ?_
 rw [compTurn_list]
 refine wpAny_bind (wpAny_standAt (wpAny_bind (wpAny_mono (turn n s hI) (fun r s₁ h₁ => ?_) fun _ _ h' => h')))
 cases r with
 | none => exact wpAny_pure h₁
 | some v =>
  refine wpAny_bind (wpAny_mono h₁ (fun _ s₀ h₀ => ?_) fun _ _ h' => h')
  refine wpAny_bind (wpAny_mono h₀ (fun _ s₂ h₂ => wpAny_bind (wpAny_mono h₂ (fun ok s₃ h₃ => ?_) fun _ _ h' => h')) fun _ _ h' => h')
  cases ok with
  | false => exact wpAny_pure ⟨rfl, h₃⟩
  | true =>
   exact wpAny_bind (wpAny_bind (wpAny_mono h₃ (fun x s₄ h₄ => wpAny_bind (wpAny_mono h₄ (fun _ s₅ h₅ => wpAny_pure (wpAny_pure ⟨rfl, h₅⟩)) fun _ _ h' => h')) fun _ _ h' => h'))
end
def Z3 (cells : List (Str × Addr)) : List (Str × NameKind) -> List (Str × Addr) -> List (Str × Addr)
 | [], acc => acc
 | (n, k) :: r, acc => Z3 cells r (if (k == .free) = true then (n, (cells.lookup n).getD 0) :: acc else acc)
theorem QK {env : Env} : ∀ (names : List (Str × NameKind)) (acc : List (Str × Addr)), (∀ x ∈ names, x.2 = .free -> ∃ c, env.cells.lookup x.1 = some c) ->
 (forIn names acc fun (x : Str × NameKind) (r : List (Str × Addr)) => match x with
   | (name, kind) => if (kind == .free) = true then (do let c <- cellOf env name; pure (ForInStep.yield ((name, c) :: r))) else pure (ForInStep.yield r)) = (pure (Z3 env.cells names acc) : Sem _)
 | [], acc, _ => rfl
 | (n, k) :: r, acc, h => by
  rw [List.forIn_cons]
  show ((if (k == .free) = true then (do let c <- cellOf env n; pure (ForInStep.yield ((n, c) :: acc))) else pure (ForInStep.yield acc)) >>= _) = _
  by_cases hk : (k == .free) = true
  · obtain ⟨c, hc⟩ := h (n, k) List.mem_cons_self (by simpa using hk)
    have e : cellOf env n = pure c := by
     unfold cellOf
     rw [hc]
    rw [if_pos hk, e]
    show (forIn r ((n, c) :: acc) _ : Sem _) = _
    rw [QK r _ fun x hx => h x (List.mem_cons_of_mem _ hx)]
    conv => rhs; unfold Z3
    rw [if_pos hk, hc]
    rfl
  · rw [if_neg hk]
    show (forIn r acc _ : Sem _) = _
    rw [QK r _ fun x hx => h x (List.mem_cons_of_mem _ hx)]
    conv => rhs; unfold Z3
    rw [if_neg hk]
theorem QL {scope : Scope} {env : Env} (h : ∀ x ∈ scope.names, x.2 = .free -> ∃ c, env.cells.lookup x.1 = some c) : closureFor scope env = pure (Z3 env.cells scope.names []) := by
 have e := QK (env := env) scope.names [] h
 unfold closureFor
 show ((forIn scope.names ([] : List (Str × Addr)) _ : Sem _) >>= fun cs => pure cs) = _
 have e2 : (forIn scope.names ([] : List (Str × Addr)) fun (x : Str × NameKind) (r : List (Str × Addr)) => match x with
  | (name, kind) => if (kind == .free) = true then (do let c <- cellOf env name; pure (ForInStep.yield ((name, c) :: r))) else pure (ForInStep.yield r)) = (pure (Z3 env.cells scope.names []) : Sem _) := e
 rw [e2]
 rfl
theorem Yy {cells : List (Str × Addr)} {x : Str} {c : Addr} : ∀ (names : List (Str × NameKind)) (acc : List (Str × Addr)), (∀ y ∈ names, y.2 = .free -> ∃ c, cells.lookup y.1 = some c) ->
 (∀ c, acc.lookup x = some c -> cells.lookup x = some c) -> (Z3 cells names acc).lookup x = some c -> cells.lookup x = some c
 | [], acc, _, ha, h => ha c h
 | (n, k) :: r, acc, hf, ha, h => by
  unfold Z3 at h
  refine Yy r _ (fun y hy => hf y (List.mem_cons_of_mem _ hy)) (fun c' h' => ?_) h
  by_cases hk : (k == .free) = true
  · rw [if_pos hk] at h'
    obtain ⟨c0, hc0⟩ := hf (n, k) List.mem_cons_self (by simpa using hk)
    rw [List.lookup_cons] at h'
    cases hx : x == n with
    | true =>
     rw [hx] at h'
     have e : x = n := eq_of_beq hx
     subst e
     have h'' : (cells.lookup x).getD 0 = c' := Option.some.inj h'
     have hc0' : cells.lookup x = some c0 := hc0
     rw [hc0'] at h'' ⊢
     exact congrArg some h''
    | false =>
     rw [hx] at h'
     exact ha c' h'
  · rw [if_neg hk] at h'
    exact ha c' h'
theorem V6 {cells : List (Str × Addr)} {x : Str} : ∀ (names : List (Str × NameKind)) (acc : List (Str × Addr)), ((x, NameKind.free) ∈ names \/ ∃ c, acc.lookup x = some c) -> ∃ c, (Z3 cells names acc).lookup x = some c
 | [], acc, h => by
  rcases h with h | h
  · cases h
  · exact h
 | (n, k) :: r, acc, h => by
  unfold Z3
  refine V6 r _ ?_
  rcases h with h | ⟨c, h⟩
  · rcases List.mem_cons.mp h with e | e
    · cases e
      refine .inr ⟨(cells.lookup x).getD 0, ?_⟩
      rw [if_pos (by rfl), List.lookup_cons]
      simp
    · exact .inl e
  · refine .inr ?_
    by_cases hk : (k == .free) = true
    · rw [if_pos hk, List.lookup_cons]
      cases hx : x == n with
      | true => exact ⟨_, rfl⟩
      | false => exact ⟨c, h⟩
    · rw [if_neg hk]
      exact ⟨c, h⟩
structure CompSc (X : Cx) (scope : Scope) (tn cn : List Str) (js : List Nat) : Prop where
 kind : scope.kind = .function
 nocell : ∀ y ∈ scope.names, y.2 ≠ .cell
 names : ∀ y ∈ scope.names, y.2 = .local -> scope.names.lookup y.1 = some .local
 free : ∀ y ∈ scope.names, y.2 = .free -> X.env.kindOf y.1 = some .cell \/ X.env.kindOf y.1 = some .free
 cap : ∀ (k : Nat) (x : Str), cn[k]? = some x -> ∃ j, js[k]? = some j /\ X.N[j]? = some x /\ (X.env.kindOf x = some .cell \/ X.env.kindOf x = some .free) /\ scope.names.lookup x = some .free
 len : cn.length = js.length
def UP (onames : List (Str × NameKind)) (oN : List Str) (names : List (Str × NameKind)) (cn : List Str) (js : List Nat) : Bool :=
 names.all (fun y => !(y.2 == .cell)) && names.all (fun y => !(y.2 == .local) || (names.lookup y.1 == some .local)) &&
 names.all (fun y => !(y.2 == .free) || (onames.lookup y.1 == some .cell || onames.lookup y.1 == some .free)) &&
 ((cn.zip js).all fun p => oN[p.2]? == some p.1 && (onames.lookup p.1 == some .cell || onames.lookup p.1 == some .free) && names.lookup p.1 == some .free) && (cn.length == js.length)
theorem CompSc.mk' {X : Cx} {scope : Scope} {tn cn : List Str} {js : List Nat} {osc : Scope} {oN : List Str} (hk : scope.kind = .function) (ho : X.env.scope = osc) (hN : X.N = oN) (h : UP osc.names oN scope.names cn js = true) : CompSc X scope tn cn js := by
 unfold UP at h
 simp only [Bool.and_eq_true] at h
 obtain ⟨⟨⟨⟨h1, h2⟩, h3⟩, h4⟩, h5⟩ := h
 rw [List.all_eq_true] at h1 h2 h3 h4
 have hlen : cn.length = js.length := by simpa using h5
 refine ⟨hk, fun y hy => ?_, fun y hy e => ?_, fun y hy e => ?_, fun k x e => ?_, hlen⟩
 · have := h1 y hy
   simpa using this
 · have := h2 y hy
   simpa [e] using this
 · have := h3 y hy
   unfold Env.kindOf
   rw [ho]
   simpa [e] using this
 · have hkl : k < cn.length := (List.getElem?_eq_some_iff.mp e).1
   have hkj : k < js.length := by omega
   refine ⟨js[k], by simp [hkj], ?_⟩
   have hz : (x, js[k]) ∈ cn.zip js := by
    have e2 : (cn.zip js)[k]? = some (x, js[k]) := by
     rw [List.getElem?_zip_eq_some]
     exact ⟨e, by simp [hkj]⟩
    exact List.mem_of_getElem? e2
   have := h4 _ hz
   unfold Env.kindOf
   rw [ho, hN]
   simp only [Bool.and_eq_true, Bool.or_eq_true, beq_iff_eq] at this
   exact ⟨this.1.1, this.1.2, this.2⟩
def X5 (σ : St) (js : List Nat) : St := js.map fun j => (σ[j]?).getD none
def blk (n : Nat) (σ : St) (js : List Nat) : St := List.replicate n none ++ X5 σ js
def Vo (X : Cx) (scope : Scope) (N' : List Str) (C : Addr) (s₂ : Shared) (H₂ : Hp) (fp : List Addr) (xe : Value -> Shared -> Prop) : Cx :=
 { X with N := N', s₀ := s₂, H₀ := H₂, env := compEnvC scope (Z3 X.env.cells scope.names []) C X.env, outer := X.stack, ex := fp, fn := fun _ => false, pn := [], xe := xe }
section
variable {X : Cx} {pins : List (Addr × Obj)} {σ : St} {H₂ : Hp} {s₂ : Shared} {scope : Scope} {tn cn : List Str} {js : List Nat}
theorem CompSc.clos (S : CompSc X scope tn cn js) (ok : X.Ok) : ∀ y ∈ scope.names, y.2 = .free -> ∃ c, X.env.cells.lookup y.1 = some c := fun y hy e => ok.has y.1 (S.free y hy e)
theorem QM {env : Env} : ∀ {names : List (Str × NameKind)} {x : Str} {k : NameKind}, (names.map fun (n, k) => if (k == NameKind.free && env.scope.kind == .function && env.kindOf n == some .cell) then (n, NameKind.cell) else (n, k)).lookup x = some k ->
 (k = .cell \/ k = .free) -> (∀ y ∈ names, y.2 ≠ .cell) -> (x, NameKind.free) ∈ names
 | [], _, _, h, _, _ => by simp at h
 | (n, k0) :: r, x, k, h, hk, hc => by
  have ih := @QM env r x k
  have h : List.lookup x ((if (k0 == NameKind.free && env.scope.kind == .function && env.kindOf n == some .cell) = true then (n, NameKind.cell) else (n, k0)) :: _) = _ := h
  by_cases hb : (k0 == NameKind.free && env.scope.kind == .function && env.kindOf n == some .cell) = true
  · rw [if_pos hb, List.lookup_cons] at h
    have e0 : k0 = .free := by
     simp only [Bool.and_eq_true] at hb
     simpa using hb.1.1
    cases hx : x == n with
    | true =>
     have e : x = n := eq_of_beq hx
     subst e; subst e0
     exact List.mem_cons_self
    | false =>
     rw [hx] at h
     exact List.mem_cons_of_mem _ (ih h hk fun y hy => hc y (List.mem_cons_of_mem _ hy))
  · rw [if_neg hb, List.lookup_cons] at h
    cases hx : x == n with
    | true =>
     rw [hx] at h
     have e : x = n := eq_of_beq hx
     have e0 : k0 = k := Option.some.inj h
     subst e; subst e0
     rcases hk with hk | hk
     · exact absurd hk (hc (x, k0) List.mem_cons_self)
     · subst hk
       exact List.mem_cons_self
    | false =>
     rw [hx] at h
     exact List.mem_cons_of_mem _ (ih h hk fun y hy => hc y (List.mem_cons_of_mem _ hy))
theorem QN {env : Env} : ∀ {names : List (Str × NameKind)} {x : Str}, names.lookup x = some .free ->
 (names.map fun (n, k) => if (k == NameKind.free && env.scope.kind == .function && env.kindOf n == some .cell) then (n, NameKind.cell) else (n, k)).lookup x = some .cell \/
 (names.map fun (n, k) => if (k == NameKind.free && env.scope.kind == .function && env.kindOf n == some .cell) then (n, NameKind.cell) else (n, k)).lookup x = some .free
 | [], _, h => by simp at h
 | (n, k0) :: r, x, h => by
  have ih := @QN env r x
  show List.lookup x ((if (k0 == NameKind.free && env.scope.kind == .function && env.kindOf n == some .cell) = true then (n, NameKind.cell) else (n, k0)) :: _) = _ \/
   List.lookup x ((if (k0 == NameKind.free && env.scope.kind == .function && env.kindOf n == some .cell) = true then (n, NameKind.cell) else (n, k0)) :: _) = _
  cases hx : x == n with
  | true =>
   simp only [List.lookup_cons, hx] at h
   cases h
   by_cases hb : (NameKind.free == NameKind.free && env.scope.kind == .function && env.kindOf n == some .cell) = true
   · rw [if_pos hb]; simp [List.lookup_cons, hx]
   · rw [if_neg hb]; simp [List.lookup_cons, hx]
  | false =>
   simp only [List.lookup_cons, hx] at h
   by_cases hb : (k0 == NameKind.free && env.scope.kind == .function && env.kindOf n == some .cell) = true
   · rw [if_pos hb]; simp only [List.lookup_cons, hx]; exact ih h
   · rw [if_neg hb]; simp only [List.lookup_cons, hx]; exact ih h
theorem Zd3 {C : Addr} {fp : List Addr} {xe : Value -> Shared -> Prop} (S : CompSc X scope tn cn js) (I : Inv X pins σ H₂ s₂) (hC : s₂.heap.objs.size <= C) (hf : ∀ b ∈ fp, ZY X pins H₂ b) (ho : ∀ b ∈ fp, ∃ o, s₂.heap.get? b = some o /\ ∀ v, o.data ≠ .cell v) :
 (Vo X scope (tn ++ cn) C s₂ H₂ fp xe).Ok where
 mod := I.ok.mod
 kind := S.kind
 glob := I.ok.glob
 blt := I.ok.blt
 above := hC
 inj := fun x y c h1 h2 => I.ok.inj x y c (Yy _ [] (S.clos I.ok) (fun _ z => by cases z) h1) (Yy _ [] (S.clos I.ok) (fun _ z => by cases z) h2)
 has := fun x hx => by
  refine V6 _ _ (.inl ?_)
  rcases hx with hx | hx
  · exact QM (env := X.env) (k := .cell) hx (Or.inl (Eq.refl NameKind.cell)) S.nocell
  · exact QM (env := X.env) (k := .free) hx (Or.inr (Eq.refl NameKind.free)) S.nocell
 cab := fun x c h _ => by cases h
 hd := I.ok.hd
 frames := I.ok.frames
 stk := .inl rfl
 exf := fun b hb => by
  obtain ⟨o, e, _⟩ := ho b hb
  obtain ⟨_, _, _, _, f4, _⟩ := hf b hb
  exact ⟨Nat.ne_of_lt (Nat.lt_of_lt_of_le (Heap.lt_size e) hC), fun x c h => f4 x c (Yy _ [] (S.clos I.ok) (fun _ z => by cases z) h)⟩
 bs := I.bs
 bsz := Nat.le_trans I.ok.bsz I.sz
 noex := fun b o e hb => by
  obtain ⟨_, _, _, f3, _, _⟩ := hf b hb
  rcases f3 with z | z
  · exact I.ok.noex b o e z
  · exact absurd (Nat.lt_of_lt_of_le (Heap.lt_size (I.ok.bs b o e).1) z) (Nat.lt_irrefl _)
 exfs := fun b hb z => by
  obtain ⟨_, f1, f2, _, _, _⟩ := hf b hb
  exact (List.mem_cons.mp (I.stkSub b z)).elim f1 f2
 funs := I.stack
 frf := I.stkFree
theorem Zax {C : Addr} {fp : List Addr} {s : Shared} {H : Hp} {m : Str -> Option Value} (S : CompSc X scope tn cn js) (I : Inv X pins σ H₂ s₂) (hf : ∀ b ∈ fp, ZY X pins H₂ b)
 (u : Un (frs X.stack) fp H₂ H s₂.heap s.heap) :
 ∀ (i : Nat) (x : Str) (v : V), (tn ++ cn)[i]? = some x -> (blk tn.length σ js)[i]? = some (some v) -> ∃ z, RelV v z /\ Qs (compEnvC scope (Z3 X.env.cells scope.names []) C X.env) s.heap m x z := by
 intro i x v e1 e2
 unfold blk at e2
 by_cases hi : i < tn.length
 · rw [List.getElem?_append_left (by simpa using hi), List.getElem?_replicate, if_pos hi] at e2
   cases e2
 · have hi' : tn.length <= i := by omega
   rw [List.getElem?_append_right hi'] at e1
   rw [List.getElem?_append_right (by simpa using hi'), List.length_replicate] at e2
   obtain ⟨j, hj, hN, hk, hm⟩ := S.cap _ _ e1
   unfold X5 at e2
   rw [List.getElem?_map, hj] at e2
   have e3 : (σ[j]?).getD none = some v := Option.some.inj e2
   have e4 : σ[j]? = some (some v) := by
    cases q : σ[j]? with
    | none => rw [q] at e3; cases e3
    | some z => rw [q] at e3; exact congrArg some e3
   obtain ⟨m0, _, hl⟩ := I.loc
   have hv : Vis X.env.scope x := by
    rcases hk with hk | hk
    · exact .inr (.inl hk)
    · exact .inr (.inr hk)
   obtain ⟨z, rz, l⟩ := hl j x v hN e4 hv
   refine ⟨z, rz, ?_⟩
   obtain ⟨c, hc, ob, ho, hd⟩ : ∃ c, X.env.cells.lookup x = some c /\ s₂.heap.IsCell c (some z) := by
    rcases l with ⟨k, _⟩ | ⟨_, c, hc, q⟩
    · rcases hk with hk | hk
      · rw [hk] at k; cases k
      · rw [hk] at k; cases k
    · exact ⟨c, hc, q⟩
   obtain ⟨c', hc'⟩ := V6 (cells := X.env.cells) (x := x) scope.names [] (.inl (PySem.mem_of_lookup hm))
   have ec : c' = c := by
    have := Yy _ [] (S.clos I.ok) (fun _ z => by cases z) hc'
    rw [hc] at this
    exact (Option.some.inj this).symm
   subst ec
   have nf : c' ∉ fp := fun hb => (hf c' hb).2.2.2.2.1 x c' hc rfl
   obtain ⟨sl, q⟩ := u.any ho (I.freeC x c' hc) nf
   exact .inr ⟨QN hm, c', hc', ⟨_, q, hd⟩⟩
theorem ZbQ (S : CompSc X scope tn cn js) : (blk tn.length σ js).length = (tn ++ cn).length := by
 unfold blk X5
 rw [List.length_append, List.length_append, List.length_replicate, List.length_map, S.len]
theorem Zby {C : Addr} {fp : List Addr} {xe : Value -> Shared -> Prop} {s : Shared} {H : Hp} {σ' : St} {pins' : List (Addr × Obj)} (S : CompSc X scope tn cn js) (I : Inv X pins σ H₂ s₂) (hf : ∀ b ∈ fp, ZY X pins H₂ b)
 (I' : Inv (Vo X scope (tn ++ cn) C s₂ H₂ fp xe) pins' σ' H s) : Inv (Vo X scope (tn ++ cn) C s₂ H₂ fp xe) pins' (blk tn.length σ js) H s := by
 obtain ⟨m, hn, _⟩ := id I'.loc
 exact ⟨I'.ok, I'.os, I'.bare, I'.base, ⟨m, hn, fun i x v e1 e2 _ => Zax S I hf I'.base i x v e1 e2⟩, I'.cell, I'.free, I'.freeC, I'.pin, I'.hok, ZbQ S⟩
theorem Zbz {C D : Addr} {fp : List Addr} {xe : Value -> Shared -> Prop} {h : Heap} {tk : Nat} {ob : Obj} {m : Str -> Option Value} (S : CompSc X scope tn cn js) (I : Inv X pins σ H₂ s₂) (hC : s₂.heap.objs.size <= C) (hD : s₂.heap.objs.size <= D) (hDC : D ≠ C)
 (hf : ∀ b ∈ fp, ZY X pins H₂ b) (ho : ∀ b ∈ fp, ∃ o, s₂.heap.get? b = some o /\ ∀ v, o.data ≠ .cell v) (k : ∀ b o, s₂.heap.get? b = some o -> h.get? b = some o) (hn : h.Ns C m) (hob : h.get? D = some ob) (hcell : ∀ v, ob.data ≠ .cell v) :
 Inv (Vo X scope (tn ++ cn) C s₂ H₂ fp xe) [(D, ob)] (blk tn.length σ js) H₂ { s₂ with heap := h, toks := tk } := by
 have ok := Zd3 (xe := xe) S I hC hf ho
 have u : Un (frs X.stack) fp H₂ H₂ s₂.heap h := Un.kept k
 refine ⟨ok, rfl, I.bare, u, ⟨m, hn, fun i x v e1 e2 _ => Zax (s := { s₂ with heap := h, toks := tk }) S I hf u i x v e1 e2⟩, fun x c e => ?_, I.hok.fresh hC, fun x c e => ?_, fun p hp => ?_, I.hok.kept k, ZbQ S⟩
 · obtain ⟨v, o, q, d⟩ := I.cell x c (Yy _ [] (S.clos I.ok) (fun _ z => by cases z) e)
   exact ⟨v, o, k c o q, d⟩
 · exact I.freeC x c (Yy _ [] (S.clos I.ok) (fun _ z => by cases z) e)
 · have e : p = (D, ob) := by
    have : p ∈ ([] : List (Addr × Obj)) ++ [(D, ob)] := hp
    simpa using this
   subst e
   refine ⟨hob, I.hok.fresh hD, hDC, fun z => ?_, hcell⟩
   have z : D ∈ frs X.stack := z
   rcases List.mem_cons.mp (I.stkSub D z) with e | e
   · exact absurd (Nat.lt_of_lt_of_le I.lt (by rw [<- e]; exact hD)) (Nat.lt_irrefl _)
   · exact I.nofs hD e
theorem Za4 {C D : Addr} {fp : List Addr} {xe : Value -> Shared -> Prop} {s : Shared} {H : Hp} {σ' : St} {ys : List V} {its : List Value} {n : Nat} {h' : Heap} (S : CompSc X scope tn cn js) (I : Inv X pins σ H₂ s₂) (hC : s₂.heap.objs.size <= C) (hD : s₂.heap.objs.size <= D) (hDC : D ≠ C)
 (hf : ∀ b ∈ fp, ZY X pins H₂ b) (I' : Inv (Vo X scope (tn ++ cn) C s₂ H₂ fp xe) [(D, { cls := .type "list", data := .seq its.toArray n })] σ' H s) (hv : Vals ys its) (hz : ys.length <= sizeLine) (hs : Heap.SameBut C s.heap h') :
 Inv X pins σ (upd H D (.lst ys)) { s with heap := h' } := by
 have pd := I'.pin (D, { cls := .type "list", data := .seq its.toArray n }) (List.mem_append_right _ List.mem_cons_self)
 have pd1 : s.heap.get? D = some { cls := .type "list", data := .seq its.toArray n } := pd.1
 have pd2 : H D = none := pd.2.1
 have hD' : h'.get? D = some { cls := .type "list", data := .seq its.toArray n } := (hs.2 D hDC).trans pd1
 have hCf : H C = none := I'.free
 have old : ∀ b o, s₂.heap.get? b = some o -> b ≠ C /\ b ≠ D := fun b o e => ⟨Nat.ne_of_lt (Nat.lt_of_lt_of_le (Heap.lt_size e) hC), Nat.ne_of_lt (Nat.lt_of_lt_of_le (Heap.lt_size e) hD)⟩
 have u := I'.base
 have u : Un (frs X.stack) fp H₂ H s₂.heap s.heap := u
 refine I.call' (s' := { s with heap := h' }) (ch := fp) (H' := upd H D (.lst ys)) I'.os ⟨fun b o e n hb hx => ?_, fun b o e n hb hx => ?_, fun b o e n hx => ?_, fun b o e hx => ?_, fun b xs e => ?_, fun b o xs e => ?_, fun b ps e => ?_⟩ (fun b o e => ?_) I'.bare (fun b hb => ?_)
 · exact (hs.2 b (old b o e).1).trans (u.keep b o e n hb hx)
 · obtain ⟨sl, q⟩ := u.slot b o e n hb hx
   exact ⟨sl, (hs.2 b (old b o e).1).trans q⟩
 · rw [Zj (old b o e).2]
   exact u.free b o e n hx
 · obtain ⟨o', q⟩ := u.there b o e hx
   exact ⟨o', (hs.2 b (old b o e).1).trans q⟩
 · have q := u.tups b xs e
   rw [Zj (ZR q pd2)]
   exact q
 · have q := u.frzs b o xs e
   rw [Zj (ZR q pd2)]
   exact q
 · obtain ⟨more, q⟩ := u.tbls b ps e
   exact ⟨more, by rw [Zj (ZR q pd2)]; exact q⟩
 · by_cases hb : b = D
   · subst hb
     rw [ZB] at e
     cases e
     exact ⟨hz, its, n, hv, hD'⟩
   · rw [Zj hb] at e
     refine (I'.hok b o e).stay (fun c v hc q => (hs.2 c ?_).trans q) (fun c q => by rw [Zj (ZR q pd2)]; exact q) fun c xs q => by rw [Zj (ZR q pd2)]; exact q
     rintro rfl
     rcases hc with rfl | hc
     · rw [hCf] at e; cases e
     · rw [hCf] at hc; cases hc
 · obtain ⟨f0, f1, f2, f3, f4, f5⟩ := hf b hb
   exact ⟨f3, f1, f4, f5⟩
end
def PTs (X : Cx) (ifs : List Expr) (t : TT) : Prop :=
 ∀ (pins : List (Addr × Obj)) (s : Shared) (σ : St) (H : Hp) (Q : Bool -> Hp -> Prop), Inv X pins σ H s -> t σ H Q ->
  wpAny (model X.prog X.w) X.A (forIn ifs true fun c r => if r = true then do let ok <- isTrue c X.env (eval c X.env); pure (ForInStep.yield ok) else pure (ForInStep.yield r)) (TP X pins σ Q) X.xe s
def tYes : TT := fun _ H Q => Q true H
theorem V7 {X : Cx} : PTs X [] tYes := fun _ _ _ H _ I h => wpAny_tests_nil ⟨H, I, h⟩
theorem V8 {X : Cx} {c : Expr} {t : TT} (h : PT X c t) : PTs X [c] t := fun pins s σ H Q I q => wpAny_tests_one (h pins s σ H Q I q)
def V9 (wi : TI) (g : TG) (tt : TT) (te : TE) (n : Nat) (js : List Nat) : TE := fun σ H Q => wi σ H fun J H1 =>
 ∃ W : Nat -> Nat -> List V -> Hp -> Prop, (∃ m, W 0 m [] H1) /\ ∀ i m ys H, W i m ys H ->
  (J.stop i H /\ ∀ p, H p = none -> Q (.ref p) (upd H p (.lst ys))) \/
  (J.go i H /\ ∀ x H', J.yld i H x H' -> g x (blk n σ js) H' fun σ2 H2 => tt σ2 H2 fun b H3 =>
    if b = true then te σ2 H3 fun y H4 => ys.length < sizeLine /\ ∃ m', m' < m /\ W (i + 1) m' (ys ++ [y]) H4 else ∃ m', m' < m /\ W (i + 1) m' ys H3)
section
variable {X : Cx} {tg iter elt : Expr} {ifs : List Expr} {scope : Scope} {pos : Pos} {wi : TI} {g : TG} {tt : TT} {te : TE} {tn cn : List Str} {js : List Nat}
abbrev YE (X : Cx) (scope : Scope) (N' : List Str) (C : Addr) (s₂ : Shared) (H₂ : Hp) (fp : List Addr) : Cx := Vo X scope N' C s₂ H₂ fp fun _ _ => False
theorem YF {α : Type} {M : Model} {A : Around} {m : Sem α} {Q : α -> Shared -> Prop} {E : Value -> Shared -> Prop} {s : Shared} (h : wpAny M A m Q (fun _ _ => False) s) : wpAny M A m Q E s := wpAny_mono h (fun _ _ q => q) fun _ _ z => z.elim
theorem Zai {pins : List (Addr × Obj)} {σ : St} {H₂ : Hp} {s₂ : Shared} {it : Addr} {fp : List Addr} {tnx : Nat -> Heap -> Prop} {J : It} {E : Value -> Shared -> Prop} {RR : Value -> Addr -> Result -> Shared -> Prop} {W : Nat -> Nat -> List V -> Hp -> Prop} {m0 : Nat}
 (hc : X.calm = true) (S : CompSc X scope tn cn js)
 (hg : ∀ C s₂ H₂ fp, PG (YE X scope (tn ++ cn) C s₂ H₂ fp) tg g) (ht : ∀ C s₂ H₂ fp, PTs (YE X scope (tn ++ cn) C s₂ H₂ fp) ifs tt) (he : ∀ C s₂ H₂ fp, PE (YE X scope (tn ++ cn) C s₂ H₂ fp) elt te)
 (I2 : Inv X pins σ H₂ s₂) (T : Turn X.prog X.w X.K tg J fp it tnx) (st2 : tnx 0 s₂.heap) (f2 : ∀ b ∈ fp, ZY X pins H₂ b) (w0 : W 0 m0 [] H₂)
 (turn : ∀ i m ys H, W i m ys H -> (J.stop i H /\ ∀ C D s its n σ', s₂.heap.objs.size <= C -> s₂.heap.objs.size <= D -> D ≠ C -> Vals ys its -> ys.length <= sizeLine ->
   Inv (YE X scope (tn ++ cn) C s₂ H₂ fp) [(D, { cls := .type "list", data := .seq its.toArray n })] σ' H s -> RR (.ref D) C (.ok .next) s) \/
   (J.go i H /\ ∀ x H', J.yld i H x H' -> g x (blk tn.length σ js) H' fun σ2 H2 => tt σ2 H2 fun b H3 =>
     if b = true then te σ2 H3 fun y H4 => ys.length < sizeLine /\ ∃ m', m' < m /\ W (i + 1) m' (ys ++ [y]) H4 else ∃ m', m' < m /\ W (i + 1) m' ys H3)) :
 wpAny (model X.prog X.w) X.A (newList []) (fun acc s₃ => wpAny (model X.prog X.w) X.A (newFunctionEnv scope X.env.globals (Z3 X.env.cells scope.names []) [] X.env.qual none .none (some X.env)) (fun cenv s₄ =>
  codeAny (model X.prog X.w) X.A (.compStart (.ListComp elt [⟨tg, iter, ifs, 0⟩] scope pos) 0 (.ref it) acc { cenv with scope := relabel scope X.env }) (RR acc cenv.locals) s₄) E s₃) E s₂ := by
 refine wpAny_newObj_type (wpAny_newFunctionEnv S.nocell (by intro y hy; simp at hy) (fun h₁ hns₁ hsb₁ => ?_) S.kind)
 dsimp only at hns₁ hsb₁ ⊢
 generalize hH2 : s₂.heap.push { cls := .type "list", dict := none, data := .seq ([] : List Value).toArray } = HH at hns₁ hsb₁ ⊢
 have hCs : HH.objs.size = s₂.heap.objs.size + 1 := by rw [<- hH2, Heap.size_push]
 have hDC : s₂.heap.objs.size ≠ HH.objs.size := by rw [hCs]; exact Nat.ne_of_lt (Nat.lt_succ_self _)
 have hC : s₂.heap.objs.size <= HH.objs.size := by rw [hCs]; exact Nat.le_succ _
 have hD : s₂.heap.objs.size <= s₂.heap.objs.size := Nat.le_refl _
 have old : ∀ b o, s₂.heap.get? b = some o -> h₁.get? b = some o := fun b o e => hsb₁.extBut b o (by rw [hCs]; exact Nat.ne_of_lt (Nat.lt_succ_of_lt (Heap.lt_size e))) (Heap.get?_push_of_some _ (hH2 ▸ Heap.get?_push_of_some _ e))
 have hacc : h₁.get? s₂.heap.objs.size = some { cls := .type "list", dict := none, data := .seq ([] : List Value).toArray } := hsb₁.extBut _ _ hDC (Heap.get?_push_of_some _ (hH2 ▸ Heap.get?_push_size _ rfl))
 have hob := T.obj _ _ st2
 have I3 : Inv (YE X scope (tn ++ cn) HH.objs.size s₂ H₂ fp) [(s₂.heap.objs.size, { cls := .type "list", dict := none, data := .seq ([] : List Value).toArray })] (blk tn.length σ js) H₂ { s₂ with heap := h₁, toks := s₂.toks + ([] : List (Str × Value)).length } :=
  Zbz S I2 hC hD hDC f2 hob old hns₁ hacc (fun v z => by cases z)
 have st3 : tnx 0 h₁ := T.keep _ _ _ st2 fun b hb o e => old b o e
 generalize hX' : YE X scope (tn ++ cn) HH.objs.size s₂ H₂ fp = X' at I3
 generalize hs3 : ({ s₂ with heap := h₁, toks := s₂.toks + ([] : List (Str × Value)).length } : Shared) = s3 at I3 ⊢
 have st3' : tnx 0 s3.heap := by rw [<- hs3]; exact st3
 have stat : ∀ {pins' : List (Addr × Obj)} {H' : Hp}, (∀ b ∈ fp, H' b = none) -> (∀ p ∈ pins', p.1 = s₂.heap.objs.size) -> ∀ b ∈ fp, ZY X' pins' H' b := fun {pins' H'} hn hp b hb => by
  subst hX'
  obtain ⟨o, e, _⟩ := hob b hb
  obtain ⟨f0, f1, f2', f3, f4, f5⟩ := f2 b hb
  refine ⟨hn b hb, Nat.ne_of_lt (Nat.lt_of_lt_of_le (Heap.lt_size e) hC), fun z => (List.mem_cons.mp (I2.stkSub b z)).elim f1 f2', .inl hb, fun x c h => f4 x c (Yy _ [] (S.clos I2.ok) (fun _ z => by cases z) h), fun p hpp => ?_⟩
  have : p ∈ pins' := by
   have q : p ∈ ([] : List (Addr × Obj)) ++ pins' := hpp
   simpa using q
  rw [hp p this]
  exact Nat.ne_of_gt (Heap.lt_size e)
 have loop : codeAny (model X.prog X.w) X.A (.compLoop (.ListComp elt [⟨tg, iter, ifs, 0⟩] scope pos) 0 (.ref it) (.ref s₂.heap.objs.size) X'.env) (RR (.ref s₂.heap.objs.size) HH.objs.size) s3 := by
  refine Zac (fun k s' => ∃ i ys its n H', Inv X' [(s₂.heap.objs.size, { cls := .type "list", data := .seq its n })] (blk tn.length σ js) H' s' /\ Vals ys its.toList /\ ys.length <= sizeLine /\ tnx i s'.heap /\ (∀ b ∈ fp, H' b = none) /\ W i k ys H') ?_ m0
   ⟨0, [], #[], 0, H₂, I3, .nil, Nat.zero_le _, st3', fun b hb => (f2 b hb).1, w0⟩
  rintro k s4 ⟨i, ys, its, n, H4, I4, hv4, hz4, st4, fr4, w4⟩
  have eP : X'.prog = X.prog := by rw [<- hX']; rfl
  have eW : X'.w = X.w := by rw [<- hX']; rfl
  have eK : X'.K = X.K := by rw [<- hX']; rfl
  have eA : X'.A = X.A := by rw [<- hX']; rfl
  have eC : X'.calm = true := by rw [<- hX']; exact hc
  have eE : X'.xe = fun _ _ => False := by rw [<- hX']; rfl
  rcases turn i k ys H4 w4 with ⟨stop, qn⟩ | ⟨go, step⟩
  · have z := T.done X' eP eW eK eC i _ s4 (blk tn.length σ js) H4 (fun _ _ => False) I4 (stat fr4 (fun p hp => by simp at hp; rw [hp])) st4 stop
    rw [eA] at z
    refine YF (thn z fun r s5 ⟨hr, I5⟩ => ?_)
    subst hr
    subst hX'
    exact qn _ _ s5 its.toList n _ hC hD hDC hv4 hz4 (by simpa using I5)
  · have z := T.item X' eP eW eK eC i _ s4 (blk tn.length σ js) H4 (fun _ _ => False) I4 (stat fr4 (fun p hp => by simp at hp; rw [hp])) st4 go
    rw [eA] at z
    refine YF (thn z fun r s5 ⟨u, hr, h5⟩ => ?_)
    subst hr
    refine YF (thn h5 fun _ s6 ⟨x, H6, I6, r6, y6, st6, fr6⟩ => ?_)
    have I6' := I6.pinned (stat fr6 (fun p hp => by simp at hp; rw [hp])) (T.obj _ _ st6)
    have hg' : PG X' tg g := by rw [<- hX']; exact hg _ _ _ _
    have ht' : PTs X' ifs tt := by rw [<- hX']; exact ht _ _ _ _
    have he' : PE X' elt te := by rw [<- hX']; exact he _ _ _ _
    have z7 := hg' _ s6 _ H6 x u _ I6' r6 (step x H6 y6)
    rw [eP, eW, eA, eE] at z7
    refine YF (thn z7 fun _ s7 ⟨σ7, H7, I7, q7⟩ => ?_)
    have z8 := ht' _ s7 σ7 H7 _ I7 q7
    rw [eP, eW, eA, eE] at z8
    refine YF (thn z8 fun ok s8 ⟨H8, I8, q8⟩ => ?_)
    have key : ∀ {σ9 : St} {H9 : Hp} {s9 : Shared} {its' : Array Value} {n' : Nat}, Inv X' ([(s₂.heap.objs.size, { cls := .type "list", data := .seq its' n' })] ++ Yg fp s6.heap) σ9 H9 s9 ->
     Inv X' [(s₂.heap.objs.size, { cls := .type "list", data := .seq its' n' })] (blk tn.length σ js) H9 s9 /\ tnx (i + 1) s9.heap /\ ∀ b ∈ fp, H9 b = none := fun {σ9 H9 s9 its' n'} I9 => by
     refine ⟨?_, T.keep _ _ _ st6 fun b hb o e => (I9.pin (b, o) (List.mem_append_right _ (List.mem_append_right _ (Vj hb e)))).1, fun b hb => ?_⟩
     · have I9' := I9.unpinned
       subst hX'
       exact Zby S I2 f2 I9'
     · obtain ⟨o, e, d⟩ := T.obj _ _ st6 b hb
       exact (I9.pin (b, o) (List.mem_append_right _ (List.mem_append_right _ (Vj hb e)))).2.1
    cases ok with
    | false =>
     rw [if_neg Bool.false_ne_true] at q8 ⊢
     obtain ⟨m', hm, w8⟩ := q8
     obtain ⟨I9, st9, fr9⟩ := key I8
     exact ⟨m', hm, i + 1, ys, its, n, H8, I9, hv4, hz4, st9, fr9, w8⟩
    | true =>
     rw [if_pos rfl] at q8 ⊢
     have z9 := he' _ s8 σ7 H8 _ I8 q8
     rw [eP, eW, eA, eE] at z9
     refine YF (thn z9 fun v s9 ⟨y, H9, I9, r9, hl9, m', hm, w9⟩ => ?_)
     have pd := I9.pin (s₂.heap.objs.size, { cls := .type "list", data := .seq its n }) (List.mem_append_right _ (List.mem_append_left _ List.mem_cons_self))
     have hpl : s9.heap.PlainList s₂.heap.objs.size its := ⟨n, pd.1⟩
     have hlen : its.size = ys.length := by rw [hv4.length]; simp
     refine wpAny_list_append_plain (hsz := by omega) hpl fun h10 hl10 hs10 => ?_
     obtain ⟨n10, e10⟩ := hl10
     have I10 : Inv X' (Yg fp s6.heap) σ7 H9 s9 := I9.pins_of fun p hp => I9.pin p (List.mem_append_right _ (List.mem_append_right _ hp))
     have nD : ∀ b ∈ fp, b ≠ s₂.heap.objs.size := fun b hb => by
      obtain ⟨o, e, _⟩ := hob b hb
      exact Nat.ne_of_lt (Heap.lt_size e)
     have I11 : Inv X' (Yg fp s6.heap) σ7 H9 { s9 with heap := h10 } := by
      refine I10.turned (t' := s9.toks) (it := s₂.heap.objs.size) (fun b o hb e => (hs10.2 b hb).trans e) pd.2.1 pd.2.2.1 ?_ ?_ ?_
      · subst hX'; exact .inr (Nat.le_refl _)
      · subst hX'
        intro x c h
        obtain ⟨v', o', q, _⟩ := I2.cell x c (Yy _ [] (S.clos I2.ok) (fun _ z => by cases z) h)
        exact Nat.ne_of_lt (Heap.lt_size q)
      · intro p hp
        have hp' : p ∈ Yg fp s6.heap := by
         subst hX'
         have q : p ∈ ([] : List (Addr × Obj)) ++ Yg fp s6.heap := hp
         simpa using q
        exact nD _ (QA hp').1
     have I12 : Inv X' ([(s₂.heap.objs.size, { cls := .type "list", data := .seq (its.push v) n10 })] ++ Yg fp s6.heap) σ7 H9 { s9 with heap := h10 } := I11.pins_of fun p hp => by
      rcases List.mem_append.mp hp with q | q
      · have e : p = (s₂.heap.objs.size, { cls := .type "list", data := .seq (its.push v) n10 }) := by simpa using q
        subst e
        exact ⟨e10, pd.2.1, pd.2.2.1, pd.2.2.2.1, fun v z => by cases z⟩
      · exact I11.pin p (List.mem_append_right _ q)
     obtain ⟨J1, J2, J3⟩ := key I12
     refine ⟨m', hm, i + 1, ys ++ [y], its.push v, n10, H9, J1, ?_, ?_, J2, J3, w9⟩
     · have : (its.push v).toList = its.toList ++ [v] := by simp
       rw [this]
       exact hv4.append (.cons r9 .nil)
     · rw [List.length_append, List.length_singleton]
       omega
 have eEnv : ({ newEnv scope HH.objs.size X.env.globals (Z3 X.env.cells scope.names []) X.env.qual none .none (some X.env) builtinsNs with scope := relabel scope X.env } : Env) = X'.env := by rw [<- hX']; rfl
 have loop2 := loop
 rw [<- eEnv] at loop loop2
 exact codeAny_compStart_list loop (T.self X.A 0 s3 _ _ st3' loop2)
theorem X6 (hc : X.calm = true) (S : CompSc X scope tn cn js) (hi : PI X tg iter wi)
 (hg : ∀ C s₂ H₂ fp, PG (YE X scope (tn ++ cn) C s₂ H₂ fp) tg g) (ht : ∀ C s₂ H₂ fp, PTs (YE X scope (tn ++ cn) C s₂ H₂ fp) ifs tt) (he : ∀ C s₂ H₂ fp, PE (YE X scope (tn ++ cn) C s₂ H₂ fp) elt te)
 (hs : ∀ x, foldedSetIterable iter X.env x = pure x := by intro _; rfl) :
 PE X (.ListComp elt [⟨tg, iter, ifs, 0⟩] scope pos) (V9 wi g tt te tn.length js) := by
 intro pins s σ H Q I h
 rw [eval_ListComp]
 refine wpAny_comprehension_free (use := none) (cl := Z3 X.env.cells scope.names []) rfl hs (QL (S.clos I.ok)) S.kind S.names (thn (hi pins s σ H _ I h) fun v s1 h1 => thn h1 fun itv s2 h2 => ?_)
 obtain ⟨it, fp, tnx, J, H2, e, I2, T, st2, f2, W, ⟨m0, w0⟩, turn⟩ := h2
 subst e
 refine Zai (RR := fun acc C => compPost (model X.prog X.w) X.A X.xe none (EP X pins σ Q) acc C) (W := W) (m0 := m0) hc S hg ht he I2 T st2 f2 w0 fun i m ys H w => ?_
 rcases turn i m ys H w with ⟨stop, qn⟩ | r
 · refine .inl ⟨stop, fun C D s its n σ' hC hD hDC hv hz I' => ?_⟩
   obtain ⟨m', hn, _⟩ := id I'.loc
   refine ⟨m', hn, fun h' hs' => ?_⟩
   have pd := I'.pin (D, { cls := .type "list", data := .seq its.toArray n }) (List.mem_append_right _ List.mem_cons_self)
   exact ⟨.ref D, _, Za4 S I2 hC hD hDC f2 I' hv hz hs', rfl, qn D pd.2.1⟩
 · exact .inr r
end
end L2
namespace L2
open PySem PySem.Spec PyProof.Rows
abbrev S (cs : List Nat) : V := .str (tx cs)
theorem Zgm {a b : List Nat} : S a = S b ↔ a = b := by
 constructor
 · intro h
   exact tx_inj.mp (V.str.inj h)
 · rintro rfl; rfl
section
variable {X : Cx} {pos : Pos}
def Its (cs : List Nat) : It := ⟨fun i _ => i < cs.length, fun i H v H' => H' = H /\ ∃ c, cs[i]? = some c /\ v = S [c], fun i _ => cs.length <= i⟩
theorem UQ (x : Str) : strIterType x = "str_ascii_iterator" \/ strIterType x = "str_iterator" := by
 unfold strIterType
 split
 · exact .inl rfl
 · exact .inr rfl
theorem ZcZ {P : Program} {w : World} {K : PySem.W.Frag} {tg : Expr} (it : Addr) (cs : List Nat) (t : Tok) : Turn P w K tg (Its cs) [it] it (fun i h => h.IsStrIter it (strIterType (tx cs)) (tx cs) t i) where
 mem := by simp
 obj := fun i h st b hb => by
  have e : b = it := by simpa using hb
  subst e
  obtain ⟨o, e, c, d⟩ := st
  exact ⟨o, e, fun v z => by rw [d] at z; cases z⟩
 keep := fun i h h' st k => by
  obtain ⟨o, e, r⟩ := st
  exact ⟨o, k it (by simp) o e, r⟩
 item := by
  intro X hP hw hK hc i pins s σ H E I hf st hg
  subst hP hw hK
  obtain ⟨f0, f1, f2, f3, f4, f5⟩ := hf it (by simp)
  have hg : i < cs.length := hg
  have hx : (tx cs).cps[i]? = some cs[i] := by simp [tx, hg]
  have fin : ∀ (h' : Heap), h'.IsStrIter it (strIterType (tx cs)) (tx cs) t (i + 1) -> Heap.SameBut it s.heap h' ->
   ∃ u, some (Value.str ⟨#[cs[i]]⟩ s.toks) = some u /\ wpAny (model X.prog X.w) X.A (letOwnedTupleGo tg (.ref it) u) (fun _ s2 => ∃ x H', Inv X pins σ H' s2 /\ RelV x u /\ (Its cs).yld i H x H' /\ s2.heap.IsStrIter it (strIterType (tx cs)) (tx cs) t (i + 1) /\ ∀ b ∈ [it], H' b = none) E { s with heap := h', toks := s.toks + 1 } := fun h' st' sb => by
   have I1 : Inv X pins σ H { s with heap := h', toks := s.toks + 1 } := I.turned (fun b o hb e => (sb.2 b hb).trans e) f0 f1 f3 f4 f5
   obtain ⟨o, e, hc', d⟩ := id st'
   refine ⟨_, rfl, UL (s := { s with heap := h', toks := s.toks + 1 }) e hc' d ?_ ⟨S [cs[i]], H, I1, ⟨s.toks, rfl⟩, ⟨rfl, cs[i], by simp [hg], rfl⟩, st', fun b hb => (hf b hb).1⟩⟩
   rcases UQ (tx cs) with z | z <;> rw [z] <;> decide
  rcases UQ (tx cs) with z | z
  · rw [z] at st
    refine wpAny_pyNext_ascii_item st hx fun h' st' sb => fin h' (by rw [z]; exact st') sb
  · rw [z] at st
    refine wpAny_pyNext_wide_item st hx fun h' st' sb => fin h' (by rw [z]; exact st') sb
 done := by
  intro X hP hw hK hc i pins s σ H E I hf st hg
  subst hP hw hK
  obtain ⟨f0, f1, f2, f3, f4, f5⟩ := hf it (by simp)
  have hg : cs.length <= i := hg
  have hx : (tx cs).cps[i]? = none := by simp [tx]; omega
  rcases UQ (tx cs) with z | z
  · rw [z] at st
    exact wpAny_pyNext_ascii_end (I.ok.hd hc) st hx fun h' eb => ⟨rfl, I.turned (t' := s.toks) (fun b o hb e => eb b o hb e) f0 f1 f3 f4 f5⟩
  · rw [z] at st
    exact wpAny_pyNext_wide_end (I.ok.hd hc) st hx fun h' eb => ⟨rfl, I.turned (t' := s.toks) (fun b o hb e => eb b o hb e) f0 f1 f3 f4 f5⟩
 self := fun _ i _ _ _ st h => by
  rcases UQ (tx cs) with z | z
  · rw [z] at st
    exact wpAny_pyIter_striter_ascii st h
  · rw [z] at st
    exact wpAny_pyIter_striter_wide st h
variable {tg : Expr}
def Vp (K : PySem.W.Frag) (tl : TE) : TI := fun σ H R => tl σ H fun x H1 => (∃ a xs, x = .ref a /\ SqL K H1 a xs /\ R (Itl K a) H1) \/ (∃ a xs, x = .ref a /\ SqT K H1 a xs /\ R (Itt K a) H1) \/ ∃ cs, x = S cs /\ R (Its cs) H1
theorem ZfO {l : Expr} {tl : TE} (hl : PE X l tl) : PI X tg l (Vp X.K tl) := by
 intro pins s σ H R I h
 refine thn (hl pins s σ H _ I h) fun v s1 ⟨x, H1, I1, r1, q1⟩ => ?_
 rcases q1 with ⟨a, xs, e, hq, q⟩ | ⟨a, xs, e, hq, q⟩ | ⟨cs, e, q⟩
 · subst e
   cases r1
   obtain ⟨its, rv, p, hz⟩ := I1.list hq
   refine wpAny_pyIter_list p.isList ?_
   refine ⟨s1.heap.objs.size, [s1.heap.objs.size], _, _, H1, rfl, I1.kept (t' := s1.toks) fun b o e => Heap.get?_push_of_some _ e, Zcn a _, ⟨_, Heap.get?_push_size _ rfl, rfl, rfl⟩, fun b hb => ?_, q⟩
   have e : b = s1.heap.objs.size := by simpa using hb
   subst e
   exact I1.fpOk (Nat.le_refl _) (I1.hok.fresh (Nat.le_refl _))
 · have hpi := ZfH (X := X) (tg := tg) (l := l) (tl := fun _ H Q => Q (.ref a) H)
   subst e
   cases r1
   obtain ⟨its, rv, p, hz⟩ := I1.tuple hq
   refine wpAny_pyIter_tuple (show s1.heap.IsTuple a its.toArray from p) ?_
   refine ⟨s1.heap.objs.size, [s1.heap.objs.size], _, _, H1, rfl, I1.kept (t' := s1.toks) fun b o e => Heap.get?_push_of_some _ e, Zah a _, ⟨_, Heap.get?_push_size _ rfl, rfl, rfl⟩, fun b hb => ?_, q⟩
   have e : b = s1.heap.objs.size := by simpa using hb
   subst e
   exact I1.fpOk (Nat.le_refl _) (I1.hok.fresh (Nat.le_refl _))
 · subst e
   obtain ⟨t, rfl⟩ := r1
   refine wpAny_pyIter_strU ?_
   refine ⟨s1.heap.objs.size, [s1.heap.objs.size], _, _, H1, rfl, I1.kept (t' := s1.toks) fun b o e => Heap.get?_push_of_some _ e, ZcZ _ cs t, ⟨_, Heap.get?_push_size _ rfl, rfl, rfl⟩, fun b hb => ?_, q⟩
   have e : b = s1.heap.objs.size := by simpa using hb
   subst e
   exact I1.fpOk (Nat.le_refl _) (I1.hok.fresh (Nat.le_refl _))
def rAddS : R2 := fun x y H Q => ∃ a b, x = S a /\ y = S b /\ a.length + b.length <= sizeLine /\ Q (S (a ++ b)) H
theorem op_addS : OpR X (binaryOp .Add) rAddS := by
 intro pins s σ H x y v u Q I rx ry h
 obtain ⟨a, b, rfl, rfl, hz, q⟩ := h
 refine Zbv pins s σ H _ _ v u Q I rx ry ⟨tx a, tx b, rfl, rfl, by rw [YZ, YZ]; exact hz, ?_⟩
 rw [ZfN]
 exact q
def Zgn : R2 := fun x y H Q => rI0 (fun i j => .int (i + j)) x y H Q \/ rAddS x y H Q \/ ZhA x y H Q
def QO (neg : Bool) : R2 := fun x y H Q => ∃ c b, x = S [c] /\ y = S b /\ Q (.bl (neg != decide (c ∈ b))) H
theorem op_inS : OpR X (compareOp .In) (QO false) := by
 intro pins s σ H x y v u Q I rx ry h
 obtain ⟨c, b, rfl, rfl, q⟩ := h
 refine Zco pins s σ H _ _ v u Q I rx ry ⟨tx [c], tx b, rfl, rfl, ?_⟩
 have e := StrLaws.found_one (tx b) c
 rw [Vn] at e
 rw [show tx [c] = (⟨#[c]⟩ : Str) from rfl, e]
 simpa using q
theorem op_notInS : OpR X (compareOp .NotIn) (QO true) := by
 intro pins s σ H x y v u Q I rx ry h
 obtain ⟨c, b, rfl, rfl, q⟩ := h
 refine ZaM pins s σ H _ _ v u Q I rx ry ⟨tx [c], tx b, rfl, rfl, ?_⟩
 have e := StrLaws.found_one (tx b) c
 rw [Vn] at e
 rw [show tx [c] = (⟨#[c]⟩ : Str) from rfl, e]
 simpa using q
def Vq (K : PySem.W.Frag) (neg : Bool) : R2 := fun x y H Q => QO neg x y H Q \/ rIn K neg x y H Q
theorem ZfP : OpR X (compareOp .In) (Vq X.K false) := op_inS.or Zct
theorem Zcw : OpR X (compareOp .NotIn) (Vq X.K true) := op_notInS.or ZaN
def rIxSt : R2 := fun x y H Q => ∃ a i c, x = S a /\ y = .int i /\ a.length <= sizeLine /\ atI a i = some c /\ Q (S [c]) H
theorem ZhB : IxR X rIxSt := by
 intro value slice pins s σ H x y v u Q I rx ry h hs
 obtain ⟨a, i, c, rfl, rfl, hz, he, q⟩ := h
 exact ZfJ value slice pins s σ H _ _ v u Q I rx ry ⟨tx a, i, c, rfl, rfl, by rw [YZ]; exact hz, by rw [Vn]; exact he, q⟩ hs
def Vr (K : PySem.W.Frag) : R2 := fun x y H Q => Zhg K x y H Q \/ Zhh K x y H Q \/ rIxSt x y H Q
theorem ZhC : IxR X (Vr X.K) := ix_list.or (ix_tup.or ZhB)
def QP (K : PySem.W.Frag) : List V -> Hp -> VK -> Prop := fun xs H Q => (∃ a, xs = [S a] /\ a.length <= sizeLine /\ Q (.int a.length) H) \/ ∃ p ys, xs = [.ref p] /\ (SqL K H p ys \/ SqT K H p ys) /\ Q (.int ys.length) H
theorem Zcx : ZZ X (.builtin "len") (QP X.K) := by
 intro pins s σ H xs us Q I rs q
 rcases q with ⟨a, rfl, hz, q⟩ | q
 · exact ZaP pins s σ H _ us Q I rs ⟨tx a, rfl, by rw [YZ]; exact hz, by rw [YZ]; exact q⟩
 · exact ZaO pins s σ H xs us Q I rs q
def rIntX : List V -> Hp -> VK -> Prop := fun xs H Q => (∃ a, xs = [S a] /\ a.length <= 640 /\ a ≠ [] /\ a.all UO = true /\ Q (.int (QJ a : Nat)) H) \/ (∃ k, xs = [.bl k] /\ Q (.int (if k then 1 else 0)) H)
theorem Zay : ZZ X (.type "int") rIntX := by
 intro pins s σ H xs us Q I rs h
 rcases h with ⟨a, rfl, hl, hne, hd, q⟩ | h
 · obtain ⟨u, rfl, t, rfl⟩ := YD rs
   have hd' : PySem.NumText.AllDigits (tx a).cps.toList := by
    rw [Vn]
    intro c hc
    have := List.all_eq_true.mp hd c hc
    unfold UO at this
    rw [Bool.and_eq_true, decide_eq_true_eq, decide_eq_true_eq] at this
    exact this
   have e := PySem.intText_digits hd' (by rw [Vn]; exact hne) (by rw [YZ]; omega)
   rw [Vn] at e
   exact PySem.W.KIN.call_text e (by rw [YZ]; exact hl) ⟨.int (QJ a : Nat), H, I.tok _, ⟨_, rfl⟩, q⟩
 · exact Zcp pins s σ H xs us Q I rs (.inr h)
theorem Zd4 (bs : List Bool) : ∀ (its : List Value), Vals (bs.map V.bl) its -> its = bs.map Value.bool := by
 induction bs with
 | nil => intro its r; cases r; rfl
 | cons b bs ih =>
  intro its r
  cases r with
  | cons r1 r2 =>
   rw [ih _ r2]
   cases r1
   rfl
theorem Zcy (bs : List Bool) : ((List.range bs.length).all fun i => bs.getD i false) = bs.all id := by
 rw [Bool.eq_iff_iff, List.all_eq_true, List.all_eq_true]
 constructor
 · intro h b hb
   obtain ⟨i, hi⟩ := List.getElem?_of_mem hb
   have hl : i < bs.length := (List.getElem?_eq_some_iff.mp hi).1
   have := h i (List.mem_range.mpr hl)
   rw [List.getD_eq_getElem?_getD, hi] at this
   exact this
 · intro h i hi
   have hl := List.mem_range.mp hi
   have := h bs[i] (List.getElem_mem hl)
   rw [List.getD_eq_getElem?_getD, List.getElem?_eq_getElem hl]
   exact this
def QQ (K : PySem.W.Frag) (f : List Bool -> Bool) : List V -> Hp -> VK -> Prop := fun xs H Q => ∃ p bs, xs = [.ref p] /\ SqL K H p (bs.map V.bl) /\ Q (.bl (f bs)) H
theorem ZbA {pins : List (Addr × Obj)} {σ : St} {H : Hp} {s : Shared} {p : Addr} {bs : List Bool} {Q : Value -> Shared -> Prop} {E : Value -> Shared -> Prop} {f : (Nat -> Bool) -> Bool} (hc : X.calm = true) (I : Inv X pins σ H s) (hq : SqL X.K H p (bs.map V.bl))
 (q : ∀ h' tk, (∀ b o, s.heap.get? b = some o -> h'.get? b = some o) -> Q (.bool (f fun i => bs.getD i false)) { s with heap := h', toks := tk }) :
 wpAny (model X.prog X.w) X.A.in1 (pyIter (.ref p)) (fun it s₂ => ∃ I fp wr n P St tr, it = .ref I /\ Walks X.prog X.w X.A.in1 I fp wr n P St /\ St 0 s₂.heap /\ TruthOf X.prog X.w X.A.in1 P tr /\
  n = bs.length /\ tr = (fun i => bs.getD i false) /\ ∀ h' tk, (∀ b o, b ∉ wr -> s₂.heap.get? b = some o -> h'.get? b = some o) -> Q (.bool (f tr)) { s₂ with heap := h', toks := tk }) E s := by
 obtain ⟨its, rv, pl, hz⟩ := I.list hq
 have e := Zd4 bs its rv
 subst e
 refine wpAny_pyIter_list pl.isList ?_
 have hlt : p < s.heap.objs.size := pl.lt
 have hh : X.A.in1.handled = none := I.ok.hd hc
 refine ⟨s.heap.objs.size, _, _, _, _, _, fun i => bs.getD i false, rfl, Walks.list hh _ p (Nat.ne_of_lt hlt) (bs.map Value.bool).toArray, ⟨⟨_, Heap.get?_push_size _ rfl, rfl, rfl⟩, (pl.keeps fun b o e => Heap.get?_push_of_some _ e).isList⟩, ?_, by simp, rfl, fun h' tk k => ?_⟩
 · intro i v s' Q' E' hv hq'
   have : v = Value.bool (bs.getD i false) := by
    have hv' : (bs.map Value.bool)[i]? = some v := by simpa using hv
    rw [List.getElem?_map] at hv'
    rw [List.getD_eq_getElem?_getD]
    cases e : bs[i]? with
    | none => rw [e] at hv'; cases hv'
    | some b => rw [e] at hv'; exact (Option.some.inj hv').symm
   subst this
   exact wpAny_truthy_bool hq'
 · refine q h' tk fun b o e => k b o (fun z => ?_) (Heap.get?_push_of_some _ e)
   have h1 := Heap.lt_size e
   have h2 : b = s.heap.objs.size := by simpa using z
   rw [h2] at h1
   exact Nat.lt_irrefl _ h1
theorem Zcz (hc : X.calm = true) : ZZ X (.builtin "all") (QQ X.K fun bs => bs.all id) := by
 intro pins s σ H xs us Q I rs h
 obtain ⟨p, bs, rfl, hq, q⟩ := h
 obtain ⟨u, rfl, rx⟩ := YD rs
 cases rx
 have z := ZbA (f := fun tr => (List.range bs.length).all tr) (Q := EP X pins σ Q) (E := X.xe) hc I hq fun h' tk k => ⟨.bl _, H, I.kept k, rfl, by rw [Zcy]; exact q⟩
 refine call_all_walk (wpAny_mono z (fun it s₂ z2 => ?_) fun _ _ z => z)
 obtain ⟨I', fp, wr, n, P, St, tr, e1, W, st, ht, en, et, hq'⟩ := z2
 exact ⟨I', fp, wr, n, P, St, tr, e1, W, st, ht, fun h' tk k => by rw [en]; exact hq' h' tk k⟩
theorem Zc0 : ZZ X (.builtin "isinstance") (fun xs H Q => ∃ x c cv t b, xs = [x, c] /\ (∀ v, RelV c v -> v = cv) /\ TyOf X.K H x t /\ PySem.W.kitOne X.K t cv = some b /\ Q (.bl b) H) := by
 intro pins s σ H xs us Q I rs h
 obtain ⟨x, c, cv, t, b, rfl, hc, ty, e, q⟩ := h
 obtain ⟨u, w', rfl, rx, rc⟩ := ZeZ rs
 have ec := hc _ rc
 subst ec
 exact Zcr I rx ty e fun tk => ⟨.bl b, H, I.tok tk, rfl, q⟩
end
section
variable {X : Cx} {K : PySem.W.Frag} {pos : Pos} {tg : Expr}
theorem Zgo (hK : X.K = K := by rfl) : OpR X (compareOp .In) (Vq K false) := hK ▸ ZfP
theorem QR (hK : X.K = K := by rfl) : OpR X (compareOp .NotIn) (Vq K true) := hK ▸ Zcw
theorem ZT (hK : X.K = K := by rfl) : IxR X (Vr K) := hK ▸ ZhC
theorem Xx (hK : X.K = K := by rfl) : ZZ X (.builtin "len") (QP K) := hK ▸ Zcx
theorem Zgp (hc : X.calm = true := by rfl) (hK : X.K = K := by rfl) : ZZ X (.builtin "all") (QQ K fun bs => bs.all id) := hK ▸ Zcz hc
def ZhD (K : PySem.W.Frag) : List V -> Hp -> VK -> Prop := fun xs H Q => ∃ x c cv t b, xs = [x, c] /\ (∀ v, RelV c v -> v = cv) /\ TyOf K H x t /\ PySem.W.kitOne K t cv = some b /\ Q (.bl b) H
theorem YG {l : Expr} {tl : TE} (hl : PE X l tl) (hK : X.K = K := by rfl) : PI X tg l (Vp K tl) := hK ▸ ZfO hl
def ZfQ (K : PySem.W.Frag) : List V -> Hp -> VK -> Prop := fun xs H Q => ∃ p ys, xs = [.ref p] /\ (SqL K H p ys \/ SqT K H p ys) /\ ∀ l, H l = none -> Q (.ref l) (upd H l (.lst ys))
theorem X7 {o e : Expr} {es : List Expr} {to : TE} {t : TA} {name : Str} {apos cpos : Pos} {T id : String} {r : V -> List V -> Hp -> VK -> Prop} (pa : PlainAttrs T) (slot : Slot T name id) (hty : typeOf (.builtin id) = pure (.type "method_descriptor")) (hm : MtR X id r) (ho : PE X o to) (ha : PA X (e :: es) t)
 (hbase : attributeBase o name X.env (eval o X.env) = eval o X.env := by rfl)
 (hfew : ((backTo cpos (starEach (e :: es) X.env)).all (fun x => !x.1) && (backToKw cpos (keywordEach [] X.env)).all (fun x => x.1.isSome)
   && decide ((e :: es).length + ([] : List Keyword).length + (if ([] : List Keyword).isEmpty then 0 else 1) < 30)) = true := by rfl)
 (hline : (apos.endLine == cpos.line) = true := by rfl) (hs : starEach (e :: es) X.env = (false, eval e X.env) :: starEach es X.env := by rfl) (hplain : (backTo cpos (starEach es X.env)).any (·.1) = false := by rfl) (hK : X.K = K := by rfl) :
 PE X (.Call (.Attribute o name apos) (e :: es) [] cpos) (tBM K T r to t) := hK ▸ Zgl pa slot hty hm ho ha hbase hfew hline hs hplain
theorem Zgq {es : List Expr} {k : Nat} {t : TGs} {n : Nat} (h : PGs X es t) (hc : X.calm = true := by rfl)
 (hn : (assignEach es X.env).length = n := by rfl) (hst : (assignEach es X.env).findIdx? (·.1) = none := by rfl) (hK : X.K = K := by rfl) : PG X (.Tuple es k pos) (Qx K n t) := hK ▸ ZfE hc h hn hst
end
end L2
namespace L2
open PySem PySem.Spec PyProof.Rows
theorem Zc1 {H : Hp} {q : Addr} {o : HO} (h : H q = none) : Same H (upd H q o) := fun b u e => by
 rw [Zj (ZR e h)]
 exact e
structure Walk (J : It) (xs : List V) (H : Hp) : Prop where
 go : ∀ i, i < xs.length -> J.go i H
 yld : ∀ (i : Nat) v H', i < xs.length -> J.yld i H v H' -> H' = H /\ xs[i]? = some v
 stop : ∀ i, xs.length <= i -> J.stop i H
end L2
namespace L2
open PySem PySem.Spec PyProof.Rows
section
variable {X : Cx} {tg : Expr}
end
end L2
namespace L2
open PySem PySem.Spec PyProof.Rows
section
variable {X : Cx} {elts : List Expr} {x1 : Nat} {tpos : Pos}
end
end L2
namespace L2
open PySem PySem.Spec PyProof.Rows
section
variable {κ : Type} [DecidableEq κ]
def Yt (kvs : List (κ × V)) (k : κ) : Option V := (kvs.find? fun kv => decide (kv.1 = k)).map (·.2)
def Z6 (kvs : List (κ × V)) (k : κ) (v : V) : List (κ × V) :=
 if (kvs.any fun kv => decide (kv.1 = k)) = true then kvs.map (fun kv => if kv.1 = k then (kv.1, v) else kv) else kvs ++ [(k, v)]
theorem UR {p : κ × V} {r : List (κ × V)} {k : κ} (e : p.1 = k) : Yt (p :: r) k = some p.2 := by simp [Yt, List.find?_cons, e]
theorem US {p : κ × V} {r : List (κ × V)} {k : κ} (e : ¬ p.1 = k) : Yt (p :: r) k = Yt r k := by simp [Yt, List.find?_cons, e]
theorem QS (k : κ) : ∀ kvs : List (κ × V), (kvs.any fun kv => decide (kv.1 = k)) = (Yt kvs k).isSome
 | [] => rfl
 | p :: r => by
  rw [List.any_cons]
  by_cases e : p.1 = k
  · simp only [UR e, decide_eq_true e, Bool.true_or, Option.isSome_some]
  · rw [US e, decide_eq_false e, Bool.false_or]; exact QS k r
theorem QT (kvs : List (κ × V)) (k : κ) (v : V) : (Z6 kvs k v).length <= kvs.length + 1 := by
 unfold Z6
 split
 · rw [List.length_map]; omega
 · rw [List.length_append, List.length_cons, List.length_nil]; omega
theorem RelO.isSome_eq {o : Option V} {u : Option Value} (r : RelO o u) : o.isSome = u.isSome := by
 cases o with
 | none => cases u with
  | none => rfl
  | some _ => exact (show False from r).elim
 | some _ => cases u with
  | none => exact (show False from r).elim
  | some _ => rfl
theorem KV.val {kvs : List (κ × V)} {vs : List (κ × Value)} (r : KV kvs vs) (k : κ) : RelO (Yt kvs k) (valueAt vs k) := by
 unfold KV at r
 induction r with
 | nil => exact True.intro
 | @cons p q ps qs h t ih =>
  obtain ⟨h1, h2⟩ := h
  by_cases e : p.1 = k
  · have e' : q.1 = k := h1.symm.trans e
    have b : valueAt (q :: qs) k = some q.2 := by simp [valueAt, List.find?_cons, e']
    rw [UR e, b]; exact h2
  · have e' : ¬ q.1 = k := fun z => e (h1.trans z)
    have b : valueAt (q :: qs) k = valueAt qs k := by simp [valueAt, List.find?_cons, e']
    rw [US e, b]; exact ih
theorem KV.any {kvs : List (κ × V)} {vs : List (κ × Value)} (r : KV kvs vs) (k : κ) : (kvs.any fun kv => decide (kv.1 = k)) = vs.any fun kv => decide (kv.1 = k) := by
 unfold KV at r
 induction r with
 | nil => rfl
 | cons h t ih => rw [List.any_cons, List.any_cons, ih, h.1]
theorem KV.repl {kvs : List (κ × V)} {vs : List (κ × Value)} (r : KV kvs vs) (k : κ) {y : V} {u : Value} (ry : RelV y u) :
 KV (kvs.map fun kv => if kv.1 = k then (kv.1, y) else kv) (vs.map fun kv => if kv.1 = k then (kv.1, u) else kv) := by
 unfold KV at r ⊢
 induction r with
 | nil => exact .nil
 | @cons p q ps qs h t ih =>
  rw [List.map_cons, List.map_cons]
  refine .cons ?_ ih
  obtain ⟨h1, h2⟩ := h
  by_cases e : p.1 = k
  · rw [if_pos e, if_pos (h1.symm.trans e)]; exact ⟨h1, ry⟩
  · rw [if_neg e, if_neg (fun z => e (h1.trans z))]; exact ⟨h1, h2⟩
theorem KV.put {kvs : List (κ × V)} {vs : List (κ × Value)} (r : KV kvs vs) (k : κ) {y : V} {u : Value} (ry : RelV y u) : KV (Z6 kvs k y) (stored vs k u) := by
 unfold Z6 stored
 rw [r.any k]
 by_cases e : (vs.any fun kv => decide (kv.1 = k)) = true
 · rw [if_pos e, if_pos e]; exact r.repl k ry
 · rw [if_neg e, if_neg e]; exact Paired.snoc r ⟨rfl, ry⟩
theorem KV.length {kvs : List (κ × V)} {vs : List (κ × Value)} (r : KV kvs vs) : kvs.length = vs.length := Paired.length r
end
theorem Vs {P : Program} {w : World} {k : Key} {u : Value} (r : RelV (kV k) u) : (Yl P w).is k u = true := by
 cases k with
 | inl i => obtain ⟨t, e⟩ := (show ∃ t, u = Value.int i t from r); subst e; exact ZaR P w i t
 | inr x => obtain ⟨t, e⟩ := (show ∃ t, u = Value.str x t from r); subst e; exact ZaS P w x t
theorem Zaz {P : Program} {w : World} : ∀ {ks : List Key} {us : List Value}, Vals (ks.map kV) us -> ItemsAre (Yl P w) ks us
 | [], _, r => by rw [List.map_nil] at r; cases r; exact .nil
 | k :: ks, _, r => by
  rw [List.map_cons] at r
  cases r with
  | cons h t => exact .cons (Vs h) (Zaz t)
abbrev KT (H : Hp) : List (List Key × V) -> List (List Key × Addr × Value) -> Prop := Paired fun p q => p.1 = q.1 /\ H q.2.1 = some (.tup (p.1.map kV)) /\ RelV p.2 q.2.2
theorem KT.val {H : Hp} {kvs : List (List Key × V)} {xs : List (List Key × Addr × Value)} (r : KT H kvs xs) (k : List Key) : RelO (Yt kvs k) ((atKey xs k).map (·.2)) := by
 induction r with
 | nil => exact True.intro
 | @cons p q ps qs h t ih =>
  obtain ⟨h1, _, h2⟩ := h
  by_cases e : p.1 = k
  · have e' : q.1 = k := h1.symm.trans e
    have b : atKey (q :: qs) k = some q.2 := by simp [atKey, List.find?_cons, e']
    rw [UR e, b]; exact h2
  · have e' : ¬ q.1 = k := fun z => e (h1.trans z)
    have b : atKey (q :: qs) k = atKey qs k := by simp [atKey, List.find?_cons, e']
    rw [US e, b]; exact ih
theorem KT.repl {H : Hp} {kvs : List (List Key × V)} {xs : List (List Key × Addr × Value)} (r : KT H kvs xs) (k : List Key) {y : V} {u : Value} (ry : RelV y u) :
 KT H (kvs.map fun kv => if kv.1 = k then (kv.1, y) else kv) (xs.map (putAt k u)) := by
 induction r with
 | nil => exact .nil
 | @cons p q ps qs h t ih =>
  rw [List.map_cons, List.map_cons]
  refine .cons ?_ ih
  obtain ⟨h1, h2, h3⟩ := h
  unfold putAt
  by_cases e : p.1 = k
  · rw [if_pos e, if_pos (h1.symm.trans e)]; exact ⟨h1, h2, ry⟩
  · rw [if_neg e, if_neg (fun z => e (h1.trans z))]; exact ⟨h1, h2, h3⟩
theorem KT.put {H : Hp} {kvs : List (List Key × V)} {xs : List (List Key × Addr × Value)} (r : KT H kvs xs) (k : List Key) {b : Addr} {y : V} {u : Value} (hb : H b = some (.tup (k.map kV))) (ry : RelV y u) :
 KT H (Z6 kvs k y) (storedH xs k b u) := by
 have e : (kvs.any fun kv => decide (kv.1 = k)) = (atKey xs k).isSome := by
  rw [QS, (r.val k).isSome_eq, Option.isSome_map]
 unfold Z6 storedH
 rw [e]
 by_cases q : (atKey xs k).isSome = true
 · rw [if_pos q, if_pos q]; exact r.repl k ry
 · rw [if_neg q, if_neg q]; exact Paired.snoc r ⟨rfl, hb, ry⟩
theorem KT.keeps {H H' : Hp} {kvs : List (List Key × V)} {xs : List (List Key × Addr × Value)} (r : KT H kvs xs) (ht : ∀ b ys, H b = some (.tup ys) -> H' b = some (.tup ys)) : KT H' kvs xs :=
 Paired.mapP r fun _ _ z => ⟨z.1, ht _ _ z.2.1, z.2.2⟩
section
variable {P : Program} {w : World} {H : Hp} {h : Heap} {a : Addr}
theorem Ze1 {u : HO} (ok : HOk P w H h) (e : Rd H a u) : ObjOk P w H h a u := e.ok ok
theorem Ua {kvs : List (Key × V)} (ok : HOk P w H h) (e : Rd H a (.dK kvs)) : kvs.length <= sizeLine /\ (a == sysModules) = false /\ ∃ vs, KV kvs vs /\ h.DictOf (Yl P w) a vs :=
 show ObjOk P w H h a (.dK kvs) from Ze1 ok e
theorem Ze2 {kvs : List (Key × V)} (ok : HOk P w H h) (e : H a = some (.dK kvs)) : kvs.length <= sizeLine /\ (a == sysModules) = false /\ ∃ vs, KV kvs vs /\ h.DictOf (Yl P w) a vs := Ua ok (.inl e)
theorem Ub {ks : List Key} (ok : HOk P w H h) (e : H a = some (.tup (ks.map kV))) : (tupleKind (Yl P w)).is h ks a := by
 obtain ⟨_, its, r, o, h1, h2, ⟨n, h3⟩, _⟩ := (show ObjOk P w H h a (.tup (ks.map kV)) from ok a _ e)
 exact ⟨o, its.toArray, n, h1, h2, h3, by simpa using Zaz r⟩
theorem Uc {kvs : List (List Key × V)} (ok : HOk P w H h) (e : Rd H a (.dT kvs)) : kvs.length <= sizeLine /\ (a == sysModules) = false /\
 ∃ xs, KT H kvs xs /\ h.DictOfH (tupleKind (Yl P w)) a xs := by
 obtain ⟨z, y, xs, r, o, es, ep, h1, h2, h3, h4, h5⟩ := (show ObjOk P w H h a (.dT kvs) from Ze1 ok e)
 refine ⟨z, y, xs, r, o, es, ep, h1, h2, h3, h4, fun x hx => ?_, h5⟩
 have all : ∀ {l : List (List Key × V)} {m : List (List Key × Addr × Value)}, KT H l m -> ∀ x ∈ m, (tupleKind (Yl P w)).is h x.1 x.2.1 := by
  intro l m q
  induction q with
  | nil => intro x hx; exact nomatch hx
  | @cons p q ps qs hq t ih =>
   intro x hx
   rcases List.mem_cons.mp hx with e | hx
   · subst e
     exact Ub ok (by rw [<- hq.1]; exact hq.2.1)
   · exact ih x hx
 exact all r x hx
theorem Zgr {kvs : List (List Key × V)} (ok : HOk P w H h) (e : H a = some (.dT kvs)) : kvs.length <= sizeLine /\ (a == sysModules) = false /\
 ∃ xs, KT H kvs xs /\ h.DictOfH (tupleKind (Yl P w)) a xs := Uc ok (.inl e)
end
def DGet (H : Hp) (a : Addr) (y : V) (r : Option V) : Prop :=
 (∃ kvs k, Rd H a (.dK kvs) /\ y = kV k /\ r = Yt kvs k) \/ ∃ kvs k b, Rd H a (.dT kvs) /\ y = .ref b /\ H b = some (.tup (k.map kV)) /\ r = Yt kvs k
def DPut (H : Hp) (a : Addr) (y v : V) (H' : Hp) : Prop :=
 (∃ kvs k, H a = some (.dK kvs) /\ y = kV k /\ kvs.length < sizeLine /\ H' = upd H a (.dK (Z6 kvs k v))) \/
 ∃ kvs k b, H a = some (.dT kvs) /\ y = .ref b /\ H b = some (.tup (k.map kV)) /\ kvs.length < sizeLine /\ H' = upd H a (.dT (Z6 kvs k v))
theorem DGet.k {H : Hp} {a : Addr} {kvs : List (Key × V)} {k : Key} (e : H a = some (.dK kvs)) : DGet H a (kV k) (Yt kvs k) := .inl ⟨kvs, k, .inl e, rfl, rfl⟩
theorem DGet.t {H : Hp} {a b : Addr} {kvs : List (List Key × V)} {k : List Key} (e : H a = some (.dT kvs)) (eb : H b = some (.tup (k.map kV))) : DGet H a (.ref b) (Yt kvs k) := .inr ⟨kvs, k, b, .inl e, rfl, eb, rfl⟩
theorem DPut.k {H : Hp} {a : Addr} {kvs : List (Key × V)} {k : Key} {v : V} (e : H a = some (.dK kvs)) (hl : kvs.length < sizeLine) : DPut H a (kV k) v (upd H a (.dK (Z6 kvs k v))) := .inl ⟨kvs, k, e, rfl, hl, rfl⟩
theorem DPut.t {H : Hp} {a b : Addr} {kvs : List (List Key × V)} {k : List Key} {v : V} (e : H a = some (.dT kvs)) (eb : H b = some (.tup (k.map kV))) (hl : kvs.length < sizeLine) :
 DPut H a (.ref b) v (upd H a (.dT (Z6 kvs k v))) := .inr ⟨kvs, k, b, e, rfl, eb, hl, rfl⟩
section
variable {X : Cx} {pins : List (Addr × Obj)} {σ : St} {H : Hp} {s : Shared} {a : Addr} {y v : V} {u r : Value} {o : Option V} {A : Around} {E : Value -> Shared -> Prop}
theorem Inv.big (I : Inv X pins σ H s) : sysModules < s.heap.objs.size := by
 have h : mainGlobals < s.heap.objs.size := (I.mod.glob.keeps I.bk).lt
 exact Nat.lt_trans (by decide) h
theorem ZcA {Q : Value -> Shared -> Prop} (hu : A.units + 1 < cLine) (I : Inv X pins σ H s) (g : DGet H a y (some v)) (ry : RelV y u) (h : ∀ w' s', Inv X pins σ H s' -> RelV v w' -> Q w' s') :
 wpAny (model X.prog X.w) A (getItem (.ref a) u) Q E s := by
 rcases g with ⟨kvs, k, e, ey, l⟩ | ⟨kvs, k, b, e, ey, eb, l⟩
 · subst ey
   obtain ⟨z, hd, vs, rel, dd⟩ := Ua I.hok e
   obtain ⟨w', hw, rw'⟩ := RelO.some_of (v := v) (o := valueAt vs k) (by rw [l]; exact rel.val k)
   exact wpAny_getItem_of (Vs ry) dd.mapOf hw (h w' _ (I.tok _) rw')
 · subst ey
   cases (show u = Value.ref b from ry)
   obtain ⟨z, hd, xs, rel, dd⟩ := Uc I.hok e
   obtain ⟨w', hw, rw'⟩ := RelO.some_of (v := v) (o := (atKey xs k).map (·.2)) (by rw [l]; exact rel.val k)
   obtain ⟨p, hp, hp2⟩ := Option.map_eq_some_iff.mp hw
   refine wpAny_getItem_heap (tupleKind_room_in1 hu) (Ub I.hok eb) dd hp ?_
   rw [hp2]
   exact h w' _ (I.tok _) rw'
theorem ZhE {Q : Value -> Shared -> Prop} (hu : A.units + 1 < cLine) (I : Inv X pins σ H s) (g : DGet H a y o) (ry : RelV y u) (h : ∀ s', Inv X pins σ H s' -> Q (.bool o.isSome) s') :
 wpAny (model X.prog X.w) A (compareOp .In u (.ref a)) Q E s := by
 rcases g with ⟨kvs, k, e, ey, l⟩ | ⟨kvs, k, b, e, ey, eb, l⟩
 · subst ey
   obtain ⟨z, hd, vs, rel, dd⟩ := Ua I.hok e
   refine wpAny_in_of (Vs ry) hd dd.mapOf ?_
   rw [<- (rel.val k).isSome_eq, <- l]
   exact h _ (I.tok _)
 · subst ey
   cases (show u = Value.ref b from ry)
   obtain ⟨z, hd, xs, rel, dd⟩ := Uc I.hok e
   refine wpAny_in_heap (tupleKind_room_in1 hu) (Ub I.hok eb) hd dd ?_
   have q := (rel.val k).isSome_eq
   rw [Option.isSome_map] at q
   rw [<- q, <- l]
   exact h _ (I.tok _)
theorem Zd5 {Q : Value -> Shared -> Prop} (hu : A.units + 1 < cLine) (I : Inv X pins σ H s) (g : DGet H a y o) (ry : RelV y u) (h : ∀ s', Inv X pins σ H s' -> Q (.bool (!o.isSome)) s') :
 wpAny (model X.prog X.w) A (compareOp .NotIn u (.ref a)) Q E s := by
 rcases g with ⟨kvs, k, e, ey, l⟩ | ⟨kvs, k, b, e, ey, eb, l⟩
 · subst ey
   obtain ⟨z, hd, vs, rel, dd⟩ := Ua I.hok e
   refine wpAny_notIn_of (Vs ry) hd dd.mapOf ?_
   rw [<- (rel.val k).isSome_eq, <- l]
   exact h _ (I.tok _)
 · subst ey
   cases (show u = Value.ref b from ry)
   obtain ⟨z, hd, xs, rel, dd⟩ := Uc I.hok e
   refine wpAny_notIn_heap (tupleKind_room_in1 hu) (Ub I.hok eb) hd dd ?_
   have q := (rel.val k).isSome_eq
   rw [Option.isSome_map] at q
   rw [<- q, <- l]
   exact h _ (I.tok _)
theorem QU {h' : Heap} {t' : Nat} {ob : HO} (I : Inv X pins σ H s) (mu : Mut (H a)) (hs : Heap.SameBut a s.heap h') (he : ∃ q, h'.get? a = some q) (new : ObjOk X.prog X.w (upd H a ob) h' a ob) :
 Inv X pins σ (upd H a ob) { s with heap := h', toks := t' } :=
 I.write (x := a) (e := a) mu (.inl rfl) (fun b q hb z => (hs.2 b hb).trans z) he new
theorem Zdv {P : Program} {w : World} {H' : Hp} {h' : Heap} {kvs : List (Key × V)} {vs : List (Key × Value)} (z : kvs.length <= sizeLine) (hd : (a == sysModules) = false) (rel : KV kvs vs) (dd : h'.DictOf (Yl P w) a vs) :
 ObjOk P w H' h' a (.dK kvs) := ⟨z, hd, vs, rel, dd⟩
theorem ZcB {H' : Hp} {Q : Unit -> Shared -> Prop} (hu : A.units + 1 < cLine) (I : Inv X pins σ H s) (g : DPut H a y v H') (ry : RelV y u) (rv : RelV v r) (h : ∀ s', Inv X pins σ H' s' -> Q () s') :
 wpAny (model X.prog X.w) A (setItem (.ref a) u r) Q E s := by
 rcases g with ⟨kvs, k, e, ey, l, eH⟩ | ⟨kvs, k, b, e, ey, eb, l, eH⟩
 · subst ey eH
   obtain ⟨z, hd, vs, rel, dd⟩ := Ze2 I.hok e
   have hz : vs.length <= sizeLine := by rw [<- rel.length]; exact z
   have hl : (Z6 kvs k v).length <= sizeLine := by have := QT kvs k v; omega
   refine wpAny_setItem_pairs (hsz := hz) (Vs ry) dd fun h' dd' hs => h _ ?_
   have he : ∃ q, h'.get? a = some q := let ⟨q, _, _, hq, _⟩ := dd'; ⟨q, hq⟩
   exact QU I (by rw [e]; exact True.intro) hs he (Zdv hl hd (rel.put k rv) dd')
 · subst ey eH
   cases (show u = Value.ref b from ry)
   obtain ⟨z, hd, xs, rel, dd⟩ := Zgr I.hok e
   have hz : xs.length <= sizeLine := by rw [<- Paired.length rel]; exact z
   have hl : (Z6 kvs k v).length <= sizeLine := by have := QT kvs k v; omega
   refine wpAny_setItem_heap (hsz := hz) (tupleKind_room_in1 hu) (Ub I.hok eb) dd fun h' dd' hs => h _ ?_
   obtain ⟨q, es, ep, hq, h2, h3, h4, _, h5⟩ := dd'
   refine QU I (by rw [e]; exact True.intro) hs ⟨q, hq⟩ ⟨hl, hd, _, (rel.put k eb rv).keeps fun c ys ec => ?_, q, es, ep, hq, h2, h3, h4, h5⟩
   rw [Zj (Zgi ec e (fun z => nomatch z))]
   exact ec
end
section
variable {X : Cx} {pins : List (Addr × Obj)} {σ : St} {H : Hp} {s : Shared} {a : Addr} {kvs : List (Key × V)} {k : Key} {u : Value} {A : Around} {E : Value -> Shared -> Prop}
end
def Zhi (i : Expr) : Prop := ∀ ov iv, subscripted i false ov iv = operate [ov, iv] (getItem ov iv)
theorem Zd6 {prog : Program} {w : World} {A : Around} {E : Value -> Shared -> Prop} {s : Shared} {env : Env} {value slice : Expr} {pos : Pos} {T id : String} {Q : Value -> Shared -> Prop}
 (hl : typeLookup (.type T) "__getitem__" = pure (some (.builtin id))) (hs : Zhi slice)
 (h : wpAny (model prog w) A (eval value env) (fun o s₁ => wpAny (model prog w) A (eval slice env) (fun i s₂ => s₂.TypeIs o T /\ wpAny (model prog w) A (getItem o i) Q E s₂) E s₁) E s) :
 wpAny (model prog w) A (eval (.Subscript value slice pos) env) Q E s := by
 refine Subscript_ (wpAny_mono h (fun o s₁ h₁ => wpAny_mono h₁ (fun i s₂ h₂ => ?_) fun _ _ x => x) fun _ _ x => x)
 obtain ⟨hT, h₂⟩ := h₂
 unfold subscriptTail
 refine wpAny_bind ?_
 rw [getitemInPython_of_ne hT.not_modules]
 refine wpAny_bind (wpAny_specialOf hT hl ?_)
 have fin : wpAny (model prog w) A (subscripted slice false o i) (fun r s₃ => wpAny (model prog w) A (letTemporaryGo value o r >>= fun _ => pure r) Q E s₃) E s₂ := by
  rw [hs o i]
  exact wpAny_operating (wpAny_mono h₂ (fun r s₃ h₃ => wpAny_bind (wpAny_letTemporaryGo (wpAny_pure h₃))) fun _ _ x => x)
 first
  | exact wpAny_pure (wpAny_bind fin)
  | exact wpAny_bind (wpAny_pure (wpAny_bind fin))
  | exact wpAny_bind fin
theorem ZaT {X : Cx} {pins : List (Addr × Obj)} {σ : St} {H : Hp} {s : Shared} {a : Addr} {y : V} {o : Option V} (I : Inv X pins σ H s) (g : DGet H a y o) : s.TypeIs (.ref a) "dict" := by
 rcases g with ⟨kvs, k, e, _, _⟩ | ⟨kvs, k, b, e, _, _, _⟩
 · obtain ⟨_, _, vs, _, dd⟩ := Ua I.hok e
   exact dd.typeIs
 · obtain ⟨_, _, xs, _, dd⟩ := Uc I.hok e
   exact dd.typeIs
def Ze3 (td ty : TE) : TE := fun σ H Q => td σ H fun x H1 => ty σ H1 fun y H2 => ∃ a v, x = .ref a /\ DGet H2 a y (some v) /\ Q v H2
def Zhj (ty td : TE) : TE := fun σ H Q => ty σ H fun y H1 => td σ H1 fun x H2 => ∃ a o, x = .ref a /\ DGet H2 a y o /\ Q (.bl o.isSome) H2
def ZbR (ty td : TE) : TE := fun σ H Q => ty σ H fun y H1 => td σ H1 fun x H2 => ∃ a o, x = .ref a /\ DGet H2 a y o /\ Q (.bl (!o.isSome)) H2
def Ze4 (td ty tv : TE) : TS := fun D σ H => tv σ H fun v H1 => td σ H1 fun x H2 => ty σ H2 fun y H3 => ∃ a H4, x = .ref a /\ DPut H3 a y v H4 /\ D.nx σ H4
section
variable {X : Cx} {o i e value : Expr} {pos pos' tpos : Pos} {td ty tv : TE}
theorem ZbS (hu : X.A.units + 1 < cLine) (ho : PE X o td) (hi : PE X i ty) (hs : Zhi i) : PE X (.Subscript o i pos) (Ze3 td ty) := by
 intro pins s σ H Q I h
 refine Zd6 PySem.F.slot_dict_getitem.lookup hs (thn (ho pins s σ H _ I h) fun u s1 ⟨x, H1, I1, rx, q1⟩ => thn (hi pins s1 σ H1 _ I1 q1) fun iv s2 ⟨y, H2, I2, ry, a, v, ex, g, q2⟩ => ?_)
 subst ex
 obtain rfl : u = Value.ref a := rx
 exact ⟨ZaT I2 g, ZcA hu I2 g ry fun w' s3 I3 rw' => ⟨v, H2, I3, rw', q2⟩⟩
theorem Zdw (hu : X.A.units + 1 < cLine) (hi : PE X i ty) (ho : PE X o td) : PC X .In i o (Zhj ty td) := by
 intro pins s σ H Q I h
 refine thn (hi pins s σ H _ I h) fun iv s1 ⟨y, H1, I1, ry, q1⟩ => thn (ho pins s1 σ H1 _ I1 q1) fun u s2 ⟨x, H2, I2, rx, a, ov, ex, g, q2⟩ => ?_
 subst ex
 obtain rfl : u = Value.ref a := rx
 exact ZhE hu I2 g ry fun s3 I3 => ⟨.bl ov.isSome, H2, I3, rfl, q2⟩
theorem ZaA (hu : X.A.units + 1 < cLine) (hi : PE X i ty) (ho : PE X o td) : PC X .NotIn i o (ZbR ty td) := by
 intro pins s σ H Q I h
 refine thn (hi pins s σ H _ I h) fun iv s1 ⟨y, H1, I1, ry, q1⟩ => thn (ho pins s1 σ H1 _ I1 q1) fun u s2 ⟨x, H2, I2, rx, a, ov, ex, g, q2⟩ => ?_
 subst ex
 obtain rfl : u = Value.ref a := rx
 exact Zd5 hu I2 g ry fun s3 I3 => ⟨.bl (!ov.isSome), H2, I3, rfl, q2⟩
theorem QV (hu : X.A.units + 1 < cLine) (ho : PE X o td) (hi : PE X i ty) (hv : PE X value tv) (hs : swapsWith value (some (.Subscript o i pos')) pos.line X.env = pure false) :
 PS X (.Assign [.Subscript o i pos'] value pos) (Ze4 td ty tv) := by
 intro pins s σ H D I h
 refine wpAny_Assign_Subscript (thn (hv pins s σ H _ I h) fun r s1 ⟨v, H1, I1, rv, q1⟩ => thn (ho pins s1 σ H1 _ I1 q1) fun u s2 ⟨x, H2, I2, rx, q2⟩ => thn (hi pins s2 σ H2 _ I2 q2) fun iv s3 ⟨y, H3, I3, ry, a, H4, ex, g, q3⟩ => ?_) hs
 subst ex
 obtain rfl : u = Value.ref a := rx
 exact ZcB hu I3 g ry rv fun s4 I4 => ⟨σ, H4, I4, q3⟩
end
theorem Za5 {P : Program} {w : World} {H : Hp} (h : Heap) (hb : sysModules < h.objs.size) : ObjOk P w H (h.push { cls := .type "dict", data := .dict #[] }) h.objs.size (.dK []) :=
 ⟨Nat.zero_le _, beq_eq_false_iff_ne.mpr (Ne.symm (Nat.ne_of_lt hb)), [], .nil, Heap.DictOf.new h⟩
def tDNewK : TE := fun _ H Q => ∀ p, H p = none -> Q (.ref p) (upd H p (.dK []))
section
variable {X : Cx} {pos : Pos}
theorem Za6 : PE X (.Dict [] [] pos) tDNewK := fun pins s σ H Q I h =>
 wpAny_Dict_empty ⟨.ref s.heap.objs.size, _, I.laid (a := s.heap.objs.size) (o := .dK []) (t' := s.toks) (fun _ _ q => Heap.get?_push_of_some _ q) (Nat.le_refl _) (Za5 s.heap I.big), rfl, h _ (I.hok.fresh (Nat.le_refl _))⟩
end
def QW : List (TE × TE) -> St -> Hp -> (List (V × V) -> Hp -> Prop) -> Prop
 | [], _, H, Q => Q [] H
 | (tk, tv) :: r, σ, H, Q => tk σ H fun x H1 => tv σ H1 fun y H2 => QW r σ H2 fun ps H3 => Q ((x, y) :: ps) H3
abbrev VV : List (V × V) -> List (Value × Value) -> Prop := Paired fun p q => RelV p.1 q.1 /\ RelV p.2 q.2
def PPs (X : Cx) (pos : Pos) (keys : List (Option Expr)) (values : List Expr) (trs : List (TE × TE)) : Prop :=
 ∀ (pins : List (Addr × Obj)) (s : Shared) (σ : St) (H : Hp) (Q : List (V × V) -> Hp -> Prop), Inv X pins σ H s -> QW trs σ H Q ->
  wpAny (model X.prog X.w) X.A (evalPairs (pairTrees keys values X.env pos)) (fun vs s' => ∃ ps H', Inv X pins σ H' s' /\ VV ps vs /\ Q ps H') X.xe s
theorem Zd7 {X : Cx} {pos : Pos} : PPs X pos [] [] [] := fun pins s σ H Q I h => pairTrees_nil_walk ⟨[], H, I, .nil, h⟩
theorem Zc2 {X : Cx} {pos : Pos} {k v : Expr} {ks : List (Option Expr)} {vs : List Expr} {tk tv : TE} {trs : List (TE × TE)} (hk : PE X k tk) (hv : PE X v tv) (hr : PPs X pos ks vs trs) :
 PPs X pos (some k :: ks) (v :: vs) ((tk, tv) :: trs) := fun pins s σ H Q I h =>
 pairTrees_cons_walk (thn (hk pins s σ H _ I h) fun u s1 ⟨x, H1, I1, rx, q1⟩ => thn (hv pins s1 σ H1 _ I1 q1) fun w2 s2 ⟨y, H2, I2, ry, q2⟩ =>
  thn (hr pins s2 σ H2 _ I2 q2) fun ws s3 ⟨ps, H3, I3, rel, q3⟩ => ⟨(x, y) :: ps, H3, I3, .cons ⟨rx, ry⟩ rel, q3⟩)
def Vt (kvs more : List (Key × V)) : List (Key × V) := more.foldl (fun acc kv => Z6 acc kv.1 kv.2) kvs
theorem KV.merge : ∀ {more : List (Key × V)} {rs : List (Key × Value)} {kvs : List (Key × V)} {vs : List (Key × Value)}, KV more rs -> KV kvs vs -> KV (Vt kvs more) (merged vs rs) := by
 intro more rs kvs vs r
 unfold KV at r
 induction r generalizing kvs vs with
 | nil => intro q; exact q
 | @cons p q ps qs h t ih =>
  intro r0
  have e : KV (Z6 kvs p.1 p.2) (stored vs q.1 q.2) := by
   have := r0.put p.1 h.2
   rw [<- h.1]; exact this
  exact ih e
theorem Zab : ∀ (more kvs : List (Key × V)), (Vt kvs more).length <= kvs.length + more.length
 | [], kvs => by show kvs.length <= kvs.length + 0; omega
 | p :: r, kvs => by
  have h1 := Zab r (Z6 kvs p.1 p.2)
  have h2 := QT kvs p.1 p.2
  show (Vt (Z6 kvs p.1 p.2) r).length <= _
  rw [List.length_cons]; omega
theorem Zaj {P : Program} {w : World} : ∀ {kvs : List (Key × V)} {ws : List (Value × Value)}, VV (kvs.map fun kv => (kV kv.1, kv.2)) ws -> ∃ rs, Carries (Yl P w) ws rs /\ KV kvs rs
 | [], _, r => by rw [List.map_nil] at r; cases r; exact ⟨[], True.intro, .nil⟩
 | p :: kvs, _, r => by
  rw [List.map_cons] at r
  cases r with
  | @cons a b as bs h t =>
   obtain ⟨rs, c, q⟩ := Zaj (P := P) (w := w) t
   obtain ⟨b1, b2⟩ := b
   exact ⟨(p.1, b2) :: rs, ⟨Vs h.1, rfl, c⟩, .cons ⟨rfl, h.2⟩ q⟩
def Ze5 (trs : List (TE × TE)) : TE := fun σ H Q => ∀ p, H p = none -> QW trs σ (upd H p (.dK [])) fun ps H2 => H2 p = some (.dK []) /\ ∃ kvs : List (Key × V), ps = kvs.map (fun kv => (kV kv.1, kv.2)) /\ kvs.length <= 15 /\ Q (.ref p) (upd H2 p (.dK (Vt [] kvs)))
theorem Zd8 {X : Cx} {pos : Pos} {keys : List (Option Expr)} {values : List Expr} {trs : List (TE × TE)} (h : PPs X pos keys values trs) (hall : keys.all (·.isSome) = true) (hl : keys.length = values.length) (h0 : keys ≠ [])
 (h15 : keys.length <= 15) : PE X (.Dict keys values pos) (Ze5 trs) := by
 intro pins s σ H Q I q
 have hn := I.hok.fresh (Nat.le_refl s.heap.objs.size)
 have I1 := I.laid (a := s.heap.objs.size) (o := .dK []) (h' := s.heap.push { cls := .type "dict", data := .dict #[] }) (t' := s.toks) (fun _ _ q => Heap.get?_push_of_some _ q) (Nat.le_refl _) (Za5 s.heap I.big)
 refine wpAny_Dict_walk (knd := Yl X.prog X.w) hall hl h0 h15 (thn (h pins _ σ _ _ I1 (q _ hn)) fun ws s2 ⟨ps, H2, I2, rel, e, kvs, ep, lk, q2⟩ => ?_)
 subst ep
 obtain ⟨rs, c, rk⟩ := Zaj (P := X.prog) (w := X.w) rel
 obtain ⟨z, hd, vs0, r0, dd⟩ := Ze2 I2.hok e
 cases r0
 refine ⟨rs, c, dd, fun h' dd' hs => ⟨.ref s.heap.objs.size, _, ?_, rfl, q2⟩⟩
 have hz : (Vt [] kvs).length <= sizeLine := by
  have h1 := Zab kvs []
  rw [List.length_nil] at h1
  rw [sizeLine_eq]; omega
 have he : ∃ q, h'.get? s.heap.objs.size = some q := let ⟨q, _, _, hq, _⟩ := dd'; ⟨q, hq⟩
 exact QU I2 (by rw [e]; exact True.intro) hs he (Zdv hz hd (rk.merge .nil) dd')
structure M1 (X : Cx) (o : Expr) (m : Str) (apos : Pos) (e : Expr) (cpos : Pos) : Prop where
 base : attributeBase o m X.env (eval o X.env) = eval o X.env
 few : ((backTo cpos (starEach [e] X.env)).all (fun x => !x.1) && (backToKw cpos (keywordEach [] X.env)).all (fun x => x.1.isSome)
  && decide (([e] : List Expr).length + ([] : List Keyword).length + (if ([] : List Keyword).isEmpty then 0 else 1) < 30)) = true
 line : (apos.endLine == cpos.line) = true
 trees : backTo cpos (starEach [e] X.env) = [(false, eval e X.env)]
structure M2 (X : Cx) (o : Expr) (m : Str) (apos : Pos) (e f : Expr) (cpos : Pos) : Prop where
 base : attributeBase o m X.env (eval o X.env) = eval o X.env
 few : ((backTo cpos (starEach [e, f] X.env)).all (fun x => !x.1) && (backToKw cpos (keywordEach [] X.env)).all (fun x => x.1.isSome)
  && decide (([e, f] : List Expr).length + ([] : List Keyword).length + (if ([] : List Keyword).isEmpty then 0 else 1) < 30)) = true
 line : (apos.endLine == cpos.line) = true
 trees : backTo cpos (starEach [e, f] X.env) = [(false, eval e X.env), (false, eval f X.env)]
section
variable {X : Cx} {pins : List (Addr × Obj)} {σ : St} {H : Hp} {s : Shared} {a : Addr} {y d : V} {u r : Value} {o : Option V} {A : Around} {E : Value -> Shared -> Prop}
end
section
variable {X : Cx} {o e f : Expr} {apos cpos : Pos} {td ty tx : TE}
end
section
variable {X : Cx} {pins : List (Addr × Obj)} {σ : St} {H : Hp} {s : Shared} {a : Addr} {kvs : List (Key × V)} {A : Around} {E : Value -> Shared -> Prop}
end
section
variable {X : Cx} {pins : List (Addr × Obj)} {σ : St} {H : Hp} {s : Shared} {a : Addr} {y : V} {u : Value} {A : Around} {E : Value -> Shared -> Prop}
end
end L2
namespace DL
open PySem PySem.Spec L2
inductive D where
 | non
 | bl (b : Bool)
 | int (i : Int)
 | str (cs : List Nat)
 | lst (xs : List D)
 | tup (xs : List D)
 | obj (c : String) (ks : List String) (xs : List D)
 | dct (ks : List Key) (xs : List D)
 | dtt (ks : List (List Key)) (xs : List D)
def KL (K : PySem.W.Frag) (a : Addr) (vs : List V) : Prop := ∃ (o : Obj) (its : Array Value) (n : Nat), K.lookup a = some o /\ o.cls = .type "list" /\ o.dict = none /\ o.data = .seq its n /\ its.size <= sizeLine /\ Vals vs its.toList
structure Kn where
 c : String -> Addr
 K : PySem.W.Frag
def Zh : D -> Bool
 | .non => true
 | .bl _ => true
 | .int _ => true
 | .str _ => true
 | _ => false
mutual
def Rep (cA : Kn) (av : Addr -> Prop) (H : Hp) : D -> V -> Prop
 | .non, v => v = .non
 | .bl b, v => v = .bl b
 | .int i, v => v = .int i
 | .str cs, v => v = S cs
 | .lst xs, v => ∃ a vs, v = .ref a /\ (av a -> KL cA.K a vs) /\ SqL cA.K H a vs /\ RepL cA av H xs vs
 | .tup xs, v => ∃ a vs, v = .ref a /\ ¬ av a /\ H a = some (.tup vs) /\ RepL cA av H xs vs
 | .obj c ks xs, v => ∃ a dx vs, v = .ref a /\ ¬ av a /\ H a = some (.ins (cA.c c) dx ((ks.map Str.ofString).zip vs)) /\ ks.length = xs.length /\ RepL cA av H xs vs
 | .dct ks xs, v => ∃ a vs, v = .ref a /\ ¬ av a /\ H a = some (.dK (ks.zip vs)) /\ ks.length = xs.length /\ RepL cA av H xs vs
 | .dtt ks xs, v => ∃ a vs, v = .ref a /\ ¬ av a /\ H a = some (.dT (ks.zip vs)) /\ ks.length = xs.length /\ RepL cA av H xs vs
def RepL (cA : Kn) (av : Addr -> Prop) (H : Hp) : List D -> List V -> Prop
 | [], vs => vs = []
 | x :: xs, vs => ∃ v r, vs = v :: r /\ Rep cA av H x v /\ RepL cA av H xs r
end
section
variable {cA : Kn} {G : Cn} {av av' : Addr -> Prop} {H H' : Hp}
theorem Rd.ext {a : Addr} {u : HO} (h : Rd H a u) (k : ∀ o, H a = some o -> H' a = some o) : Rd H' a u := by
 rcases h with h | ⟨o, h⟩
 · exact .inl (k _ h)
 · exact .inr ⟨o, k _ h⟩
theorem Rd.there {a : Addr} {u : HO} (h : Rd H a u) : H a ≠ none := by
 rcases h with h | ⟨o, h⟩ <;> rw [h] <;> exact fun z => by cases z
theorem UT {K : PySem.W.Frag} {a : Addr} {vs : List V} (n : av a -> KL K a vs) (r : SqL K H a vs) (k : ∀ b o, ¬ av b -> H b = some o -> H' b = some o) : SqL K H' a vs := by
 by_cases h : av a
 · exact .inr (n h)
 · rcases r with r | r
   · exact .inl (Rd.ext r fun o => k a o h)
   · exact .inr r
theorem Zgs {K : PySem.W.Frag} {a : Addr} {vs : List V} (n : av a -> KL K a vs) (r : SqL K H a vs) (k : ∀ b, av' b -> av b \/ H b = none) : av' a -> KL K a vs := fun z => by
 rcases k a z with z | z
 · exact n z
 · rcases r with r | r
   · exact absurd z (Rd.there r)
   · exact r
mutual
theorem Rep.ext : ∀ {d : D} {v : V}, (∀ b o, ¬ av b -> H b = some o -> H' b = some o) -> Rep cA av H d v -> Rep cA av H' d v
 | .non, _, _, h => h
 | .bl _, _, _, h => h
 | .int _, _, _, h => h
 | .str _, _, _, h => h
 | .lst xs, v, k, h => by
  unfold Rep at h ⊢
  obtain ⟨a, vs, e, n, r, l⟩ := h
  exact ⟨a, vs, e, n, UT n r k, RepL.ext k l⟩
 | .tup xs, v, k, h => by
  unfold Rep at h ⊢
  obtain ⟨a, vs, e, n, r, l⟩ := h
  exact ⟨a, vs, e, n, k a _ n r, RepL.ext k l⟩
 | .obj c ks xs, v, k, h => by
  unfold Rep at h ⊢
  obtain ⟨a, dx, vs, e, n, r, z, l⟩ := h
  exact ⟨a, dx, vs, e, n, k a _ n r, z, RepL.ext k l⟩
 | .dct ks xs, v, k, h => by
  unfold Rep at h ⊢
  obtain ⟨a, vs, e, n, r, z, l⟩ := h
  exact ⟨a, vs, e, n, k a _ n r, z, RepL.ext k l⟩
 | .dtt ks xs, v, k, h => by
  unfold Rep at h ⊢
  obtain ⟨a, vs, e, n, r, z, l⟩ := h
  exact ⟨a, vs, e, n, k a _ n r, z, RepL.ext k l⟩
theorem RepL.ext : ∀ {xs : List D} {vs : List V}, (∀ b o, ¬ av b -> H b = some o -> H' b = some o) -> RepL cA av H xs vs -> RepL cA av H' xs vs
 | [], _, _, h => h
 | x :: xs, vs, k, h => by
  unfold RepL at h ⊢
  obtain ⟨v, r, e, h1, h2⟩ := h
  exact ⟨v, r, e, Rep.ext k h1, RepL.ext k h2⟩
end
mutual
theorem Rep.av : ∀ {d : D} {v : V}, (∀ b, av' b -> av b \/ H b = none) -> Rep cA av H d v -> Rep cA av' H d v
 | .non, _, _, h => h
 | .bl _, _, _, h => h
 | .int _, _, _, h => h
 | .str _, _, _, h => h
 | .lst xs, v, k, h => by
  unfold Rep at h ⊢
  obtain ⟨a, vs, e, n, r, l⟩ := h
  exact ⟨a, vs, e, Zgs n r k, r, RepL.av k l⟩
 | .tup xs, v, k, h => by
  unfold Rep at h ⊢
  obtain ⟨a, vs, e, n, r, l⟩ := h
  exact ⟨a, vs, e, fun z => (k a z).elim n (by rw [r]; exact fun z => by cases z), r, RepL.av k l⟩
 | .obj c ks xs, v, k, h => by
  unfold Rep at h ⊢
  obtain ⟨a, dx, vs, e, n, r, z, l⟩ := h
  exact ⟨a, dx, vs, e, fun y => (k a y).elim n (by rw [r]; exact fun z => by cases z), r, z, RepL.av k l⟩
 | .dct ks xs, v, k, h => by
  unfold Rep at h ⊢
  obtain ⟨a, vs, e, n, r, z, l⟩ := h
  exact ⟨a, vs, e, fun y => (k a y).elim n (by rw [r]; exact fun z => by cases z), r, z, RepL.av k l⟩
 | .dtt ks xs, v, k, h => by
  unfold Rep at h ⊢
  obtain ⟨a, vs, e, n, r, z, l⟩ := h
  exact ⟨a, vs, e, fun y => (k a y).elim n (by rw [r]; exact fun z => by cases z), r, z, RepL.av k l⟩
theorem RepL.av : ∀ {xs : List D} {vs : List V}, (∀ b, av' b -> av b \/ H b = none) -> RepL cA av H xs vs -> RepL cA av' H xs vs
 | [], _, _, h => h
 | x :: xs, vs, k, h => by
  unfold RepL at h ⊢
  obtain ⟨v, r, e, h1, h2⟩ := h
  exact ⟨v, r, e, Rep.av k h1, RepL.av k h2⟩
end
theorem Rep.scal {d : D} {v : V} (hs : Zh d = true) (h : Rep cA av H d v) : Rep cA av' H' d v := by
 cases d <;> first | exact h | cases hs
theorem Rep.same {d : D} {v : V} (k : Same H H') (h : Rep cA av H d v) : Rep cA av H' d v := h.ext fun b o _ => k b o
theorem RepL.same {xs : List D} {vs : List V} (k : Same H H') (h : RepL cA av H xs vs) : RepL cA av H' xs vs := h.ext fun b o _ => k b o
theorem RepL.nil : RepL cA av H [] [] := by unfold RepL; rfl
theorem RepL.cons {d : D} {v : V} {xs : List D} {vs : List V} (h : Rep cA av H d v) (t : RepL cA av H xs vs) : RepL cA av H (d :: xs) (v :: vs) := by
 unfold RepL
 exact ⟨v, vs, rfl, h, t⟩
theorem RepL.uncons {d : D} {xs : List D} {vs : List V} (h : RepL cA av H (d :: xs) vs) : ∃ v r, vs = v :: r /\ Rep cA av H d v /\ RepL cA av H xs r := by
 unfold RepL at h
 exact h
theorem RepL.nil_of {vs : List V} (h : RepL cA av H [] vs) : vs = [] := by
 unfold RepL at h
 exact h
theorem RepL.length : ∀ {xs : List D} {vs : List V}, RepL cA av H xs vs -> xs.length = vs.length
 | [], vs, h => by rw [h.nil_of]; rfl
 | x :: xs, vs, h => by
  obtain ⟨v, r, rfl, _, t⟩ := h.uncons
  rw [List.length_cons, List.length_cons, RepL.length t]
theorem RepL.get : ∀ {xs : List D} {vs : List V} {i : Nat} {x : D}, RepL cA av H xs vs -> xs[i]? = some x -> ∃ v, vs[i]? = some v /\ Rep cA av H x v
 | [], _, _, _, _, e => by simp at e
 | y :: xs, vs, 0, x, h, e => by
  obtain ⟨v, r, rfl, h1, _⟩ := h.uncons
  simp at e; subst e
  exact ⟨v, rfl, h1⟩
 | y :: xs, vs, i + 1, x, h, e => by
  obtain ⟨v, r, rfl, _, t⟩ := h.uncons
  obtain ⟨u, h1, h2⟩ := RepL.get (i := i) t (by simpa using e)
  exact ⟨u, by simpa using h1, h2⟩
theorem RepL.append : ∀ {xs ys : List D} {vs ws : List V}, RepL cA av H xs vs -> RepL cA av H ys ws -> RepL cA av H (xs ++ ys) (vs ++ ws)
 | [], _, vs, _, h, t => by rw [h.nil_of]; exact t
 | x :: xs, ys, vs, ws, h, t => by
  obtain ⟨v, r, rfl, h1, h2⟩ := h.uncons
  exact .cons h1 (RepL.append h2 t)
theorem RepL.set {d : D} {v : V} (hd : Rep cA av H d v) : ∀ {xs : List D} {vs : List V} (i : Nat), RepL cA av H xs vs -> RepL cA av H (xs.set i d) (vs.set i v)
 | [], vs, _, h => by rw [h.nil_of]; exact .nil
 | x :: xs, vs, 0, h => by
  obtain ⟨v', r, rfl, h1, h2⟩ := h.uncons
  exact .cons hd h2
 | x :: xs, vs, i + 1, h => by
  obtain ⟨v', r, rfl, h1, h2⟩ := h.uncons
  exact .cons h1 (RepL.set hd i h2)
def val : D -> V
 | .bl b => .bl b
 | .int i => .int i
 | .str cs => S cs
 | _ => .non
theorem Rep.val {d : D} {v : V} (hs : Zh d = true) (h : Rep cA av H d v) : v = DL.val d := by
 cases d <;> first | exact h | cases hs
theorem Rep.of_val {d : D} (hs : Zh d = true) : Rep cA av H d (DL.val d) := by
 cases d <;> first | rfl | cases hs
theorem RepL.vals : ∀ {xs : List D} {vs : List V}, xs.all Zh = true -> RepL cA av H xs vs -> vs = xs.map DL.val
 | [], vs, _, h => h.nil_of
 | x :: xs, vs, hs, h => by
  rw [List.all_cons, Bool.and_eq_true] at hs
  obtain ⟨v, r, rfl, h1, h2⟩ := h.uncons
  rw [List.map_cons, h1.val hs.1, RepL.vals hs.2 h2]
theorem RepL.of_vals : ∀ {xs : List D}, xs.all Zh = true -> RepL cA av H xs (xs.map DL.val)
 | [], _ => .nil
 | x :: xs, hs => by
  rw [List.all_cons, Bool.and_eq_true] at hs
  exact .cons (.of_val hs.1) (RepL.of_vals hs.2)
def RepT (cA : Kn) (t i : Addr -> Prop) (H : Hp) : D -> V -> Prop
 | .lst xs, v => ∃ a vs, v = .ref a /\ (t a -> KL cA.K a vs) /\ SqL cA.K H a vs /\ RepL cA i H xs vs
 | .tup xs, v => ∃ a vs, v = .ref a /\ ¬ t a /\ H a = some (.tup vs) /\ RepL cA i H xs vs
 | .obj c ks xs, v => ∃ a dx vs, v = .ref a /\ ¬ t a /\ H a = some (.ins (cA.c c) dx ((ks.map Str.ofString).zip vs)) /\ ks.length = xs.length /\ RepL cA i H xs vs
 | .dct ks xs, v => ∃ a vs, v = .ref a /\ ¬ t a /\ H a = some (.dK (ks.zip vs)) /\ ks.length = xs.length /\ RepL cA i H xs vs
 | .dtt ks xs, v => ∃ a vs, v = .ref a /\ ¬ t a /\ H a = some (.dT (ks.zip vs)) /\ ks.length = xs.length /\ RepL cA i H xs vs
 | d, v => v = DL.val d
theorem Rep.t {d : D} {v : V} (h : Rep cA av H d v) : RepT cA av av H d v := by
 cases d <;> first | exact h | (unfold Rep at h; exact h)
theorem RepT.r {d : D} {v : V} (h : RepT cA av av H d v) : Rep cA av H d v := by
 cases d <;> first | exact h | (unfold Rep; exact h)
theorem RepT.weak {t t' i i' : Addr -> Prop} {d : D} {v : V} (ht : ∀ a, t' a -> t a) (hi : ∀ a, i' a -> i a) (h : RepT cA t i H d v) : RepT cA t' i' H d v := by
 cases d with
 | lst xs => obtain ⟨a, vs, e, n, r, l⟩ := h; exact ⟨a, vs, e, fun z => n (ht a z), r, l.av fun b z => .inl (hi b z)⟩
 | tup xs => obtain ⟨a, vs, e, n, r, l⟩ := h; exact ⟨a, vs, e, fun z => n (ht a z), r, l.av fun b z => .inl (hi b z)⟩
 | obj c ks xs => obtain ⟨a, dx, vs, e, n, r, z, l⟩ := h; exact ⟨a, dx, vs, e, fun z => n (ht a z), r, z, l.av fun b z => .inl (hi b z)⟩
 | dct ks xs => obtain ⟨a, vs, e, n, r, z, l⟩ := h; exact ⟨a, vs, e, fun z => n (ht a z), r, z, l.av fun b z => .inl (hi b z)⟩
 | dtt ks xs => obtain ⟨a, vs, e, n, r, z, l⟩ := h; exact ⟨a, vs, e, fun z => n (ht a z), r, z, l.av fun b z => .inl (hi b z)⟩
 | _ => exact h
theorem RepT.same {t i : Addr -> Prop} {d : D} {v : V} (k : Same H H') (h : RepT cA t i H d v) : RepT cA t i H' d v := by
 cases d with
 | lst xs => obtain ⟨a, vs, e, n, r, l⟩ := h; exact ⟨a, vs, e, n, k.seq r, l.same k⟩
 | tup xs => obtain ⟨a, vs, e, n, r, l⟩ := h; exact ⟨a, vs, e, n, k a _ r, l.same k⟩
 | obj c ks xs => obtain ⟨a, dx, vs, e, n, r, z, l⟩ := h; exact ⟨a, dx, vs, e, n, k a _ r, z, l.same k⟩
 | dct ks xs => obtain ⟨a, vs, e, n, r, z, l⟩ := h; exact ⟨a, vs, e, n, k a _ r, z, l.same k⟩
 | dtt ks xs => obtain ⟨a, vs, e, n, r, z, l⟩ := h; exact ⟨a, vs, e, n, k a _ r, z, l.same k⟩
 | _ => exact h
end
abbrev Env := List (Option D)
structure Cn where
 cA : Kn
 pin : Nat -> Option (Addr ⊕ V)
def AV (av : Addr -> Prop) (A : Nat -> Option Addr) (a : Addr) : Prop := av a \/ ∃ i, A i = some a
def Own (cA : Kn) (av : Addr -> Prop) (H : Hp) : D -> Addr -> Prop
 | .lst xs, a => ∃ vs, H a = some (.lst vs) /\ RepL cA av H xs vs
 | .obj c ks xs, a => ∃ dx vs, H a = some (.ins (cA.c c) dx ((ks.map Str.ofString).zip vs)) /\ ks.length = xs.length /\ RepL cA av H xs vs
 | .dct ks xs, a => ∃ vs, H a = some (.dK (ks.zip vs)) /\ ks.length = xs.length /\ RepL cA av H xs vs
 | .dtt ks xs, a => ∃ vs, H a = some (.dT (ks.zip vs)) /\ ks.length = xs.length /\ RepL cA av H xs vs
 | _, _ => False
structure ER (G : Cn) (ow : List Nat) (H0 : Hp) (av : Addr -> Prop) (A : Nat -> Option Addr) (σ : St) (H : Hp) (δ : Env) : Prop where
 same : Same H0 H
 avd : ∀ a, av a -> H0 a ≠ none
 fr : ∀ i a, A i = some a -> H0 a = none
 inj : ∀ i j a, A i = some a -> A j = some a -> i = j
 live : ∀ i a, A i = some a -> H a ≠ none
 dom : ∀ i, A i ≠ none -> i ∈ ow
 dom' : ∀ i ∈ ow, A i ≠ none
 len : σ.length = δ.length
 pin : ∀ i a, G.2 i = some (.inl a) -> A i = some a
 kept : ∀ i v, G.2 i = some (.inr v) -> σ[i]? = some (some v)
 var : ∀ (i : Nat) (d : D), δ[i]? = some (some d) -> ∃ v, σ[i]? = some (some v) /\ (A i = none -> Rep G.1 (AV av A) H d v) /\ (∀ a, A i = some a -> v = .ref a /\ Own G.1 (AV av A) H d a)
inductive Ql where
 | cl | tp | dt
def RepQ (cA : Kn) (av : Addr -> Prop) (A : Nat -> Option Addr) (H : Hp) : Ql -> D -> V -> Prop
 | .cl, d, v => RepT cA (AV av A) (AV av A) H d v
 | .tp, d, v => RepT cA av (AV av A) H d v
 | .dt, d, v => RepT cA av av H d v
def Ql.it : Ql -> Ql
 | .dt => .dt
 | _ => .cl
section
variable {cA : Kn} {G : Cn} {ow : List Nat} {H0 H H' : Hp} {av : Addr -> Prop} {A : Nat -> Option Addr} {σ : St} {δ : Env}
theorem AV.l {a : Addr} (h : av a) : AV av A a := .inl h
def Ql.iv (q : Ql) (av : Addr -> Prop) (A : Nat -> Option Addr) : Addr -> Prop := match q with
 | .dt => av
 | _ => AV av A
theorem RepQ.tp {q : Ql} {d : D} {v : V} (h : RepQ cA av A H q d v) : RepT cA av (q.iv av A) H d v := by
 cases q with
 | cl => exact h.weak (fun a => .inl) fun a z => z
 | tp => exact h
 | dt => exact h
theorem RepQ.any {q : Ql} {d : D} {v : V} (h : RepQ cA av A H q d v) : Rep cA av H d v := by
 cases q with
 | cl => exact (h.weak (fun a => .inl) fun a => .inl).r
 | tp => exact (h.weak (fun a z => z) fun a => .inl).r
 | dt => exact h.r
theorem RepQ.same {q : Ql} {d : D} {v : V} (k : Same H H') (h : RepQ cA av A H q d v) : RepQ cA av A H' q d v := by
 cases q <;> exact RepT.same k h
theorem ER.mono (E : ER G ow H0 av A σ H δ) (k : Same H H') : ER G ow H0 av A σ H' δ := by
 refine ⟨E.same.trans k, E.avd, E.fr, E.inj, fun i a e => ?_, E.dom, E.dom', E.len, E.pin, E.kept, fun i d e => ?_⟩
 · have := E.live i a e
   cases q : H a with
   | none => exact absurd q this
   | some o => rw [k a o q]; exact fun z => by cases z
 · obtain ⟨v, h1, h2, h3⟩ := E.var i d e
   refine ⟨v, h1, fun z => (h2 z).same k, fun a z => ⟨(h3 a z).1, ?_⟩⟩
   have := (h3 a z).2
   cases d with
   | lst xs => obtain ⟨vs, q1, q2⟩ := this; exact ⟨vs, k _ _ q1, q2.same k⟩
   | obj c ks xs => obtain ⟨dx, vs, q1, q0, q2⟩ := this; exact ⟨dx, vs, k _ _ q1, q0, q2.same k⟩
   | dct ks xs => obtain ⟨vs, q1, q0, q2⟩ := this; exact ⟨vs, k _ _ q1, q0, q2.same k⟩
   | dtt ks xs => obtain ⟨vs, q1, q0, q2⟩ := this; exact ⟨vs, k _ _ q1, q0, q2.same k⟩
   | _ => exact this
theorem ER.avl (E : ER G ow H0 av A σ H δ) : ∀ a, AV av A a -> H a ≠ none := fun a h => by
 rcases h with h | ⟨i, h⟩
 · have := E.avd a h
   cases q : H0 a with
   | none => exact absurd q this
   | some o => rw [E.same a o q]; exact fun z => by cases z
 · exact E.live i a h
theorem ER.avH (E : ER G ow H0 av A σ H δ) : ∀ a, av a -> H a ≠ none := fun a h => E.avl a (.inl h)
end
def VE (G : Cn) (ow : List Nat) (te : TE) (q : Ql) (ε : Env -> Option D) : Prop :=
 ∀ H0 av A σ H δ, ER G ow H0 av A σ H δ -> ∀ d, ε δ = some d -> ∀ Q : VK, (∀ v H', Same H H' -> RepQ G.1 av A H' q d v -> Q v H') -> te σ H Q
def VF (G : Cn) (ow : List Nat) (te : TE) (ε : Env -> Option D) : Prop :=
 ∀ H0 av A σ H δ, ER G ow H0 av A σ H δ -> ∀ d, ε δ = some d -> ∀ Q : VK, (∀ p vs xs H1, Same H H1 -> H1 p = none -> RepL G.1 (AV av A) H1 xs vs -> d = .lst xs -> Q (.ref p) (upd H1 p (.lst vs))) -> te σ H Q
def VT (G : Cn) (ow : List Nat) (tt : TT) (τ : Env -> Option Bool) : Prop :=
 ∀ H0 av A σ H δ, ER G ow H0 av A σ H δ -> ∀ b, τ δ = some b -> ∀ Q : Bool -> Hp -> Prop, (∀ H', Same H H' -> Q b H') -> tt σ H Q
def RepQL (cA : Kn) (av : Addr -> Prop) (A : Nat -> Option Addr) (H : Hp) (q : Ql) : List D -> List V -> Prop
 | [], vs => vs = []
 | x :: xs, vs => ∃ v r, vs = v :: r /\ RepQ cA av A H q x v /\ RepQL cA av A H q xs r
def VA (G : Cn) (ow : List Nat) (ta : TA) (q : Ql) (α : Env -> Option (List D)) : Prop :=
 ∀ H0 av A σ H δ, ER G ow H0 av A σ H δ -> ∀ ds, α δ = some ds -> ∀ Q : List V -> Hp -> Prop, (∀ vs H', Same H H' -> RepQL G.1 av A H' q ds vs -> Q vs H') -> ta σ H Q
section
variable {cA : Kn} {G : Cn} {ow : List Nat}
theorem RepQL.same {av : Addr -> Prop} {A : Nat -> Option Addr} {H H' : Hp} {q : Ql} (k : Same H H') : ∀ {xs : List D} {vs : List V}, RepQL cA av A H q xs vs -> RepQL cA av A H' q xs vs
 | [], _, h => h
 | x :: xs, vs, h => by
  obtain ⟨v, r, e, h1, h2⟩ := h
  exact ⟨v, r, e, h1.same k, RepQL.same k h2⟩
theorem RepQL.cl {av : Addr -> Prop} {A : Nat -> Option Addr} {H : Hp} : ∀ {xs : List D} {vs : List V}, RepQL cA av A H .cl xs vs -> RepL cA (AV av A) H xs vs
 | [], _, h => by unfold RepL; exact h
 | x :: xs, vs, h => by
  obtain ⟨v, r, e, h1, h2⟩ := h
  subst e
  exact .cons (RepT.r h1) (RepQL.cl h2)
theorem RepQL.any {av : Addr -> Prop} {A : Nat -> Option Addr} {H : Hp} {q : Ql} : ∀ {xs : List D} {vs : List V}, RepQL cA av A H q xs vs -> RepL cA av H xs vs
 | [], _, h => by unfold RepL; exact h
 | x :: xs, vs, h => by
  obtain ⟨v, r, e, h1, h2⟩ := h
  subst e
  exact .cons h1.any (RepQL.any h2)
theorem VE.dt {te : TE} {q : Ql} {ε : Env -> Option D} (h : VE G ow te q ε) : VE G ow te .dt ε := fun H0 av A σ H δ E d e Q k =>
 h H0 av A σ H δ E d e Q fun v H' s r => k v H' s r.any.t
theorem Yb {H : Hp} {p : Addr} {o : HO} (h : H p = none) : Same H (upd H p o) := Zc1 h
theorem VF.cl {te : TE} {ε : Env -> Option D} (h : VF G ow te ε) : VE G ow te .cl ε := fun H0 av A σ H δ E d e Q k =>
 h H0 av A σ H δ E d e Q fun p vs xs H1 s hp l hd => by
  subst hd
  refine k _ _ (s.trans (Yb hp)) ⟨p, vs, rfl, fun z => ((E.mono s).avl p z hp).elim, SqL.of ZB, l.same (Yb hp)⟩
def Y0 (ε : Env -> Option D) (δ : Env) : Option D := match ε δ with
 | some d => if Zh d then some d else none
 | none => none
theorem VE.scal {te : TE} {q : Ql} {ε : Env -> Option D} (h : VE G ow te q ε) : VE G ow te .cl (Y0 ε) := fun H0 av A σ H δ E d e Q k => by
 unfold Y0 at e
 cases he : ε δ with
 | none => rw [he] at e; cases e
 | some d' =>
  rw [he] at e
  by_cases hs : Zh d' = true
  · have e' : d' = d := by simpa [hs] using e
    subst e'
    exact h H0 av A σ H δ E d' he Q fun v H' s r => k v H' s (Rep.scal hs r.any).t
  · simp [hs] at e
def Za (i : Nat) (δ : Env) : Option D := match δ[i]? with
 | some (some d) => some d
 | _ => none
theorem YH {i : Nat} {δ : Env} {d : D} (h : Za i δ = some d) : δ[i]? = some (some d) := by
 unfold Za at h
 cases e : δ[i]? with
 | none => rw [e] at h; cases h
 | some o =>
  rw [e] at h
  cases o with
  | none => cases h
  | some x => exact congrArg (some ∘ some) (Option.some.inj h)
theorem Zc (i : Nat) (hi : (ow.contains i) = false) : VE G ow (Ym i) .cl (Za i) := fun H0 av A σ H δ E d e Q k => by
 obtain ⟨v, h1, h2, _⟩ := E.var i d (YH e)
 have hn : A i = none := by
  cases q : A i with
  | none => rfl
  | some a =>
   have := E.dom i (by rw [q]; exact fun z => by cases z)
   simp at hi
   exact absurd this hi
 exact ⟨v, h1, k v H (Same.refl H) (h2 hn).t⟩
theorem Xy (i : Nat) (hi : (ow.contains i) = true) : VE G ow (Ym i) .tp (Za i) := fun H0 av A σ H δ E d e Q k => by
 obtain ⟨v, h1, _, h3⟩ := E.var i d (YH e)
 have hi' : i ∈ ow := by simpa using hi
 cases q : A i with
 | none => exact absurd q (E.dom' i hi')
 | some a =>
  obtain ⟨rfl, o⟩ := h3 a q
  have na : ¬ av a := fun z => E.avd a z (E.fr i a q)
  refine ⟨_, h1, k _ H (Same.refl H) ?_⟩
  cases d with
  | lst xs => obtain ⟨vs, q1, q2⟩ := o; exact ⟨a, vs, rfl, fun z => (na z).elim, SqL.of q1, q2⟩
  | obj c ks xs => obtain ⟨dx, vs, q1, q0, q2⟩ := o; exact ⟨a, dx, vs, rfl, na, q1, q0, q2⟩
  | dct ks xs => obtain ⟨vs, q1, q0, q2⟩ := o; exact ⟨a, vs, rfl, na, q1, q0, q2⟩
  | dtt ks xs => obtain ⟨vs, q1, q0, q2⟩ := o; exact ⟨a, vs, rfl, na, q1, q0, q2⟩
  | _ => exact False.elim o
def eC (d : D) (_ : Env) : Option D := some d
theorem Zw {v : V} {d : D} (hs : Zh d = true) (hv : v = val d) : VE G ow (tC v) .cl (eC d) := fun H0 av A σ H δ E d' e Q k => by
 have e' : d = d' := Option.some.inj e
 subst e' hv
 exact k _ H (Same.refl H) (Rep.of_val hs).t
def YS (cA : Kn) (r : R2) (f : D -> D -> Option D) : Prop :=
 ∀ (t t' i : Addr -> Prop) (H : Hp) (x y : D) (vx vy : V) (d : D), (∀ a, i a -> H a ≠ none) -> RepT cA t i H x vx -> RepT cA t' i H y vy -> f x y = some d -> ∀ Q : VK, (∀ v H', Same H H' -> Rep cA i H' d v -> Q v H') -> r vx vy H Q
def eOp (f : D -> D -> Option D) (a b : Env -> Option D) (δ : Env) : Option D := match a δ with
 | some x => match b δ with
  | some y => f x y
  | none => none
 | none => none
theorem UU {f : D -> D -> Option D} {a b : Env -> Option D} {δ : Env} {d : D} (h : eOp f a b δ = some d) : ∃ x y, a δ = some x /\ b δ = some y /\ f x y = some d := by
 unfold eOp at h
 cases ea : a δ with
 | none => rw [ea] at h; cases h
 | some x =>
  rw [ea] at h
  cases eb : b δ with
  | none => rw [eb] at h; cases h
  | some y => rw [eb] at h; exact ⟨x, y, rfl, rfl, h⟩
def Ql.jn : Ql -> Ql -> Ql
 | .dt, _ => .dt
 | _, .dt => .dt
 | _, _ => .cl
theorem Zn {r : R2} {f : D -> D -> Option D} {ta tb : TE} {qa qb : Ql} {a b : Env -> Option D} (hr : YS G.1 r f) (ha : VE G ow ta qa a) (hb : VE G ow tb qb b) : VE G ow (tOp r ta tb) (qa.jn qb) (eOp f a b) := fun H0 av A σ H δ E d e Q k => by
 obtain ⟨x, y, ex, ey, ed⟩ := UU e
 refine ha H0 av A σ H δ E x ex _ fun vx H1 s1 r1 => hb H0 av A σ H1 δ (E.mono s1) y ey _ fun vy H2 s2 r2 => ?_
 have E2 := (E.mono s1).mono s2
 have r1' := (r1.same s2).tp
 have r2' := r2.tp
 have key : ∀ i : Addr -> Prop, (∀ a, i a -> H2 a ≠ none) -> RepT G.1 av i H2 x vx -> RepT G.1 av i H2 y vy -> (∀ v H', Same H2 H' -> Rep G.1 i H' d v -> Q v H') -> r vx vy H2 Q := fun i hi h1 h2 h3 => hr av av i H2 x y vx vy d hi h1 h2 ed Q h3
 have toav : ∀ {dd : D} {v : V}, RepT G.1 av (AV av A) H2 dd v -> RepT G.1 av av H2 dd v := fun h => h.weak (fun a z => z) fun a => .inl
 cases qa with
 | dt =>
  refine key av E2.avH r1' ?_ fun v H' s3 r3 => k v H' ((s1.trans s2).trans s3) r3.t
  cases qb with
  | dt => exact r2'
  | cl => exact toav r2'
  | tp => exact toav r2'
 | cl =>
  cases qb with
  | dt => exact key av E2.avH (toav r1') r2' fun v H' s3 r3 => k v H' ((s1.trans s2).trans s3) r3.t
  | cl => exact key _ E2.avl r1' r2' fun v H' s3 r3 => k v H' ((s1.trans s2).trans s3) r3.t
  | tp => exact key _ E2.avl r1' r2' fun v H' s3 r3 => k v H' ((s1.trans s2).trans s3) r3.t
 | tp =>
  cases qb with
  | dt => exact key av E2.avH (toav r1') r2' fun v H' s3 r3 => k v H' ((s1.trans s2).trans s3) r3.t
  | cl => exact key _ E2.avl r1' r2' fun v H' s3 r3 => k v H' ((s1.trans s2).trans s3) r3.t
  | tp => exact key _ E2.avl r1' r2' fun v H' s3 r3 => k v H' ((s1.trans s2).trans s3) r3.t
end
end DL
namespace DL
open PySem PySem.Spec L2
mutual
def toP : D -> PyData
 | .non => .none
 | .bl b => .bool b
 | .int i => .int i
 | .str cs => .str (tx cs)
 | .lst xs => .list (Z4 xs)
 | .tup xs => .tuple (Z4 xs)
 | .obj _ _ _ => .dict []
 | .dct _ _ => .dict []
 | .dtt _ _ => .dict []
def Z4 : List D -> List PyData
 | [] => []
 | x :: xs => toP x :: Z4 xs
end
section
variable {X : Cx} {cA : Kn}
mutual
theorem Ud {pins : List (Addr × Obj)} {σ : L2.St} {H : Hp} {s : Shared} {av : Addr -> Prop} (hK : cA.K = X.K) (I : Inv X pins σ H s) : ∀ (d : D) (v : V) (u : Value), PyData.canLay0 (toP d) = true -> Rep cA av H d v -> RelV v u -> ∃ as, Reads s.heap u (toP d) as
 | .non, v, u, _, h, r => by
  cases (show v = .non from h); cases r
  exact ⟨_, .none⟩
 | .bl b, v, u, _, h, r => by
  cases (show v = .bl b from h); cases r
  exact ⟨_, .bool b⟩
 | .int i, v, u, _, h, r => by
  cases (show v = .int i from h)
  obtain ⟨t, rfl⟩ := r
  exact ⟨_, .int i t⟩
 | .str cs, v, u, _, h, r => by
  cases (show v = S cs from h)
  obtain ⟨t, rfl⟩ := r
  exact ⟨_, .str _ t⟩
 | .lst xs, v, u, c, h, r => by
  unfold Rep at h
  obtain ⟨a, vs, rfl, _, rd, l⟩ := h
  cases r
  obtain ⟨its, rv, ⟨ob, n, e, hc, hd, hs⟩, z⟩ := I.list (show SqL X.K H a vs from hK ▸ rd)
  obtain ⟨as, ra⟩ := QX hK I xs vs its (by unfold toP PyData.canLay0 at c; exact c) l rv
  unfold toP
  exact ⟨_, .list e hc hs (by simpa using ra)⟩
 | .tup xs, v, u, c, h, r => by
  unfold Rep at h
  obtain ⟨a, vs, rfl, _, rd, l⟩ := h
  cases r
  obtain ⟨z, its, rv, ob, e, hc, ⟨n, hd⟩, _⟩ := (show ObjOk X.prog X.w H s.heap a (.tup vs) from I.hok a _ rd)
  obtain ⟨as, ra⟩ := QX hK I xs vs its (by unfold toP PyData.canLay0 at c; exact c) l rv
  unfold toP
  exact ⟨_, .tuple e hc hd (by simpa using ra)⟩
 | .obj c' ks xs, v, u, c, h, r => by
  unfold toP PyData.canLay0 at c
  cases c
 | .dct ks xs, v, u, c, h, r => by
  unfold toP PyData.canLay0 at c
  cases c
 | .dtt ks xs, v, u, c, h, r => by
  unfold toP PyData.canLay0 at c
  cases c
theorem QX {pins : List (Addr × Obj)} {σ : L2.St} {H : Hp} {s : Shared} {av : Addr -> Prop} (hK : cA.K = X.K) (I : Inv X pins σ H s) : ∀ (xs : List D) (vs : List V) (us : List Value), PyData.canLayAll0 (Z4 xs) = true -> RepL cA av H xs vs -> Vals vs us -> ∃ as, ReadsAll s.heap us (Z4 xs) as
 | [], vs, us, _, h, r => by
  rw [h.nil_of] at r
  cases r
  exact ⟨_, .nil⟩
 | x :: xs, vs, us, c, h, r => by
  obtain ⟨v, rr, rfl, h1, h2⟩ := h.uncons
  cases r with
  | cons r1 r2 =>
   unfold Z4 PyData.canLayAll0 at c
   rw [Bool.and_eq_true] at c
   obtain ⟨a1, q1⟩ := Ud hK I x v _ c.1 h1 r1
   obtain ⟨a2, q2⟩ := QX hK I xs rr _ c.2 h2 r2
   unfold Z4
   exact ⟨_, .cons q1 q2⟩
end
end
def eqD (x y : D) : Option D :=
 if Zh x && Zh y && scal (val x) (val y) then some (.bl (decide (val x = val y)))
 else if SeqAt.shaped (toP x) && SeqAt.shaped (toP y) then some (.bl (PyData.eqv (toP x) (toP y))) else none
def neD (x y : D) : Option D := match eqD x y with
 | some (.bl b) => some (.bl (!b))
 | _ => none
def UV (cA : Kn) (neg : Bool) : R2 := fun x y H Q => ∃ av av' dx dy b, Rep cA av H dx x /\ Rep cA av' H dy y /\ eqD dx dy = some (.bl b) /\ Q (.bl (neg != b)) H
section
variable {X : Cx} {cA : Kn}
theorem UW (hu : X.A.units + 64 < cLine) (hK : cA.K = X.K := by rfl) : OpR X (compareOp .Eq) (UV cA false) := by
 intro pins s σ H x y v u Q I rx ry h
 obtain ⟨av, av', dx, dy, b, hx, hy, e, q⟩ := h
 unfold eqD at e
 by_cases h1 : (Zh dx && Zh dy && scal (val dx) (val dy)) = true
 · rw [if_pos h1] at e
   simp only [Bool.and_eq_true] at h1
   obtain ⟨⟨s1, s2⟩, s3⟩ := h1
   have e1 := hx.val s1
   have e2 := hy.val s2
   subst e1 e2
   have e' : decide (val dx = val dy) = b := by simpa using e
   exact Zgj pins s σ H _ _ v u Q I rx ry ⟨s3, by rw [e']; simpa using q⟩
 · rw [if_neg h1] at e
   by_cases h2 : (SeqAt.shaped (toP dx) && SeqAt.shaped (toP dy)) = true
   · rw [if_pos h2] at e
     rw [Bool.and_eq_true] at h2
     obtain ⟨as, ra⟩ := Ud hK I dx x v (SeqAt.canLay_of_shaped h2.1) hx rx
     obtain ⟨bs, rb⟩ := Ud hK I dy y u (SeqAt.canLay_of_shaped h2.2) hy ry
     have e' : PyData.eqv (toP dx) (toP dy) = b := by simpa using e
     exact PyProof.Rows.eq_dataH ra rb h2.1 h2.2 hu (by rw [e']; exact ⟨.bl b, H, I, rfl, by simpa using q⟩)
   · rw [if_neg h2] at e
     cases e
theorem UX (hu : X.A.units + 64 < cLine) (hK : cA.K = X.K := by rfl) : OpR X (compareOp .NotEq) (UV cA true) := by
 intro pins s σ H x y v u Q I rx ry h
 obtain ⟨av, av', dx, dy, b, hx, hy, e, q⟩ := h
 unfold eqD at e
 by_cases h1 : (Zh dx && Zh dy && scal (val dx) (val dy)) = true
 · rw [if_pos h1] at e
   simp only [Bool.and_eq_true] at h1
   obtain ⟨⟨s1, s2⟩, s3⟩ := h1
   have e1 := hx.val s1
   have e2 := hy.val s2
   subst e1 e2
   have e' : decide (val dx = val dy) = b := by simpa using e
   exact Zgk pins s σ H _ _ v u Q I rx ry ⟨s3, by rw [e']; simpa using q⟩
 · rw [if_neg h1] at e
   by_cases h2 : (SeqAt.shaped (toP dx) && SeqAt.shaped (toP dy)) = true
   · rw [if_pos h2] at e
     rw [Bool.and_eq_true] at h2
     obtain ⟨as, ra⟩ := Ud hK I dx x v (SeqAt.canLay_of_shaped h2.1) hx rx
     obtain ⟨bs, rb⟩ := Ud hK I dy y u (SeqAt.canLay_of_shaped h2.2) hy ry
     have e' : PyData.eqv (toP dx) (toP dy) = b := by simpa using e
     exact PyProof.Rows.ne_dataH ra rb h2.1 h2.2 hu (by rw [e']; exact ⟨.bl (!b), H, I, rfl, by simpa using q⟩)
   · rw [if_neg h2] at e
     cases e
theorem RepT.av0 {t i : Addr -> Prop} {H : Hp} {d : D} {v : V} (h : RepT cA t i H d v) : Rep cA (fun _ => False) H d v := (h.weak (fun _ z => z.elim) fun _ z => z.elim).r
theorem Zdx {x y d : D} (h : eqD x y = some d) : ∃ b, d = .bl b := by
 unfold eqD at h
 split at h
 · exact ⟨_, (Option.some.inj h).symm⟩
 · split at h
   · exact ⟨_, (Option.some.inj h).symm⟩
   · cases h
theorem UY : YS cA (UV cA false) eqD := fun t t' i H x y vx vy d _ hx hy e Q k => by
 obtain ⟨b, rfl⟩ := Zdx e
 exact ⟨_, _, x, y, b, hx.av0, hy.av0, e, k _ H (Same.refl H) (by cases b <;> rfl)⟩
theorem UZ : YS cA (UV cA true) neD := fun t t' i H x y vx vy d _ hx hy e Q k => by
 unfold neD at e
 cases he : eqD x y with
 | none => rw [he] at e; cases e
 | some z =>
  obtain ⟨b, rfl⟩ := Zdx he
  rw [he] at e
  have e' : D.bl (!b) = d := Option.some.inj e
  subst e'
  exact ⟨_, _, x, y, b, hx.av0, hy.av0, he, k _ H (Same.refl H) (by cases b <;> rfl)⟩
def Vu (x : List Nat) (n : Int) : List Nat := (List.replicate n.toNat x).flatten
theorem ZaB (x : List Nat) : ∀ (k : Nat) (acc : Array Nat), (List.replicate k x.toArray).foldl (· ++ ·) acc = acc ++ (List.replicate k x).flatten.toArray
 | 0, acc => by simp
 | k + 1, acc => by
  rw [List.replicate_succ, List.replicate_succ, List.foldl_cons, ZaB x k, List.flatten_cons]
  simp
theorem ZfR (x : List Nat) (n : Int) : Txt.mul (tx x) n = tx (Vu x n) := by
 unfold Txt.mul Vu
 by_cases h1 : n < 1
 · rw [if_pos h1]
   have : n.toNat = 0 := by omega
   rw [this]
   rfl
 · rw [if_neg h1]
   by_cases h2 : (n == 1 || (tx x).length == 0) = true
   · rw [if_pos h2]
     rw [Bool.or_eq_true] at h2
     rcases h2 with h2 | h2
     · have : n = 1 := by simpa using h2
       subst this
       simp
     · have : x = [] := by
        have : (tx x).length = 0 := by simpa using h2
        rw [YZ] at this
        exact List.eq_nil_of_length_eq_zero this
       subst this
       simp
   · rw [if_neg h2]
     have := ZaB x n.toNat #[]
     rw [this]
     simp
def rMulS : R2 := fun x y H Q => ∃ a n, x = S a /\ y = .int n /\ (n < 2 ^ 63 /\ -(2 ^ 63) <= n /\ a.length * n.toNat <= sizeLine) /\ Q (S (Vu a n)) H
theorem op_mulS : OpR X (binaryOp .Mult) rMulS := by
 intro pins s σ H x y v u Q I rx ry h
 obtain ⟨a, n, rfl, rfl, ⟨h1, h2, h3⟩, q⟩ := h
 obtain ⟨t, rfl⟩ := rx
 obtain ⟨t', rfl⟩ := ry
 refine SB.mul ⟨?_, fun hn hc => ?_, fun hn hc => ?_⟩ fun t' k => ⟨S (Vu a n), H, I.tok _, ⟨_, by rw [ZfR]⟩, q⟩
 · have e1 : decide (n < -(2 ^ 63 : Int)) = false := decide_eq_false (by omega)
   have e2 : decide (n ≥ 2 ^ 63) = false := decide_eq_false (by omega)
   rw [e1, e2]; rfl
 · rw [YZ]
   have hs : sizeLine = 16777216 := sizeLine_eq
   intro hgt
   have h5 : (a.length : Int) * n <= 16777216 := by
    have : (a.length : Int) * n = ((a.length * n.toNat : Nat) : Int) := by
     rw [Int.natCast_mul, Int.toNat_of_nonneg (by omega)]
    rw [this]; omega
   have h6 : (2 ^ 63 - 1) / n < (a.length : Int) := hgt
   have h7 : (2 ^ 63 - 1 : Int) < (a.length : Int) * n := by
    have := Int.lt_mul_of_ediv_lt (show (0 : Int) < n by omega) h6
    rw [Int.mul_comm]; rw [Int.mul_comm] at this; exact this
   omega
 · rw [YZ]
   show decide (a.length * n.toNat > sizeLine) = false
   exact decide_eq_false (by omega)
instance (i j : Int) : Decidable (CMul i j) := by unfold CMul; infer_instance
instance (i j : Int) : Decidable (YX i j) := by unfold YX; infer_instance
def addD : D -> D -> Option D
 | .int i, .int j => some (.int (i + j))
 | .str a, .str b => if a.length + b.length <= sizeLine then some (.str (a ++ b)) else none
 | _, _ => none
def Zhk : D -> D -> Option D
 | .int i, .int j => some (.int (i - j))
 | _, _ => none
def Zhl : D -> D -> Option D
 | .int i, .int j => if CMul i j then some (.int (i * j)) else none
 | .str a, .int n => if n < 2 ^ 63 /\ -(2 ^ 63) <= n /\ a.length * n.toNat <= sizeLine then some (.str (Vu a n)) else none
 | _, _ => none
def fdivD : D -> D -> Option D
 | .int i, .int j => if YX i j then some (.int (i / j)) else none
 | _, _ => none
def modD : D -> D -> Option D
 | .int i, .int j => if 0 < j then some (.int (i % j)) else none
 | _, _ => none
def ZU (p : Int -> Int -> Bool) : D -> D -> Option D
 | .int i, .int j => some (.bl (p i j))
 | _, _ => none
theorem ZfS : YS cA Zgn addD := fun t t' i H x y vx vy d _ hx hy e Q k => by
 cases x <;> cases y <;> first | (cases e; done) | skip
 · cases (show vx = _ from hx); cases (show vy = _ from hy)
   cases e
   exact .inl ⟨_, _, rfl, rfl, k _ H (Same.refl H) rfl⟩
 · cases (show vx = _ from hx); cases (show vy = _ from hy)
   rename_i a b
   dsimp only [addD] at e
   by_cases hz : a.length + b.length <= sizeLine
   · rw [if_pos hz] at e
     cases e
     exact .inr (.inl ⟨_, _, rfl, rfl, hz, k _ H (Same.refl H) rfl⟩)
   · rw [if_neg hz] at e; cases e
theorem ZbT : YS cA (rI YX fun i j => .int (i / j)) fdivD := fun t t' i H x y vx vy d _ hx hy e Q k => by
 cases x <;> cases y <;> first | (cases e; done) | skip
 cases (show vx = _ from hx); cases (show vy = _ from hy)
 rename_i a b
 dsimp only [fdivD] at e
 by_cases hz : YX a b
 · rw [if_pos hz] at e
   cases e
   exact ⟨_, _, rfl, rfl, hz, k _ H (Same.refl H) rfl⟩
 · rw [if_neg hz] at e; cases e
theorem Vv : YS cA (rI (fun _ j => 0 < j) fun i j => .int (i % j)) modD := fun t t' i H x y vx vy d _ hx hy e Q k => by
 cases x <;> cases y <;> first | (cases e; done) | skip
 cases (show vx = _ from hx); cases (show vy = _ from hy)
 rename_i a b
 dsimp only [modD] at e
 by_cases hz : 0 < b
 · rw [if_pos hz] at e
   cases e
   exact ⟨_, _, rfl, rfl, hz, k _ H (Same.refl H) rfl⟩
 · rw [if_neg hz] at e; cases e
theorem Xz {p : Int -> Int -> Bool} : YS cA (rI0 fun i j => .bl (p i j)) (ZU p) := fun t t' i H x y vx vy d _ hx hy e Q k => by
 cases x <;> cases y <;> first | (cases e; done) | skip
 cases (show vx = _ from hx); cases (show vy = _ from hy)
 cases e
 exact ⟨_, _, rfl, rfl, k _ H (Same.refl H) rfl⟩
def inD (neg : Bool) : D -> D -> Option D
 | .str [c], .str b => some (.bl (neg != decide (c ∈ b)))
 | x, .lst ys => if Zh x && ys.all Zh then some (.bl (if neg then !(inV (val x) (ys.map val)) else inV (val x) (ys.map val))) else none
 | x, .tup ys => if Zh x && ys.all Zh then some (.bl (if neg then !(inV (val x) (ys.map val)) else inV (val x) (ys.map val))) else none
 | _, _ => none
theorem QY {d : D} : Zh d = true -> YY (val d) = true := by
 intro h
 cases d <;> first | rfl | cases h
theorem QZ : ∀ {xs : List D}, xs.all Zh = true -> (xs.map val).all YY = true
 | [], _ => rfl
 | x :: xs, h => by
  rw [List.all_cons, Bool.and_eq_true] at h
  rw [List.map_cons, List.all_cons, QY h.1, QZ h.2]
  rfl
theorem Zd9 {t i : Addr -> Prop} {H : Hp} {d : D} {v : V} (hs : Zh d = true) (h : RepT cA t i H d v) : v = val d := by
 cases d <;> first | exact h | cases hs
theorem U0 {neg : Bool} : YS cA (Vq cA.K neg) (inD neg) := fun t t' i H x y vx vy d _ hx hy e Q k => by
 have seq : ∀ ys, (y = .lst ys \/ y = .tup ys) -> (if Zh x && ys.all Zh then some (D.bl (if neg then !(inV (val x) (ys.map val)) else inV (val x) (ys.map val))) else none) = some d -> Vq cA.K neg vx vy H Q := fun ys hy' e => by
  by_cases hz : (Zh x && ys.all Zh) = true
  · rw [if_pos hz] at e
    rw [Bool.and_eq_true] at hz
    have ex := Zd9 hz.1 hx
    subst ex
    cases e
    rcases hy' with rfl | rfl
    · obtain ⟨a, vs, rfl, _, rd, l⟩ := hy
      have ev := l.vals hz.2
      subst ev
      exact .inr ⟨a, _, rfl, .inl rd, QY hz.1, QZ hz.2, k _ H (Same.refl H) rfl⟩
    · obtain ⟨a, vs, rfl, _, rd, l⟩ := hy
      have ev := l.vals hz.2
      subst ev
      exact .inr ⟨a, _, rfl, .inr (SqT.of rd), QY hz.1, QZ hz.2, k _ H (Same.refl H) rfl⟩
  · rw [if_neg hz] at e; cases e
 cases y with
 | lst ys => exact seq ys (.inl rfl) (by cases x <;> first | exact e | (rename_i cs; cases cs <;> first | exact e | (rename_i c r; cases r <;> exact e)))
 | tup ys => exact seq ys (.inr rfl) (by cases x <;> first | exact e | (rename_i cs; cases cs <;> first | exact e | (rename_i c r; cases r <;> exact e)))
 | str b =>
  cases x with
  | str cs =>
   cases cs with
   | nil => cases e
   | cons c r =>
    cases r with
    | cons _ _ => cases e
    | nil =>
     cases (show vx = _ from hx); cases (show vy = _ from hy)
     cases e
     exact .inl ⟨c, b, rfl, rfl, k _ H (Same.refl H) rfl⟩
  | _ => cases e
 | _ => cases x <;> first | (cases e; done) | (rename_i cs; cases cs <;> first | (cases e; done) | (rename_i c r; cases r <;> cases e))
def ixD : D -> D -> Option D
 | .lst xs, .int i => atI xs i
 | .tup xs, .int i => atI xs i
 | .str cs, .int i => if cs.length <= sizeLine then (atI cs i).map fun c => .str [c] else none
 | _, _ => none
theorem ZbU {av : Addr -> Prop} {H : Hp} {xs : List D} {vs : List V} {i : Int} {d : D} (l : RepL cA av H xs vs) (h : atI xs i = some d) : ∃ v, atI vs i = some v /\ Rep cA av H d v := by
 unfold atI at h ⊢
 rw [l.length] at h
 cases e : ixN vs.length i with
 | none => rw [e] at h; cases h
 | some j =>
  rw [e] at h
  exact l.get h
theorem Z7 : YS cA (Vr cA.K) ixD := fun t t' i H x y vx vy d _ hx hy e Q k => by
 cases y <;> first | (cases x <;> cases e; done) | skip
 rename_i j
 cases (show vy = _ from hy)
 cases x <;> first | (cases e; done) | skip
 · cases (show vx = _ from hx)
   rename_i cs
   dsimp only [ixD] at e
   by_cases hz : cs.length <= sizeLine
   · rw [if_pos hz] at e
     cases ea : atI cs j with
     | none => rw [ea] at e; cases e
     | some c =>
      rw [ea] at e
      cases e
      exact .inr (.inr ⟨cs, j, c, rfl, rfl, hz, ea, k _ H (Same.refl H) rfl⟩)
   · rw [if_neg hz] at e; cases e
 · obtain ⟨a, vs, rfl, _, rd, l⟩ := hx
   obtain ⟨v, h1, h2⟩ := ZbU l e
   exact .inl ⟨a, vs, j, v, rfl, rfl, rd, h1, k v H (Same.refl H) h2⟩
 · obtain ⟨a, vs, rfl, _, rd, l⟩ := hx
   obtain ⟨v, h1, h2⟩ := ZbU l e
   exact .inr (.inl ⟨a, vs, j, v, rfl, rfl, SqT.of rd, h1, k v H (Same.refl H) h2⟩)
end
end DL
namespace DL
open PySem PySem.Spec L2
section
variable {cA : Kn} {G : Cn} {ow : List Nat}
def bD : Option D -> Option Bool
 | some (.bl b) => some b
 | _ => none
theorem ZbV {o : Option D} {b : Bool} (h : bD o = some b) : o = some (.bl b) := by
 cases o with
 | none => cases h
 | some d => cases d <;> first | (cases h; rfl) | cases h
def xB (ε : Env -> Option D) (δ : Env) : Option Bool := bD (ε δ)
theorem XA {te : TE} {q : Ql} {ε : Env -> Option D} (h : VE G ow te q ε) : VT G ow (tB te) (xB ε) := fun H0 av A σ H δ E b e Q k =>
 h H0 av A σ H δ E _ (ZbV e) _ fun v H' s r => ⟨b, by cases q <;> exact r, k H' s⟩
theorem Yq {te : TE} {q : Ql} {ε : Env -> Option D} (h : VE G ow te q ε) : VT G ow (ZeY te) (xB ε) := fun H0 av A σ H δ E b e Q k =>
 h H0 av A σ H δ E _ (ZbV e) _ fun v H' s r => ⟨b, by cases q <;> exact r, k H' s⟩
def Y1 (τ : Env -> Option Bool) (δ : Env) : Option Bool := match τ δ with
 | some b => some (!b)
 | none => none
theorem Zdy {t : TT} {τ : Env -> Option Bool} (h : VT G ow t τ) : VT G ow (JZ t) (Y1 τ) := fun H0 av A σ H δ E b e Q k => by
 unfold Y1 at e
 cases he : τ δ with
 | none => rw [he] at e; cases e
 | some c =>
  rw [he] at e
  cases e
  exact h H0 av A σ H δ E c he _ fun H' s => k H' s
def Yc (τ υ : Env -> Option Bool) (δ : Env) : Option Bool := match τ δ with
 | some true => υ δ
 | some false => some false
 | none => none
def xOr (τ υ : Env -> Option Bool) (δ : Env) : Option Bool := match τ δ with
 | some true => some true
 | some false => υ δ
 | none => none
theorem U1 {t u : TT} {τ υ : Env -> Option Bool} (h : VT G ow t τ) (h' : VT G ow u υ) : VT G ow (JY t u) (Yc τ υ) := fun H0 av A σ H δ E b e Q k => by
 unfold Yc at e
 cases he : τ δ with
 | none => rw [he] at e; cases e
 | some c =>
  rw [he] at e
  refine h H0 av A σ H δ E c he _ fun H' s => ?_
  cases c with
  | true => exact Xw (h' H0 av A σ H' δ (E.mono s) b e _ fun H2 s2 => k H2 (s.trans s2))
  | false => cases e; exact Xv (k H' s)
theorem Ze6 {t u : TT} {τ υ : Env -> Option Bool} (h : VT G ow t τ) (h' : VT G ow u υ) : VT G ow (tOr t u) (xOr τ υ) := fun H0 av A σ H δ E b e Q k => by
 unfold xOr at e
 cases he : τ δ with
 | none => rw [he] at e; cases e
 | some c =>
  rw [he] at e
  refine h H0 av A σ H δ E c he _ fun H' s => ?_
  cases c with
  | true => cases e; exact Xw (k H' s)
  | false => exact Xv (h' H0 av A σ H' δ (E.mono s) b e _ fun H2 s2 => k H2 (s.trans s2))
theorem Ue : VT G ow tYes (fun _ => some true) := fun H0 av A σ H δ E b e Q k => by
 cases e
 exact k H (Same.refl H)
theorem blq {av : Addr -> Prop} {A : Nat -> Option Addr} {H : Hp} {q : Ql} {b : Bool} : RepQ cA av A H q (.bl b) (.bl b) := by cases q <;> exact rfl
theorem qbl {av : Addr -> Prop} {A : Nat -> Option Addr} {H : Hp} {q : Ql} {b : Bool} {v : V} (h : RepQ cA av A H q (.bl b) v) : v = .bl b := by cases q <;> exact h
def Xk (a b : Env -> Option D) (δ : Env) : Option D := match a δ with
 | some (.bl true) => b δ
 | some (.bl false) => some (.bl false)
 | _ => none
def eOr (a b : Env -> Option D) (δ : Env) : Option D := match a δ with
 | some (.bl true) => some (.bl true)
 | some (.bl false) => b δ
 | _ => none
def Uf (a : Env -> Option D) (δ : Env) : Option D := match a δ with
 | some (.bl b) => some (.bl (!b))
 | _ => none
theorem Zdz {ta tb : TE} {qa qb : Ql} {a b : Env -> Option D} (ha : VE G ow ta qa a) (hb : VE G ow tb qb b) : VE G ow (J5 ta tb) qb (Xk a b) := fun H0 av A σ H δ E d e Q k => by
 unfold Xk at e
 cases he : a δ with
 | none => rw [he] at e; cases e
 | some x =>
  rw [he] at e
  cases x <;> first | (cases e; done) | skip
  rename_i c
  refine ha H0 av A σ H δ E _ he _ fun v H' s r => ⟨c, qbl r, ?_⟩
  cases c with
  | true => exact Xw (hb H0 av A σ H' δ (E.mono s) d e _ fun v2 H2 s2 r2 => k v2 H2 (s.trans s2) r2)
  | false => cases e; exact Xv (k _ H' s blq)
theorem ZfT {ta : TE} {qa : Ql} {a : Env -> Option D} (ha : VE G ow ta qa a) : VE G ow (J6 ta) .cl (Uf a) := fun H0 av A σ H δ E d e Q k => by
 unfold Uf at e
 cases he : a δ with
 | none => rw [he] at e; cases e
 | some x =>
  rw [he] at e
  cases x <;> first | (cases e; done) | skip
  cases e
  exact ha H0 av A σ H δ E _ he _ fun v H' s r => ⟨_, qbl r, k _ H' s blq⟩
def eIf (τ : Env -> Option Bool) (a b : Env -> Option D) (δ : Env) : Option D := match τ δ with
 | some true => a δ
 | some false => b δ
 | none => none
def Ug : D -> Bool
 | .non => true
 | _ => false
theorem Zea {av : Addr -> Prop} {H : Hp} {d : D} {v : V} (h : Rep cA av H d v) : decide (v = .non) = Ug d := by
 cases d with
 | non => cases (show v = _ from h); rfl
 | bl b => cases (show v = _ from h); rfl
 | int i => cases (show v = _ from h); rfl
 | str cs => cases (show v = _ from h); rfl
 | lst xs => unfold Rep at h; obtain ⟨a, vs, rfl, _⟩ := h; rfl
 | tup xs => unfold Rep at h; obtain ⟨a, vs, rfl, _⟩ := h; rfl
 | obj c ks xs => unfold Rep at h; obtain ⟨a, dx, vs, rfl, _⟩ := h; rfl
 | dct ks xs => unfold Rep at h; obtain ⟨a, vs, rfl, _⟩ := h; rfl
 | dtt ks xs => unfold Rep at h; obtain ⟨a, vs, rfl, _⟩ := h; rfl
def Zhm (a : Env -> Option D) (δ : Env) : Option D := match a δ with
 | some d => some (.bl (Ug d))
 | none => none
def Vw (a : Env -> Option D) (δ : Env) : Option D := match a δ with
 | some d => some (.bl (!Ug d))
 | none => none
theorem Zeb {ta : TE} {qa : Ql} {a : Env -> Option D} (ha : VE G ow ta qa a) : VE G ow (JX ta) .cl (Vw a) := fun H0 av A σ H δ E d e Q k => by
 unfold Vw at e
 cases he : a δ with
 | none => rw [he] at e; cases e
 | some x =>
  rw [he] at e
  cases e
  refine ha H0 av A σ H δ E _ he _ fun v H' s r => ?_
  rw [Zea r.any]
  exact k _ H' s blq
def ZdA (f g : D -> D -> Option D) (a b c : Env -> Option D) (δ : Env) : Option D := match eOp f a b δ with
 | some (.bl true) => eOp g b c δ
 | some (.bl false) => some (.bl false)
 | _ => none
def Zhn : D -> Option D
 | .int i => some (.int (-i))
 | _ => none
def eUn (f : D -> Option D) (a : Env -> Option D) (δ : Env) : Option D := match a δ with
 | some x => f x
 | none => none
def eNil (_ : Env) : Option (List D) := some []
def Zb (a : Env -> Option D) (r : Env -> Option (List D)) (δ : Env) : Option (List D) := match a δ with
 | some x => match r δ with
  | some xs => some (x :: xs)
  | none => none
 | none => none
theorem Zp {q : Ql} : VA G ow tNil q eNil := fun H0 av A σ H δ E ds e Q k => by
 cases e
 exact k [] H (Same.refl H) rfl
theorem Zg {te : TE} {ta : TA} {q : Ql} {a : Env -> Option D} {r : Env -> Option (List D)} (ha : VE G ow te q a) (hr : VA G ow ta q r) : VA G ow (Xj te ta) q (Zb a r) := fun H0 av A σ H δ E ds e Q k => by
 unfold Zb at e
 cases he : a δ with
 | none => rw [he] at e; cases e
 | some x =>
  rw [he] at e
  cases hr' : r δ with
  | none => rw [hr'] at e; cases e
  | some xs =>
   rw [hr'] at e
   cases e
   exact ha H0 av A σ H δ E x he _ fun v H1 s1 r1 => hr H0 av A σ H1 δ (E.mono s1) xs hr' _ fun vs H2 s2 r2 => k _ H2 (s1.trans s2) ⟨v, vs, rfl, r1.same s2, r2⟩
theorem RepQL.length {av : Addr -> Prop} {A : Nat -> Option Addr} {H : Hp} {q : Ql} {xs : List D} {vs : List V} (h : RepQL cA av A H q xs vs) : xs.length = vs.length := h.any.length
def ZL (α : Env -> Option (List D)) (δ : Env) : Option D := match α δ with
 | some xs => if xs.length <= sizeLine then some (.lst xs) else none
 | none => none
theorem Vx {t : TA} {α : Env -> Option (List D)} (h : VA G ow t .cl α) : VF G ow (QC t) (ZL α) := fun H0 av A σ H δ E d e Q k => by
 unfold ZL at e
 cases he : α δ with
 | none => rw [he] at e; cases e
 | some xs =>
  rw [he] at e
  by_cases hz : xs.length <= sizeLine
  · have e' : D.lst xs = d := by simpa [hz] using e
    exact h H0 av A σ H δ E xs he _ fun vs H1 s1 r1 => ⟨by rw [<- r1.length]; exact hz, fun p hp => k p vs xs H1 s1 hp r1.cl e'.symm⟩
  · simp [hz] at e
def YT (α : Env -> Option (List D)) (δ : Env) : Option D := match α δ with
 | some xs => if xs.length <= sizeLine then some (.tup xs) else none
 | none => none
theorem Q0 {t : TA} {α : Env -> Option (List D)} (h : VA G ow t .cl α) : VE G ow (Zhf t) .cl (YT α) := fun H0 av A σ H δ E d e Q k => by
 unfold YT at e
 cases he : α δ with
 | none => rw [he] at e; cases e
 | some xs =>
  rw [he] at e
  by_cases hz : xs.length <= sizeLine
  · have e' : D.tup xs = d := by simpa [hz] using e
    subst e'
    refine h H0 av A σ H δ E xs he _ fun vs H1 s1 r1 => ⟨by rw [<- r1.length]; exact hz, fun p hp => k _ _ (s1.trans (Yb hp)) ⟨p, vs, rfl, fun z => (E.mono s1).avl p z hp, ZB, r1.cl.same (Yb hp)⟩⟩
  · simp [hz] at e
def X8 (cA : Kn) (i : Addr -> Prop) (H : Hp) : List D -> List V -> Prop
 | [], vs => vs = []
 | x :: xs, vs => ∃ v r, vs = v :: r /\ (∃ t, RepT cA t i H x v) /\ X8 cA i H xs r
theorem RepQL.il {av : Addr -> Prop} {A : Nat -> Option Addr} {H : Hp} {q : Ql} : ∀ {xs : List D} {vs : List V}, RepQL cA av A H q xs vs -> X8 cA (q.iv av A) H xs vs
 | [], _, h => h
 | x :: xs, vs, h => by
  obtain ⟨v, r, e, h1, h2⟩ := h
  exact ⟨v, r, e, ⟨_, h1.tp⟩, RepQL.il h2⟩
def Vy (cA : Kn) (r : List V -> Hp -> VK -> Prop) (f : List D -> Option D) : Prop :=
 ∀ (i : Addr -> Prop) (H : Hp) (ds : List D) (vs : List V) (d : D), (∀ a, i a -> H a ≠ none) -> X8 cA i H ds vs -> f ds = some d -> ∀ Q : VK, (∀ v H', Same H H' -> Rep cA i H' d v -> Q v H') -> r vs H Q
def eCB (f : List D -> Option D) (α : Env -> Option (List D)) (δ : Env) : Option D := match α δ with
 | some ds => f ds
 | none => none
theorem Yz {r : List V -> Hp -> VK -> Prop} {f : List D -> Option D} {t : TA} {q : Ql} {α : Env -> Option (List D)} (hr : Vy G.1 r f) (h : VA G ow t q α) : VE G ow (tCB r t) q.it (eCB f α) := fun H0 av A σ H δ E d e Q k => by
 unfold eCB at e
 cases he : α δ with
 | none => rw [he] at e; cases e
 | some ds =>
  rw [he] at e
  refine h H0 av A σ H δ E ds he _ fun vs H1 s1 r1 => ?_
  have E1 := E.mono s1
  cases q with
  | cl => exact hr _ H1 ds vs d E1.avl r1.il e _ fun v H' s r => k v H' (s1.trans s) r.t
  | tp => exact hr _ H1 ds vs d E1.avl r1.il e _ fun v H' s r => k v H' (s1.trans s) r.t
  | dt => exact hr _ H1 ds vs d E1.avH r1.il e _ fun v H' s r => k v H' (s1.trans s) r.t
theorem il1 {i : Addr -> Prop} {H : Hp} {x : D} {vs : List V} (h : X8 cA i H [x] vs) : ∃ v t, vs = [v] /\ RepT cA t i H x v := by
 obtain ⟨v, r, rfl, ⟨t, h1⟩, h2⟩ := h
 cases (show r = [] from h2)
 exact ⟨v, t, rfl, h1⟩
def lenD : List D -> Option D
 | [.str a] => if a.length <= sizeLine then some (.int a.length) else none
 | [.lst xs] => some (.int xs.length)
 | [.tup xs] => some (.int xs.length)
 | _ => none
theorem XB : Vy cA (QP cA.K) lenD := fun i H ds vs d _ h e Q k => by
 cases ds with
 | nil => cases e
 | cons x r =>
  cases r with
  | cons _ _ => cases x <;> cases e
  | nil =>
   obtain ⟨v, t, rfl, hx⟩ := il1 h
   cases x <;> first | (cases e; done) | skip
   · rename_i a
     dsimp only [lenD] at e
     by_cases hz : a.length <= sizeLine
     · rw [if_pos hz] at e
       cases e
       exact .inl ⟨a, by rw [show v = S a from hx], hz, k _ H (Same.refl H) rfl⟩
     · rw [if_neg hz] at e; cases e
   · obtain ⟨a, ws, rfl, _, rd, l⟩ := hx
     cases e
     exact .inr ⟨a, ws, rfl, .inl rd, k _ H (Same.refl H) (by rw [l.length]; rfl)⟩
   · obtain ⟨a, ws, rfl, _, rd, l⟩ := hx
     cases e
     exact .inr ⟨a, ws, rfl, .inr (SqT.of rd), k _ H (Same.refl H) (by rw [l.length]; rfl)⟩
def Zho : List D -> Option D
 | [.int i, .int j] => some (.int (if j < i then j else i))
 | _ => none
def Zhp : List D -> Option D
 | [.int i, .int j] => some (.int (if j > i then j else i))
 | _ => none
def Y2 : List D -> Option (List Bool)
 | [] => some []
 | .bl b :: r => match Y2 r with
  | some bs => some (b :: bs)
  | none => none
 | _ => none
theorem Za7 : ∀ {xs : List D} {bs : List Bool}, Y2 xs = some bs -> xs = bs.map D.bl
 | [], bs, h => by cases h; rfl
 | x :: xs, bs, h => by
  cases x <;> first | (cases h; done) | skip
  rename_i b
  unfold Y2 at h
  cases hr : Y2 xs with
  | none => rw [hr] at h; cases h
  | some cs =>
   rw [hr] at h
   cases h
   rw [List.map_cons, Za7 hr]
theorem bools_map (bs : List Bool) : Y2 (bs.map D.bl) = some bs := by
 induction bs with
 | nil => rfl
 | cons b bs ih => rw [List.map_cons, Y2, ih]
def Vz (f : List Bool -> Bool) : List D -> Option D
 | [.lst xs] => match Y2 xs with
  | some bs => some (.bl (f bs))
  | none => none
 | _ => none
theorem ZfU {f : List Bool -> Bool} : Vy cA (QQ cA.K f) (Vz f) := fun i H ds vs d _ h e Q k => by
 unfold Vz at e
 split at e
 · rename_i xs
   cases hb : Y2 xs with
   | none => rw [hb] at e; cases e
   | some bs =>
    rw [hb] at e
    cases e
    obtain ⟨v, t, rfl, a, ws, rfl, _, rd, l⟩ := il1 h
    have ex := Za7 hb
    subst ex
    have ev := l.vals (by rw [List.all_map]; exact List.all_eq_true.mpr fun _ _ => rfl)
    rw [List.map_map] at ev
    subst ev
    exact ⟨a, bs, rfl, rd, k _ H (Same.refl H) rfl⟩
 · cases e
def intD : List D -> Option D
 | [.str a] => if a.length <= 640 /\ a ≠ [] /\ a.all UO = true then some (.int (QJ a : Nat)) else none
 | [.bl b] => some (.int (if b then 1 else 0))
 | _ => none
theorem ZdB : Vy cA rIntX intD := fun i H ds vs d _ h e Q k => by
 unfold intD at e
 split at e
 · rename_i a
   obtain ⟨v, t, rfl, hx⟩ := il1 h
   cases (show v = _ from hx)
   by_cases hz : a.length <= 640 /\ a ≠ [] /\ a.all UO = true
   · rw [if_pos hz] at e
     cases e
     exact .inl ⟨a, rfl, hz.1, hz.2.1, hz.2.2, k _ H (Same.refl H) rfl⟩
   · rw [if_neg hz] at e; cases e
 · rename_i b
   obtain ⟨v, t, rfl, hx⟩ := il1 h
   cases (show v = _ from hx)
   cases e
   exact .inr ⟨b, rfl, k _ H (Same.refl H) rfl⟩
 · cases e
def Ze7 : List D -> Option D
 | [.lst xs] => some (.lst xs)
 | [.tup xs] => some (.lst xs)
 | _ => none
end
end DL
namespace DL
open PySem PySem.Spec L2
inductive Out where
 | nx (δ : Env)
 | rt (d : D)
 | bk (δ : Env)
 | ct (δ : Env)
def Ze8 (G : Cn) (owN owB owC : List Nat) (H0 : Hp) (av : Addr -> Prop) (De : Ends) : Out -> Prop
 | .nx δ' => ∀ A' σ' H', ER G owN H0 av A' σ' H' δ' -> De.nx σ' H'
 | .rt d => ∀ v H', Same H0 H' -> Rep G.1 av H' d v -> De.rt v H'
 | .bk δ' => ∀ A' σ' H', ER G owB H0 av A' σ' H' δ' -> De.bk σ' H'
 | .ct δ' => ∀ A' σ' H', ER G owC H0 av A' σ' H' δ' -> De.ct σ' H'
def VS (G : Cn) (ow owN owB owC : List Nat) (ts : TS) (φ : Env -> Option Out) : Prop :=
 ∀ H0 av A σ H δ, ER G ow H0 av A σ H δ -> ∀ o, φ δ = some o -> ∀ De : Ends, Ze8 G owN owB owC H0 av De o -> ts De σ H
def VG (G : Cn) (ow ow' : List Nat) (g : TG) (γ : D -> Env -> Option Env) : Prop :=
 ∀ H0 av A σ H δ, ER G ow H0 av A σ H δ -> ∀ d v, Rep G.1 (AV av A) H d v -> ∀ δ', γ d δ = some δ' -> ∀ Q : L2.St -> Hp -> Prop, (∀ A' σ' H', Same H H' -> ER G ow' H0 av A' σ' H' δ' -> Q σ' H') -> g v σ H Q
def sub (a b : List Nat) : Bool := a.all fun x => b.contains x
theorem U2 {a b : List Nat} (h : sub a b = true) : ∀ x ∈ a, x ∈ b := fun x hx => by
 have := List.all_eq_true.mp h x hx
 simpa using this
section
variable {cA : Kn} {G : Cn} {ow owN owB owC ow1 ow2 : List Nat} {H0 H H' : Hp} {av : Addr -> Prop} {A : Nat -> Option Addr} {σ : L2.St} {δ : Env}
theorem U3 {α : Type} {l : List (Option α)} {i j : Nat} {x y : α} (h : (l.set i (some x))[j]? = some (some y)) : (j = i /\ y = x /\ i < l.length) \/ (j ≠ i /\ l[j]? = some (some y)) := by
 by_cases e : j = i
 · subst e
   by_cases hl : j < l.length
   · rw [List.getElem?_set_self hl] at h
     exact .inl ⟨rfl, (Option.some.inj (Option.some.inj h)).symm, hl⟩
   · rw [List.getElem?_eq_none (by simpa using hl)] at h
     cases h
 · rw [List.getElem?_set_ne (Ne.symm e)] at h
   exact .inr ⟨e, h⟩
theorem ER.set {i : Nat} {d : D} {v : V} (E : ER G ow H0 av A σ H δ) (h : Rep G.1 (AV av A) H d v) (hw : ∀ j, j ∈ ow1 ↔ j ∈ ow /\ j ≠ i) (hn : G.2 i = none) :
 ER G ow1 H0 av (fun j => if j = i then none else A j) (σ.set i (some v)) H (δ.set i (some d)) := by
 have less : ∀ b, AV av (fun j => if j = i then none else A j) b -> AV av A b := fun b z => by
  rcases z with z | ⟨j, z⟩
  · exact .inl z
  · by_cases e : j = i
    · simp [e] at z
    · simp [e] at z; exact .inr ⟨j, z⟩
 refine ⟨E.same, E.avd, fun j a e => ?_, fun j k a e1 e2 => ?_, fun j a e => ?_, fun j e => ?_, fun j hj => ?_, by simp [E.len], fun j a e => (by
  have q : j ≠ i := fun z => by rw [z, hn] at e; cases e
  simp only [q, if_false]; exact E.pin j a e), (fun j v' e => by
  have q : j ≠ i := fun z => by rw [z, hn] at e; cases e
  rw [List.getElem?_set_ne (Ne.symm q)]; exact E.kept j v' e), fun j d' e => ?_⟩
 · by_cases q : j = i
   · simp [q] at e
   · simp [q] at e; exact E.fr j a e
 · by_cases q : j = i
   · simp [q] at e1
   · by_cases q2 : k = i
     · simp [q2] at e2
     · simp [q] at e1; simp [q2] at e2; exact E.inj j k a e1 e2
 · by_cases q : j = i
   · simp [q] at e
   · simp [q] at e; exact E.live j a e
 · by_cases q : j = i
   · simp [q] at e
   · simp [q] at e; exact (hw j).mpr ⟨E.dom j e, q⟩
 · obtain ⟨h1, h2⟩ := (hw j).mp hj
   simp [h2]
   exact E.dom' j h1
 · rcases U3 e with ⟨rfl, rfl, hl⟩ | ⟨q, e'⟩
   · refine ⟨v, ?_, fun _ => h.av fun b z => .inl (less b z), fun a z => by simp at z⟩
     rw [List.getElem?_set_self (by rw [E.len]; exact hl)]
   · obtain ⟨v', h1, h2, h3⟩ := E.var j d' e'
     refine ⟨v', by rw [List.getElem?_set_ne (Ne.symm q)]; exact h1, fun z => ?_, fun a z => ?_⟩
     · simp [q] at z
       exact (h2 z).av fun b z => .inl (less b z)
     · simp [q] at z
       obtain ⟨r1, r2⟩ := h3 a z
       refine ⟨r1, ?_⟩
       cases d' with
       | lst xs => obtain ⟨vs, q1, q2⟩ := r2; exact ⟨vs, q1, q2.av fun b z => .inl (less b z)⟩
       | obj c ks xs => obtain ⟨dx, vs, q1, q0, q2⟩ := r2; exact ⟨dx, vs, q1, q0, q2.av fun b z => .inl (less b z)⟩
       | dct ks xs => obtain ⟨vs, q1, q0, q2⟩ := r2; exact ⟨vs, q1, q0, q2.av fun b z => .inl (less b z)⟩
       | dtt ks xs => obtain ⟨vs, q1, q0, q2⟩ := r2; exact ⟨vs, q1, q0, q2.av fun b z => .inl (less b z)⟩
       | _ => exact r2
theorem ER.own {i : Nat} {xs : List D} {vs : List V} {p : Addr} (E : ER G ow H0 av A σ H δ) (hp : H p = none) (l : RepL G.1 (AV av A) H xs vs) (hw : ∀ j, j ∈ ow1 ↔ j ∈ ow \/ j = i) (hn : G.2 i = none) :
 ER G ow1 H0 av (fun j => if j = i then some p else A j) (σ.set i (some (.ref p))) (upd H p (.lst vs)) (δ.set i (some (.lst xs))) := by
 have hs : Same H (upd H p (.lst vs)) := Yb hp
 have less : ∀ b, AV av (fun j => if j = i then some p else A j) b -> AV av A b \/ H b = none := fun b z => by
  rcases z with z | ⟨j, z⟩
  · exact .inl (.inl z)
  · by_cases e : j = i
    · simp [e] at z; subst z; exact .inr hp
    · simp [e] at z; exact .inl (.inr ⟨j, z⟩)
 have np : ∀ j a, A j = some a -> a ≠ p := fun j a e z => by subst z; exact E.live j a e hp
 have h0 : H0 p = none := by
  cases q : H0 p with
  | none => rfl
  | some o => rw [E.same p o q] at hp; cases hp
 refine ⟨E.same.trans hs, E.avd, fun j a e => ?_, fun j k a e1 e2 => ?_, fun j a e => ?_, fun j e => ?_, fun j hj => ?_, by simp [E.len], fun j a e => (by
  have q : j ≠ i := fun z => by rw [z, hn] at e; cases e
  simp only [q, if_false]; exact E.pin j a e), (fun j v' e => by
  have q : j ≠ i := fun z => by rw [z, hn] at e; cases e
  rw [List.getElem?_set_ne (Ne.symm q)]; exact E.kept j v' e), fun j d' e => ?_⟩
 · by_cases q : j = i
   · simp [q] at e; subst e; exact h0
   · simp [q] at e; exact E.fr j a e
 · by_cases q : j = i
   · by_cases q2 : k = i
     · rw [q, q2]
     · simp [q] at e1; simp [q2] at e2
       exact absurd e1.symm (np k a e2)
   · by_cases q2 : k = i
     · simp [q] at e1; simp [q2] at e2
       exact absurd e2.symm (np j a e1)
     · simp [q] at e1; simp [q2] at e2; exact E.inj j k a e1 e2
 · by_cases q : j = i
   · simp [q] at e; subst e; rw [ZB]; exact fun z => by cases z
   · simp [q] at e
     rw [Zj (np j a e)]
     exact E.live j a e
 · by_cases q : j = i
   · exact (hw j).mpr (.inr q)
   · simp [q] at e; exact (hw j).mpr (.inl (E.dom j e))
 · by_cases q : j = i
   · simp [q]
   · simp [q]
     exact E.dom' j (((hw j).mp hj).resolve_right q)
 · rcases U3 e with ⟨rfl, rfl, hl⟩ | ⟨q, e'⟩
   · refine ⟨.ref p, ?_, fun z => by simp at z, fun a z => ?_⟩
     · rw [List.getElem?_set_self (by rw [E.len]; exact hl)]
     · simp at z
       subst z
       exact ⟨rfl, vs, ZB, (l.av less).same hs⟩
   · obtain ⟨v', h1, h2, h3⟩ := E.var j d' e'
     refine ⟨v', by rw [List.getElem?_set_ne (Ne.symm q)]; exact h1, fun z => ?_, fun a z => ?_⟩
     · simp [q] at z
       exact ((h2 z).av less).same hs
     · simp [q] at z
       obtain ⟨r1, r2⟩ := h3 a z
       refine ⟨r1, ?_⟩
       cases d' with
       | lst xs => obtain ⟨vs', q1, q2⟩ := r2; exact ⟨vs', hs _ _ q1, (q2.av less).same hs⟩
       | obj c ks xs => obtain ⟨dx, vs', q1, q0, q2⟩ := r2; exact ⟨dx, vs', hs _ _ q1, q0, (q2.av less).same hs⟩
       | dct ks xs => obtain ⟨vs', q1, q0, q2⟩ := r2; exact ⟨vs', hs _ _ q1, q0, (q2.av less).same hs⟩
       | dtt ks xs => obtain ⟨vs', q1, q0, q2⟩ := r2; exact ⟨vs', hs _ _ q1, q0, (q2.av less).same hs⟩
       | _ => exact r2
theorem ER.put {i : Nat} {a : Addr} {d d' : D} (E : ER G ow H0 av A σ H δ) (hi : A i = some a) (hd : δ[i]? = some (some d)) (hk : ∀ b o, b ≠ a -> H b = some o -> H' b = some o) (hl : H' a ≠ none) (ho : Own G.1 (AV av A) H' d' a) :
 ER G ow H0 av A σ H' (δ.set i (some d')) := by
 have kk : ∀ b o, ¬ AV av A b -> H b = some o -> H' b = some o := fun b o n e => hk b o (fun z => n (.inr ⟨i, by rw [z]; exact hi⟩)) e
 refine ⟨fun b o e => hk b o (fun z => ?_) (E.same b o e), E.avd, E.fr, E.inj, fun j b e => ?_, E.dom, E.dom', by simp [E.len], E.pin, E.kept, fun j d'' e => ?_⟩
 · rw [z, E.fr i a hi] at e; cases e
 · by_cases q : b = a
   · subst q; exact hl
   · have := E.live j b e
     cases e' : H b with
     | none => exact absurd e' this
     | some o => rw [hk b o q e']; exact fun z => by cases z
 · rcases U3 e with ⟨rfl, rfl, hl'⟩ | ⟨q, e'⟩
   · obtain ⟨v, h1, _, h3⟩ := E.var j d hd
     obtain ⟨r1, _⟩ := h3 a hi
     exact ⟨v, h1, fun z => (by rw [hi] at z; cases z), fun b z => by
      rw [hi] at z; cases z
      exact ⟨r1, ho⟩⟩
   · obtain ⟨v', h1, h2, h3⟩ := E.var j d'' e'
     refine ⟨v', h1, fun z => (h2 z).ext kk, fun b z => ?_⟩
     obtain ⟨r1, r2⟩ := h3 b z
     have nb : b ≠ a := fun w => q (E.inj j i a (by rw [<- w]; exact z) hi)
     refine ⟨r1, ?_⟩
     cases d'' with
     | lst xs => obtain ⟨vs, q1, q2⟩ := r2; exact ⟨vs, hk _ _ nb q1, q2.ext kk⟩
     | obj c ks xs => obtain ⟨dx, vs, q1, q0, q2⟩ := r2; exact ⟨dx, vs, hk _ _ nb q1, q0, q2.ext kk⟩
     | dct ks xs => obtain ⟨vs, q1, q0, q2⟩ := r2; exact ⟨vs, hk _ _ nb q1, q0, q2.ext kk⟩
     | dtt ks xs => obtain ⟨vs, q1, q0, q2⟩ := r2; exact ⟨vs, hk _ _ nb q1, q0, q2.ext kk⟩
     | _ => exact r2
theorem ER.freeze (i : Nat) (E : ER G ow H0 av A σ H δ) (hw : ∀ j, j ∈ ow1 ↔ j ∈ ow /\ j ≠ i) (hn : G.2 i = none) : ER G ow1 H0 av (fun j => if j = i then none else A j) σ H δ := by
 have less : ∀ b, AV av (fun j => if j = i then none else A j) b -> AV av A b := fun b z => by
  rcases z with z | ⟨j, z⟩
  · exact .inl z
  · by_cases e : j = i
    · simp [e] at z
    · simp [e] at z; exact .inr ⟨j, z⟩
 refine ⟨E.same, E.avd, fun j a e => ?_, fun j k a e1 e2 => ?_, fun j a e => ?_, fun j e => ?_, fun j hj => ?_, E.len, fun j a e => (by
  have q : j ≠ i := fun z => by rw [z, hn] at e; cases e
  simp only [q, if_false]; exact E.pin j a e), E.kept, fun j d' e => ?_⟩
 · by_cases q : j = i
   · simp [q] at e
   · simp [q] at e; exact E.fr j a e
 · by_cases q : j = i
   · simp [q] at e1
   · by_cases q2 : k = i
     · simp [q2] at e2
     · simp [q] at e1; simp [q2] at e2; exact E.inj j k a e1 e2
 · by_cases q : j = i
   · simp [q] at e
   · simp [q] at e; exact E.live j a e
 · by_cases q : j = i
   · simp [q] at e
   · simp [q] at e; exact (hw j).mpr ⟨E.dom j e, q⟩
 · obtain ⟨h1, h2⟩ := (hw j).mp hj
   simp [h2]
   exact E.dom' j h1
 · obtain ⟨v', h1, h2, h3⟩ := E.var j d' e
   refine ⟨v', h1, fun z => ?_, fun a z => ?_⟩
   · by_cases q : j = i
     · subst q
       cases hA : A j with
       | none => exact (h2 hA).av fun b z => .inl (less b z)
       | some a =>
        obtain ⟨rfl, r2⟩ := h3 a hA
        have na : ¬ AV av (fun k => if k = j then none else A k) a := fun z => by
         rcases z with z | ⟨k, z⟩
         · exact E.avd a z (E.fr j a hA)
         · by_cases qk : k = j
           · simp [qk] at z
           · simp [qk] at z; exact qk (E.inj k j a z hA)
        cases d' with
        | lst xs => obtain ⟨vs, q1, q2⟩ := r2; unfold Rep; exact ⟨a, vs, rfl, fun z => (na z).elim, SqL.of q1, q2.av fun b z => .inl (less b z)⟩
        | obj c ks xs => obtain ⟨dx, vs, q1, q0, q2⟩ := r2; unfold Rep; exact ⟨a, dx, vs, rfl, na, q1, q0, q2.av fun b z => .inl (less b z)⟩
        | dct ks xs => obtain ⟨vs, q1, q0, q2⟩ := r2; unfold Rep; exact ⟨a, vs, rfl, na, q1, q0, q2.av fun b z => .inl (less b z)⟩
        | dtt ks xs => obtain ⟨vs, q1, q0, q2⟩ := r2; unfold Rep; exact ⟨a, vs, rfl, na, q1, q0, q2.av fun b z => .inl (less b z)⟩
        | _ => exact False.elim r2
     · simp [q] at z
       exact (h2 z).av fun b z => .inl (less b z)
   · by_cases q : j = i
     · simp [q] at z
     · simp [q] at z
       obtain ⟨r1, r2⟩ := h3 a z
       refine ⟨r1, ?_⟩
       cases d' with
       | lst xs => obtain ⟨vs, q1, q2⟩ := r2; exact ⟨vs, q1, q2.av fun b z => .inl (less b z)⟩
       | obj c ks xs => obtain ⟨dx, vs, q1, q0, q2⟩ := r2; exact ⟨dx, vs, q1, q0, q2.av fun b z => .inl (less b z)⟩
       | dct ks xs => obtain ⟨vs, q1, q0, q2⟩ := r2; exact ⟨vs, q1, q0, q2.av fun b z => .inl (less b z)⟩
       | dtt ks xs => obtain ⟨vs, q1, q0, q2⟩ := r2; exact ⟨vs, q1, q0, q2.av fun b z => .inl (less b z)⟩
       | _ => exact r2
open Classical in
noncomputable def cut (A : Nat -> Option Addr) (H : Hp) : Hp := fun b => if ∃ i, A i = some b then none else H b
theorem Za8 {b : Addr} {o : HO} (h : cut A H b = some o) : H b = some o /\ ¬ ∃ i, A i = some b := by
 unfold cut at h
 by_cases e : ∃ i, A i = some b
 · rw [if_pos e] at h; cases h
 · rw [if_neg e] at h; exact ⟨h, e⟩
theorem Y3 {b : Addr} (e : ¬ ∃ i, A i = some b) : cut A H b = H b := by
 unfold cut
 rw [if_neg e]
theorem ER.cut (E : ER G ow H0 av A σ H δ) : ER G ow (DL.cut A H) av A σ H δ := by
 refine ⟨fun b o e => (Za8 e).1, fun a z => ?_, fun i a e => ?_, E.inj, E.live, E.dom, E.dom', E.len, E.pin, E.kept, E.var⟩
 · rw [Y3 fun ⟨i, e⟩ => E.avd a z (E.fr i a e)]
   exact E.avH a z
 · unfold DL.cut
   rw [if_pos ⟨i, e⟩]
theorem ER.sub0 (E : ER G ow H0 av A σ H δ) : Same H0 (DL.cut A H) := fun b o e => by
 rw [Y3 fun ⟨i, z⟩ => by rw [E.fr i b z] at e; cases e]
 exact E.same b o e
theorem ER.uncut {A' : Nat -> Option Addr} {σ' : L2.St} {δ' : Env} (E : ER G ow H0 av A σ H δ) (E' : ER G ow1 (DL.cut A H) av A' σ' H' δ') : ER G ow1 H0 av A' σ' H' δ' :=
 ⟨E.sub0.trans E'.same, E.avd, fun i a e => E.sub0.free (E'.fr i a e), E'.inj, E'.live, E'.dom, E'.dom', E'.len, E'.pin, E'.kept, E'.var⟩
def sNext (δ : Env) : Option Out := some (.nx δ)
theorem XC : VS G ow ow owB owC tNext sNext := fun H0 av A σ H δ E o e De k => by
 cases e
 exact k A σ H E
def Zd (φ ψ : Env -> Option Out) (δ : Env) : Option Out := match φ δ with
 | some (.nx δ') => ψ δ'
 | r => r
theorem ZA {t u : TS} {φ ψ : Env -> Option Out} (h1 : VS G ow ow1 owB owC t φ) (h2 : VS G ow1 owN owB owC u ψ) : VS G ow owN owB owC (Xg t u) (Zd φ ψ) := fun H0 av A σ H δ E o e De k => by
 unfold Zd at e
 cases he : φ δ with
 | none => rw [he] at e; cases e
 | some o1 =>
  rw [he] at e
  refine h1 H0 av A σ H δ E o1 he _ ?_
  cases o1 with
  | nx δ' => exact fun A' σ' H' E' => h2 H0 av A' σ' H' δ' E' o e De k
  | rt d => cases e; exact k
  | bk δ' => cases e; exact k
  | ct δ' => cases e; exact k
def sIf (τ : Env -> Option Bool) (φ ψ : Env -> Option Out) (δ : Env) : Option Out := match τ δ with
 | some true => φ δ
 | some false => ψ δ
 | none => none
theorem XD {c : TT} {t u : TS} {τ : Env -> Option Bool} {φ ψ : Env -> Option Out} (hc : VT G ow c τ) (h1 : VS G ow owN owB owC t φ) (h2 : VS G ow owN owB owC u ψ) : VS G ow owN owB owC (Qw c t u) (sIf τ φ ψ) := fun H0 av A σ H δ E o e De k => by
 unfold sIf at e
 cases he : τ δ with
 | none => rw [he] at e; cases e
 | some b =>
  rw [he] at e
  refine hc H0 av A σ H δ E b he _ fun H' s => ?_
  cases b with
  | true => exact Xw (h1 H0 av A σ H' δ (E.mono s) o e De k)
  | false => exact Xv (h2 H0 av A σ H' δ (E.mono s) o e De k)
def Zs (ε : Env -> Option D) (δ : Env) : Option Out := match ε δ with
 | some d => some (.rt d)
 | none => none
theorem Yi {te : TE} {q : Ql} {ε : Env -> Option D} (h : VE G ow te q ε) : VS G ow owN owB owC (UK te) (Zs ε) := fun H0 av A σ H δ E o e De k => by
 unfold Zs at e
 cases he : ε δ with
 | none => rw [he] at e; cases e
 | some d =>
  rw [he] at e
  cases e
  exact h H0 av A σ H δ E d he _ fun v H' s r => k v H' (E.same.trans s) r.any
def Ze9 (_ : Env) : Option Out := some (.rt .non)
def ZdC (_ : Env) : Option Out := none
def Zi (i : Nat) (ε : Env -> Option D) (δ : Env) : Option Out := match ε δ with
 | some d => some (.nx (δ.set i (some d)))
 | none => none
theorem XE {i : Nat} (h1 : sub ow1 ow = true) (h2 : ow1.contains i = false) (h3 : sub ow (i :: ow1) = true) : ∀ j, j ∈ ow1 ↔ j ∈ ow /\ j ≠ i := fun j => by
 constructor
 · intro h
   refine ⟨U2 h1 j h, fun e => ?_⟩
   subst e
   have : j ∉ ow1 := by simpa using h2
   exact this h
 · rintro ⟨h, n⟩
   rcases List.mem_cons.mp (U2 h3 j h) with e | e
   · exact absurd e n
   · exact e
theorem Za9 {i : Nat} (h1 : sub ow1 (i :: ow) = true) (h2 : ow1.contains i = true) (h3 : sub ow ow1 = true) : ∀ j, j ∈ ow1 ↔ j ∈ ow \/ j = i := fun j => by
 constructor
 · intro h
   rcases List.mem_cons.mp (U2 h1 j h) with e | e
   · exact .inr e
   · exact .inl e
 · rintro (h | rfl)
   · exact U2 h3 j h
   · simpa using h2
theorem Z9 {te : TE} {ε : Env -> Option D} (i : Nat) (h : VE G ow te .cl ε) (hn : G.2 i = none) (h1 : sub owN ow = true) (h2 : owN.contains i = false) (h3 : sub ow (i :: owN) = true) : VS G ow owN owB owC (YW te (Yn i)) (Zi i ε) := fun H0 av A σ H δ E o e De k => by
 unfold Zi at e
 cases he : ε δ with
 | none => rw [he] at e; cases e
 | some d =>
  rw [he] at e
  cases e
  exact h H0 av A σ H δ E d he _ fun v H' s r => k _ _ H' ((E.mono s).set (RepT.r r) (XE h1 h2 h3) hn)
theorem VB {te : TE} {ε : Env -> Option D} (i : Nat) (h : VF G ow te ε) (hn : G.2 i = none) (h1 : sub owN (i :: ow) = true) (h2 : owN.contains i = true) (h3 : sub ow owN = true) : VS G ow owN owB owC (YW te (Yn i)) (Zi i ε) := fun H0 av A σ H δ E o e De k => by
 unfold Zi at e
 cases he : ε δ with
 | none => rw [he] at e; cases e
 | some d =>
  rw [he] at e
  cases e
  refine h H0 av A σ H δ E d he _ fun p vs xs H1 s hp l hd => ?_
  subst hd
  exact k _ _ _ ((E.mono s).own hp l (Za9 h1 h2 h3) hn)
def Zfa (ε : Env -> Option D) (δ : Env) : Option Out := match ε δ with
 | some _ => some (.nx δ)
 | none => none
def Ya (i : Nat) (ε : Env -> Option D) (δ : Env) : Option Out := match Za i δ with
 | some (.lst xs) => match ε δ with
  | some d => if xs.length < sizeLine then some (.nx (δ.set i (some (.lst (xs ++ [d]))))) else none
  | none => none
 | _ => none
theorem Uh {K : PySem.W.Frag} {te : TE} {ε : Env -> Option D} (i : Nat) (hi : ow.contains i = true) (h : VE G ow te .cl ε) : VS G ow ow owB owC (UJ (tBM K "list" rAppend (Ym i) (Xj te tNil))) (Ya i ε) := fun H0 av A σ H δ E o e De k => by
 unfold Ya at e
 cases hv : Za i δ with
 | none => rw [hv] at e; cases e
 | some x =>
  rw [hv] at e
  cases x <;> first | (cases e; done) | skip
  rename_i xs
  dsimp only at e
  cases he : ε δ with
  | none => rw [he] at e; cases e
  | some d =>
   rw [he] at e
   dsimp only at e
   by_cases hz : xs.length < sizeLine
   · rw [if_pos hz] at e
     cases e
     have hi' : i ∈ ow := by simpa using hi
     cases hA : A i with
     | none => exact absurd hA (E.dom' i hi')
     | some a =>
      obtain ⟨v, h1, _, h3⟩ := E.var i _ (YH hv)
      obtain ⟨rfl, vs, q1, q2⟩ := h3 a hA
      refine ⟨_, h1, .inl ⟨rfl, vs, SqL.of q1⟩, h H0 av A σ H δ E d he _ fun v H' s r => ?_⟩
      have E' := E.mono s
      have q1' := s _ _ q1
      refine ⟨a, vs, v, rfl, rfl, q1', by rw [<- q2.length]; exact hz, k A σ _ (E'.put hA (YH hv) (fun b o hb e => by rw [Zj hb]; exact e) (by rw [ZB]; exact fun z => by cases z) ⟨_, ZB, ?_⟩)⟩
      have ex : ∀ b o, ¬ AV av A b -> H' b = some o -> upd H' a (.lst (vs ++ [v])) b = some o := fun b o n e => by
       rw [Zj fun z => n (.inr ⟨i, by rw [z]; exact hA⟩)]
       exact e
      exact ((q2.same s).append (.cons (RepT.r r) .nil)).ext ex
   · rw [if_neg hz] at e; cases e
theorem VS.frz {t : TS} {φ : Env -> Option Out} (i : Nat) (h : VS G ow1 owN owB owC t φ) (hn : G.2 i = none) (h1 : sub ow1 ow = true) (h2 : ow1.contains i = false) (h3 : sub ow (i :: ow1) = true) : VS G ow owN owB owC t φ := fun H0 av A σ H δ E o e De k =>
 h H0 av _ σ H δ (E.freeze i (XE h1 h2 h3) hn) o e De k
theorem VS.frzN {t : TS} {φ : Env -> Option Out} (i : Nat) (h : VS G ow owN owB owC t φ) (hn : G.2 i = none) (h1 : sub ow1 owN = true) (h2 : ow1.contains i = false) (h3 : sub owN (i :: ow1) = true) : VS G ow ow1 owB owC t φ := fun H0 av A σ H δ E o e De k =>
 h H0 av A σ H δ E o e De (by
  cases o with
  | nx δ' => exact fun A' σ' H' E' => k _ σ' H' (E'.freeze i (XE h1 h2 h3) hn)
  | rt d => exact k
  | bk δ' => exact k
  | ct δ' => exact k)
def Zf (i : Nat) (d : D) (δ : Env) : Option Env := some (δ.set i (some d))
theorem Yj (i : Nat) (hi : ow.contains i = false) (hn : G.2 i = none) : VG G ow ow (Yn i) (Zf i) := fun H0 av A σ H δ E d v r δ' e Q k => by
 cases e
 exact k _ _ H (Same.refl H) (E.set r (fun j => by
  have : i ∉ ow := by simpa using hi
  exact ⟨fun h => ⟨h, fun z => this (z ▸ h)⟩, fun h => h.1⟩) hn)
def VGs (G : Cn) (ow ow' : List Nat) (g : TGs) (γ : List D -> Env -> Option Env) : Prop :=
 ∀ H0 av A σ H δ, ER G ow H0 av A σ H δ -> ∀ ds vs, RepL G.1 (AV av A) H ds vs -> ∀ δ', γ ds δ = some δ' -> ∀ Q : L2.St -> Hp -> Prop, (∀ A' σ' H', Same H H' -> (∀ b, AV av A' b -> AV av A b) -> ER G ow' H0 av A' σ' H' δ' -> Q σ' H') -> g vs σ H Q
def gsNil (ds : List D) (δ : Env) : Option Env := match ds with
 | [] => some δ
 | _ => none
theorem Zec : VGs G ow ow gNil gsNil := fun H0 av A σ H δ E ds vs r δ' e Q k => by
 cases ds with
 | nil => cases e; exact ⟨r.nil_of, k A σ H (Same.refl H) (fun _ z => z) E⟩
 | cons _ _ => cases e
def YA (i : Nat) (γs : List D -> Env -> Option Env) (ds : List D) (δ : Env) : Option Env := match ds with
 | d :: r => γs r (δ.set i (some d))
 | [] => none
theorem Zba {gs : TGs} {γs : List D -> Env -> Option Env} (i : Nat) (hi : ow.contains i = false) (hn : G.2 i = none) (h : VGs G ow ow gs γs) : VGs G ow ow (ZeW (Yn i) gs) (YA i γs) := fun H0 av A σ H δ E ds vs r δ' e Q k => by
 cases ds with
 | nil => cases e
 | cons d ds =>
  obtain ⟨v, vr, rfl, r1, r2⟩ := r.uncons
  refine ⟨v, vr, rfl, ?_⟩
  have less : ∀ b, AV av (fun j => if j = i then none else A j) b -> AV av A b := fun b z => by
   rcases z with z | ⟨j, z⟩
   · exact .inl z
   · by_cases e : j = i
     · simp [e] at z
     · simp [e] at z; exact .inr ⟨j, z⟩
  have E1 : ER G ow H0 av (fun j => if j = i then none else A j) (σ.set i (some v)) H (δ.set i (some d)) := E.set r1 (fun j => by
   have : i ∉ ow := by simpa using hi
   exact ⟨fun h => ⟨h, fun z => this (z ▸ h)⟩, fun h => h.1⟩) hn
  exact h H0 av _ _ H _ E1 ds vr (r2.av fun b z => .inl (less b z)) δ' e Q fun A' σ' H' s l E' => k A' σ' H' s (fun b z => less b (l b z)) E'
def XF (n : Nat) (γs : List D -> Env -> Option Env) (d : D) (δ : Env) : Option Env := match d with
 | .tup ds => if ds.length = n then γs ds δ else none
 | _ => none
theorem ZfV {K : PySem.W.Frag} {n : Nat} {gs : TGs} {γs : List D -> Env -> Option Env} (h : VGs G ow ow gs γs) : VG G ow ow (Qx K n gs) (XF n γs) := fun H0 av A σ H δ E d v r δ' e Q k => by
 cases d <;> first | (cases e; done) | skip
 rename_i ds
 dsimp only [XF] at e
 by_cases hz : ds.length = n
 · rw [if_pos hz] at e
   unfold Rep at r
   obtain ⟨a, vs, rfl, _, rd, l⟩ := r
   exact ⟨a, vs, rfl, SqT.of rd, by rw [<- l.length]; exact hz, h H0 av A σ H δ E ds vs l δ' e Q fun A' σ' H' s _ E' => k A' σ' H' s E'⟩
 · rw [if_neg hz] at e; cases e
def XG (cA : Kn) (iv : Addr -> Prop) (J : It) (xs : List D) (H0 : Hp) : Prop := ∀ H, Same H0 H ->
 (∀ i, i < xs.length -> J.go i H) /\
 (∀ (i : Nat) x v H', xs[i]? = some x -> J.yld i H v H' -> Same H H' /\ ∀ av' : Addr -> Prop, (∀ b, av' b -> H b ≠ none) -> (∀ b, av' b -> iv b \/ H0 b = none) -> Rep cA av' H' x v) /\
 (∀ i, xs.length <= i -> J.stop i H)
def VI (G : Cn) (ow : List Nat) (wi : TI) (ι : Env -> Option (List D)) : Prop :=
 ∀ H0 av A σ H δ, ER G ow H0 av A σ H δ -> ∀ xs, ι δ = some xs -> ∀ R : It -> Hp -> Prop, (∀ J H1, Same H H1 -> XG G.1 (AV av A) J xs (DL.cut A H1) -> R J H1) -> wi σ H R
def Zt (γ : D -> Env -> Option Env) (φ : Env -> Option Out) : List D -> Env -> Option Out
 | [], δ => some (.nx δ)
 | x :: r, δ => match γ x δ with
  | none => none
  | some δ1 => match φ δ1 with
   | none => none
   | some (.nx δ2) => Zt γ φ r δ2
   | some (.ct δ2) => Zt γ φ r δ2
   | some (.bk δ2) => some (.nx δ2)
   | some (.rt d) => some (.rt d)
def ZE (ι : Env -> Option (List D)) (γ : D -> Env -> Option Env) (φ : Env -> Option Out) (δ : Env) : Option Out := match ι δ with
 | some xs => Zt γ φ xs δ
 | none => none
theorem XH {wi : TI} {g : TG} {tb : TS} {ι : Env -> Option (List D)} {γ : D -> Env -> Option Env} {φ : Env -> Option Out} (hi : VI G ow wi ι) (hg : VG G ow ow g γ) (hb : VS G ow ow ow ow tb φ) : VS G ow ow owB owC (V1 wi g tb) (ZE ι γ φ) := fun H0 av A σ H δ E o e De k => by
 unfold ZE at e
 cases he : ι δ with
 | none => rw [he] at e; cases e
 | some xs =>
  rw [he] at e
  have e : Zt γ φ xs δ = some o := e
  refine hi H0 av A σ H δ E xs he _ fun J H1 s1 W => ?_
  have E1 := E.mono s1
  refine ⟨fun i m σ' H' => m = xs.length - i /\ i <= xs.length /\ ∃ A' δ', ER G ow (DL.cut A H1) av A' σ' H' δ' /\ Zt γ φ (xs.drop i) δ' = some o, ⟨xs.length, by simp, Nat.zero_le _, A, δ, E1.cut, e⟩, ?_⟩
  rintro i m σ' H' ⟨rfl, hle, A', δ', E', e'⟩
  obtain ⟨w1, w2, w3⟩ := W H' E'.same
  by_cases hlt : i < xs.length
  · refine .inr ⟨w1 i hlt, fun σ2 H2 => ∃ A2 δ2, ER G ow (DL.cut A H1) av A2 σ2 H2 δ2 /\ Zt γ φ (xs.drop (i + 1)) δ2 = some o, fun σ2 H2 ⟨A2, δ2, E2, e2⟩ => ⟨xs.length - (i + 1), by omega, rfl, hlt, A2, δ2, E2, e2⟩, fun v H2 y => ?_⟩
    have hx : xs[i]? = some xs[i] := List.getElem?_eq_getElem hlt
    obtain ⟨s2, rep⟩ := w2 i _ v H2 hx y
    have E2 := E'.mono s2
    have rep' : Rep G.1 (AV av A') H2 xs[i] v := rep _ E'.avl fun b z => by
     rcases z with z | ⟨j, z⟩
     · exact .inl (.inl z)
     · exact .inr (E'.fr j b z)
    rw [List.drop_eq_getElem_cons hlt] at e'
    unfold Zt at e'
    cases hγ : γ xs[i] δ' with
    | none => rw [hγ] at e'; cases e'
    | some δ1 =>
     rw [hγ] at e'
     dsimp only at e'
     refine hg _ av A' σ' H2 δ' E2 _ v rep' δ1 hγ _ fun A3 σ3 H3 s3 E3 => ?_
     cases hφ : φ δ1 with
     | none => rw [hφ] at e'; cases e'
     | some o1 =>
      rw [hφ] at e'
      refine hb _ av A3 σ3 H3 δ1 E3 o1 hφ _ ?_
      cases o1 with
      | nx δ2 => exact fun A4 σ4 H4 E4 => ⟨A4, δ2, E4, e'⟩
      | ct δ2 => exact fun A4 σ4 H4 E4 => ⟨A4, δ2, E4, e'⟩
      | bk δ2 => cases e'; exact fun A4 σ4 H4 E4 => k A4 σ4 H4 (E1.uncut E4)
      | rt d => cases e'; exact fun v H4 s4 r4 => k v H4 (E1.sub0.trans s4) r4
  · have ei : i = xs.length := by omega
    subst ei
    rw [List.drop_length] at e'
    cases e'
    exact .inl ⟨w3 _ (Nat.le_refl _), k A' σ' H' (E1.uncut E')⟩
def Yd (τ : Env -> Option Bool) (φ : Env -> Option Out) : Nat -> Env -> Option Out
 | 0, _ => none
 | n + 1, δ => match τ δ with
  | none => none
  | some false => some (.nx δ)
  | some true => match φ δ with
   | none => none
   | some (.nx δ2) => Yd τ φ n δ2
   | some (.ct δ2) => Yd τ φ n δ2
   | some (.bk δ2) => some (.nx δ2)
   | some (.rt d) => some (.rt d)
theorem U4 {τ : Env -> Option Bool} {φ : Env -> Option Out} : ∀ (n k : Nat) (δ : Env) (o : Out), Yd τ φ n δ = some o -> Yd τ φ (n + k) δ = some o
 | 0, _, _, _, h => by cases h
 | n + 1, k, δ, o, h => by
  rw [Nat.add_right_comm]
  unfold Yd at h ⊢
  cases ht : τ δ with
  | none => rw [ht] at h; cases h
  | some b =>
   rw [ht] at h
   cases b with
   | false => exact h
   | true =>
    dsimp only at h ⊢
    cases hp : φ δ with
    | none => rw [hp] at h; cases h
    | some o1 =>
     rw [hp] at h
     cases o1 with
     | nx δ2 => exact U4 n k δ2 o h
     | ct δ2 => exact U4 n k δ2 o h
     | bk δ2 => exact h
     | rt d => exact h
open Classical in
noncomputable def YI (τ : Env -> Option Bool) (φ : Env -> Option Out) (δ : Env) : Option Out := if h : ∃ n o, Yd τ φ n δ = some o then Yd τ φ (Classical.choose h) δ else none
theorem ZcC {τ : Env -> Option Bool} {φ : Env -> Option Out} {δ : Env} {n : Nat} {o : Out} (h : Yd τ φ n δ = some o) : YI τ φ δ = some o := by
 have hx : ∃ n o, Yd τ φ n δ = some o := ⟨n, o, h⟩
 unfold YI
 rw [dif_pos hx]
 obtain ⟨o', ho'⟩ := Classical.choose_spec hx
 have h1 := U4 _ n δ o' ho'
 have h2 := U4 _ (Classical.choose hx) δ o h
 rw [Nat.add_comm, h2] at h1
 rw [ho', h1]
theorem ZaU {τ : Env -> Option Bool} {φ : Env -> Option Out} {δ : Env} {o : Out} (h : YI τ φ δ = some o) : ∃ n, Yd τ φ n δ = some o := by
 unfold YI at h
 split at h
 · exact ⟨_, h⟩
 · cases h
theorem Q1 {c : TT} {tb : TS} {τ : Env -> Option Bool} {φ : Env -> Option Out} (hc : VT G ow c τ) (hb : VS G ow ow ow ow tb φ) : VS G ow ow owB owC (Zdr c tb) (YI τ φ) := fun H0 av A σ H δ E o e De k => by
 obtain ⟨n, e⟩ := ZaU e
 refine ⟨fun m σ' H' => ∃ A' δ', ER G ow H0 av A' σ' H' δ' /\ Yd τ φ m δ' = some o, ⟨n, A, δ, E, e⟩, ?_⟩
 rintro m σ' H' ⟨A', δ', E', e'⟩
 cases m with
 | zero => cases e'
 | succ m =>
  unfold Yd at e'
  cases ht : τ δ' with
  | none => rw [ht] at e'; cases e'
  | some b =>
   rw [ht] at e'
   refine hc H0 av A' σ' H' δ' E' b ht _ fun H2 s2 => ?_
   have E2 := E'.mono s2
   cases b with
   | false => cases e'; exact Xv (k A' σ' H2 E2)
   | true =>
    dsimp only at e'
    refine Xw ⟨fun σ3 H3 => ∃ A3 δ3, ER G ow H0 av A3 σ3 H3 δ3 /\ Yd τ φ m δ3 = some o, fun σ3 H3 ⟨A3, δ3, E3, e3⟩ => ⟨m, Nat.lt_succ_self _, A3, δ3, E3, e3⟩, ?_⟩
    cases hφ : φ δ' with
    | none => rw [hφ] at e'; cases e'
    | some o1 =>
     rw [hφ] at e'
     refine hb H0 av A' σ' H2 δ' E2 o1 hφ _ ?_
     cases o1 with
     | nx δ2 => exact fun A4 σ4 H4 E4 => ⟨A4, δ2, E4, e'⟩
     | ct δ2 => exact fun A4 σ4 H4 E4 => ⟨A4, δ2, E4, e'⟩
     | bk δ2 => cases e'; exact k
     | rt d => cases e'; exact k
end
end DL
namespace DL
open PySem PySem.Spec L2
section
variable {cA : Kn} {G : Cn} {ow owN owB owC : List Nat}
def ZF (ε : Env -> Option D) (δ : Env) : Option (List D) := match ε δ with
 | some (.lst xs) => some xs
 | some (.tup xs) => some xs
 | some (.str cs) => some (cs.map fun c => .str [c])
 | _ => none
theorem Rep.cut {av : Addr -> Prop} {A : Nat -> Option Addr} {H : Hp} {d : D} {v : V} (h : Rep cA (AV av A) H d v) : Rep cA (AV av A) (DL.cut A H) d v := h.ext fun b o n e => by
 rw [Y3 fun ⟨i, z⟩ => n (.inr ⟨i, z⟩)]
 exact e
theorem RepL.cut {av : Addr -> Prop} {A : Nat -> Option Addr} {H : Hp} {d : List D} {v : List V} (h : RepL cA (AV av A) H d v) : RepL cA (AV av A) (DL.cut A H) d v := h.ext fun b o n e => by
 rw [Y3 fun ⟨i, z⟩ => n (.inr ⟨i, z⟩)]
 exact e
theorem Zak {iv : Addr -> Prop} {H0 : Hp} {a : Addr} {vs : List V} {xs : List D} (rd : SqL cA.K H0 a vs) (l : RepL cA iv H0 xs vs) : XG cA iv (Itl cA.K a) xs H0 := fun H s => by
 have rd' : SqL cA.K H a vs := s.seq rd
 refine ⟨fun i hi => ?_, fun i x v H' hx y => ?_, fun i hi => ⟨vs, rd', by rw [<- l.length]; exact hi⟩⟩
 · obtain ⟨v, hv, _⟩ := l.get (List.getElem?_eq_getElem hi)
   exact ⟨vs, v, rd', hv⟩
 · obtain ⟨rfl, hy⟩ := y
   obtain ⟨v', hv, r⟩ := l.get hx
   rw [hy vs rd'] at hv
   cases hv
   exact ⟨Same.refl _, fun av' _ h2 => (r.av h2).same s⟩
theorem ZcD {K : PySem.W.Frag} {iv : Addr -> Prop} {H0 : Hp} {a : Addr} {vs : List V} {xs : List D} (rd : H0 a = some (.tup vs)) (l : RepL cA iv H0 xs vs) : XG cA iv (Itt K a) xs H0 := fun H s => by
 have rd' : SqT K H a vs := SqT.of (s _ _ rd)
 refine ⟨fun i hi => ?_, fun i x v H' hx y => ?_, fun i hi => ⟨vs, rd', by rw [<- l.length]; exact hi⟩⟩
 · obtain ⟨v, hv, _⟩ := l.get (List.getElem?_eq_getElem hi)
   exact ⟨vs, v, rd', hv⟩
 · obtain ⟨rfl, hy⟩ := y
   obtain ⟨v', hv, r⟩ := l.get hx
   rw [hy vs rd'] at hv
   cases hv
   exact ⟨Same.refl _, fun av' _ h2 => (r.av h2).same s⟩
theorem ZcE {iv : Addr -> Prop} {H0 : Hp} {cs : List Nat} : XG cA iv (Its cs) (cs.map fun c => .str [c]) H0 := fun H s => by
 refine ⟨fun i hi => (show i < cs.length by simpa using hi), fun i x v H' hx y => ?_, fun i hi => (show cs.length <= i by simpa using hi)⟩
 obtain ⟨rfl, c, hc, rfl⟩ := y
 rw [List.getElem?_map, hc] at hx
 cases hx
 exact ⟨Same.refl _, fun _ _ _ => rfl⟩
theorem Xl {tl : TE} {ε : Env -> Option D} (h : VE G ow tl .cl ε) : VI G ow (Vp G.1.K tl) (ZF ε) := fun H0 av A σ H δ E xs e R k => by
 unfold ZF at e
 cases he : ε δ with
 | none => rw [he] at e; cases e
 | some d =>
  rw [he] at e
  refine h H0 av A σ H δ E d he _ fun v H1 s r => ?_
  cases d <;> first | (cases e; done) | skip
  · cases e
    exact .inr (.inr ⟨_, r, k _ H1 s ZcE⟩)
  · cases e
    obtain ⟨a, vs, rfl, na, rd, l⟩ := r
    exact .inl ⟨a, vs, rfl, rd, k _ H1 s (Zak (UT na rd fun b o n e => by rw [Y3 fun ⟨i, z⟩ => n (.inr ⟨i, z⟩)]; exact e) l.cut)⟩
  · cases e
    obtain ⟨a, vs, rfl, na, rd, l⟩ := r
    exact .inr (.inl ⟨a, vs, rfl, SqT.of rd, k _ H1 s (ZcD (by rw [Y3 fun ⟨i, z⟩ => na (.inr ⟨i, z⟩)]; exact rd) l.cut)⟩)
def ZM (lo c : Int) (n : Nat) : List D := (List.range n).map fun k => .int (lo + (k : Nat) * c)
theorem ZaC {iv : Addr -> Prop} {H0 : Hp} {lo : Int} {n : Nat} : XG cA iv (Itr lo n) (ZM lo 1 n) H0 := fun H s => by
 refine ⟨fun i hi => (show i < n by simpa [ZM] using hi), fun i x v H' hx y => ?_, fun i hi => (show n <= i by simpa [ZM] using hi)⟩
 obtain ⟨rfl, rfl⟩ := y
 have hi : i < n := by have := (List.getElem?_eq_some_iff.mp hx).1; simpa [ZM] using this
 have : x = .int (lo + i) := by
  unfold ZM at hx
  rw [List.getElem?_map, List.getElem?_range hi] at hx
  have := Option.some.inj hx
  rw [<- this]
  show D.int (lo + (i : Int) * 1) = _
  rw [Int.mul_one]
 subst this
 exact ⟨Same.refl _, fun _ _ _ => rfl⟩
def ZV (α : Env -> Option (List D)) (δ : Env) : Option (List D) := match α δ with
 | some [.int j] => if -(2 ^ 62) <= j /\ j < 2 ^ 62 then some (ZM 0 1 j.toNat) else none
 | some [.int i, .int j] => if -(2 ^ 62) <= i /\ i < 2 ^ 62 /\ -(2 ^ 62) <= j /\ j < 2 ^ 62 then some (ZM i 1 (j - i).toNat) else none
 | some [.int i, .int j, .int c] => if c ≠ 0 /\ c.natAbs < 1073741824 /\ Builtin.Range.small i j c = true then some (ZM i c (Builtin.Range.rangeSize i j c).toNat) else none
 | _ => none
theorem ql1 {av : Addr -> Prop} {A : Nat -> Option Addr} {H : Hp} {q : Ql} {x : Int} {vs : List V} (h : RepQL cA av A H q [.int x] vs) : vs = [.int x] := by
 obtain ⟨v, r, rfl, h1, h2⟩ := h
 have := h1.any
 cases (show v = _ from this); cases (show r = [] from h2); rfl
theorem X9 {ta : TA} {q : Ql} {a : Env -> Option (List D)} (h : VA G ow ta q a) (hl : ∀ δ ds, a δ = some ds -> ds.length = 1) : VI G ow (Qz ta) (ZV a) := fun H0 av A σ H δ E xs e R k => by
 unfold ZV at e
 cases he : a δ with
 | none => rw [he] at e; cases e
 | some ds =>
  rw [he] at e
  refine h H0 av A σ H δ E ds he _ fun vs H1 s r => ?_
  have hln := hl δ ds he
  split at e
  · rename_i j he2
    cases he2
    by_cases hz : -(2 ^ 62) <= j /\ j < 2 ^ 62
    · rw [if_pos hz] at e
      cases e
      exact ⟨j, ql1 r, hz.1, hz.2, k _ H1 s ZaC⟩
    · rw [if_neg hz] at e; cases e
  · rename_i he2; cases he2; simp at hln
  · rename_i he2; cases he2; simp at hln
  · cases e
theorem Zed {δ : Env} {ds : List D} (h : eNil δ = some ds) : ds.length = 0 := by cases h; rfl
theorem Zc3 {a : Env -> Option D} {r : Env -> Option (List D)} {n : Nat} (hr : ∀ δ ds, r δ = some ds -> ds.length = n) : ∀ δ ds, Zb a r δ = some ds -> ds.length = n + 1 := fun δ ds h => by
 unfold Zb at h
 cases ha : a δ with
 | none => rw [ha] at h; cases h
 | some x =>
  rw [ha] at h
  cases hr' : r δ with
  | none => rw [hr'] at h; cases h
  | some xs => rw [hr'] at h; cases h; rw [List.length_cons, hr δ xs hr']
theorem XI {a : Env -> Option D} : ∀ δ ds, Zb a eNil δ = some ds -> ds.length = 1 := Zc3 fun _ _ => Zed
def ZW (n : Nat) (δ : Env) (js : List Nat) : Env := List.replicate n none ++ js.map fun j => (δ[j]?).getD none
def Zx (γ : D -> Env -> Option Env) (τ : Env -> Option Bool) (ε : Env -> Option D) (δ0 : Env) : List D -> Option (List D)
 | [] => some []
 | x :: r => match γ x δ0 with
  | none => none
  | some δ1 => match τ δ1 with
   | none => none
   | some false => Zx γ τ ε δ0 r
   | some true => match ε δ1 with
    | none => none
    | some y => match Zx γ τ ε δ0 r with
     | none => none
     | some ys => some (y :: ys)
def ZG (ι : Env -> Option (List D)) (γ : D -> Env -> Option Env) (τ : Env -> Option Bool) (ε : Env -> Option D) (n : Nat) (js : List Nat) (δ : Env) : Option D := match ι δ with
 | none => none
 | some xs => match Zx γ τ ε (ZW n δ js) xs with
  | none => none
  | some ys => if ys.length <= sizeLine then some (.lst ys) else none
theorem ER.blk {H0 H : Hp} {av : Addr -> Prop} {A : Nat -> Option Addr} {σ : L2.St} {δ : Env} (n : Nat) (js : List Nat) (hjs : js.all (fun j => !ow.contains j) = true) (E : ER G ow H0 av A σ H δ) :
 ER ⟨G.1, fun _ => none⟩ [] H (AV av A) (fun _ => none) (L2.blk n σ js) H (ZW n δ js) := by
 refine ⟨Same.refl H, E.avl, fun _ _ z => (by cases z), fun _ _ _ z => (by cases z), fun _ _ z => (by cases z), fun _ z => absurd rfl z, fun _ z => (by cases z), ?_, fun _ _ z => (by cases z), fun _ _ z => (by cases z), fun i d e => ?_⟩
 · unfold L2.blk ZW X5
   rw [List.length_append, List.length_append, List.length_replicate, List.length_replicate, List.length_map, List.length_map]
 · unfold ZW at e
   by_cases hi : i < n
   · rw [List.getElem?_append_left (by simpa using hi), List.getElem?_replicate, if_pos hi] at e
     cases e
   · rw [List.getElem?_append_right (by simpa using hi), List.length_replicate, List.getElem?_map] at e
     cases hj : js[i - n]? with
     | none => rw [hj] at e; cases e
     | some j =>
      rw [hj] at e
      have e' : (δ[j]?).getD none = some d := Option.some.inj e
      have e2 : δ[j]? = some (some d) := by
       cases q : δ[j]? with
       | none => rw [q] at e'; cases e'
       | some z => rw [q] at e'; exact congrArg some e'
      obtain ⟨v, h1, h2, _⟩ := E.var j d e2
      have hjo : A j = none := by
       cases q : A j with
       | none => rfl
       | some a =>
        have h3 := E.dom j (by rw [q]; exact fun z => by cases z)
        have h4 := List.all_eq_true.mp hjs j (List.mem_of_getElem? hj)
        simp at h4
        exact absurd h3 h4
      refine ⟨v, ?_, fun _ => (h2 hjo).av fun b z => ?_, fun _ z => (by cases z)⟩
      · unfold L2.blk X5
        rw [List.getElem?_append_right (by simpa using hi), List.length_replicate, List.getElem?_map, hj]
        show some ((σ[j]?).getD none) = _
        rw [h1]; rfl
      · rcases z with z | ⟨_, z⟩
        · exact .inl z
        · cases z
theorem Xm {wi : TI} {g : TG} {tt : TT} {te : TE} {n : Nat} {js : List Nat} {ι : Env -> Option (List D)} {γ : D -> Env -> Option Env} {τ : Env -> Option Bool} {ε : Env -> Option D}
 (hjs : js.all (fun j => !ow.contains j) = true) (hi : VI G ow wi ι) (hg : VG ⟨G.1, fun _ => none⟩ [] [] g γ) (ht : VT ⟨G.1, fun _ => none⟩ [] tt τ) (he : VE ⟨G.1, fun _ => none⟩ [] te .cl ε) : VF G ow (V9 wi g tt te n js) (ZG ι γ τ ε n js) := fun H0 av A σ H δ E d e Q k => by
 unfold ZG at e
 cases hι : ι δ with
 | none => rw [hι] at e; cases e
 | some xs =>
  rw [hι] at e
  dsimp only at e
  cases hc : Zx γ τ ε (ZW n δ js) xs with
  | none => rw [hc] at e; cases e
  | some full =>
   rw [hc] at e
   dsimp only at e
   by_cases hz : full.length <= sizeLine
   · rw [if_pos hz] at e
     have ed : D.lst full = d := Option.some.inj e
     refine hi H0 av A σ H δ E xs hι _ fun J H1 s1 W => ?_
     have E1 := E.mono s1
     refine ⟨fun i m ys H' => m = xs.length - i /\ i <= xs.length /\ Same H1 H' /\ ∃ done rest, RepL G.1 (AV av A) H' done ys /\ Zx γ τ ε (ZW n δ js) (xs.drop i) = some rest /\ done ++ rest = full,
      ⟨xs.length, by simp, Nat.zero_le _, Same.refl _, [], full, .nil, hc, rfl⟩, ?_⟩
     rintro i m ys H' ⟨rfl, hle, s', done, rest, rl, hr, hf⟩
     have E' := E1.mono s'
     have sc : Same (DL.cut A H1) H' := fun b o z => s' b o (Za8 z).1
     obtain ⟨w1, w2, w3⟩ := W H' sc
     by_cases hlt : i < xs.length
     · refine .inr ⟨w1 i hlt, fun v H2 y => ?_⟩
       have hx : xs[i]? = some xs[i] := List.getElem?_eq_getElem hlt
       obtain ⟨s2, rep⟩ := w2 i _ v H2 hx y
       have rep' : Rep G.1 (AV av A) H2 xs[i] v := rep _ E'.avl fun b z => .inl z
       have E2 := E'.mono s2
       have EB : ER ⟨G.1, fun _ => none⟩ [] H2 (AV av A) (fun _ => none) (L2.blk n σ js) H2 (ZW n δ js) := E2.blk n js hjs
       have triv : ∀ (A' : Nat -> Option Addr) {σ' : L2.St} {H3 : Hp} {δ' : Env}, ER ⟨G.1, fun _ => none⟩ [] H2 (AV av A) A' σ' H3 δ' -> ∀ b, AV (AV av A) A' b ↔ AV av A b := fun A' {σ' H3 δ'} E3 b => by
        constructor
        · rintro (z | ⟨j, z⟩)
          · exact z
          · have := E3.dom j (by rw [z]; exact fun z => by cases z)
            cases this
        · exact fun z => .inl z
       rw [List.drop_eq_getElem_cons hlt] at hr
       unfold Zx at hr
       cases hγ : γ xs[i] (ZW n δ js) with
       | none => rw [hγ] at hr; cases hr
       | some δ1 =>
        rw [hγ] at hr
        dsimp only at hr
        refine hg _ _ _ _ H2 _ EB _ v (rep'.av fun b z => .inl ((triv _ EB b).mp z)) δ1 hγ _ fun A3 σ3 H3 s3 E3 => ?_
        cases hτ : τ δ1 with
        | none => rw [hτ] at hr; cases hr
        | some c =>
         rw [hτ] at hr
         refine ht _ _ A3 σ3 H3 δ1 E3 c hτ _ fun H4 s4 => ?_
         have E4 := E3.mono s4
         cases c with
         | false =>
          exact Xv ⟨xs.length - (i + 1), by omega, rfl, hlt, (s'.trans s2).trans (s3.trans s4), done, rest, rl.same ((s2.trans s3).trans s4), hr, hf⟩
         | true =>
          dsimp only at hr
          cases hε : ε δ1 with
          | none => rw [hε] at hr; cases hr
          | some yd =>
           rw [hε] at hr
           dsimp only at hr
           cases hr' : Zx γ τ ε (ZW n δ js) (xs.drop (i + 1)) with
           | none => rw [hr'] at hr; cases hr
           | some rest' =>
            rw [hr'] at hr
            have hrr : yd :: rest' = rest := Option.some.inj hr
            subst hrr
            refine Xw (he _ _ A3 σ3 H4 δ1 E4 yd hε _ fun vy H5 s5 r5 => ?_)
            have sall : Same H' H5 := ((s2.trans s3).trans s4).trans s5
            refine ⟨?_, xs.length - (i + 1), by omega, rfl, hlt, s'.trans sall, done ++ [yd], rest', (rl.same sall).append (.cons ((RepT.r r5).av fun b z => .inl ((triv _ E4 b).mpr z)) .nil), hr', by rw [<- hf]; simp⟩
            have := congrArg List.length hf
            rw [List.length_append, List.length_cons] at this
            have := rl.length
            omega
     · have ei : i = xs.length := by omega
       subst ei
       rw [List.drop_length] at hr
       cases hr
       refine .inl ⟨w3 _ (Nat.le_refl _), fun p hp => k p ys full H' (s1.trans s') hp (by rw [<- hf, List.append_nil]; exact rl) ed.symm⟩
   · rw [if_neg hz] at e; cases e
def spD (cA : Kn) (n : Nat) (m : List D -> Option D) : Sp := fun vs H Q _ => ∃ av ds d, (∀ a, av a -> H a ≠ none) /\ RepL cA av H ds vs /\ ds.length = n /\ m ds = some d /\ ∀ v H', Same H H' -> Rep cA av H' d v -> Q v H'
def Zq (n : Nat) (m : List D -> Option D) (dds : List D) (α : Env -> Option (List D)) (δ : Env) : Option D := match α δ with
 | some ds => if (ds ++ dds).length = n then m (ds ++ dds) else none
 | none => none
def Ql.cq : Ql -> Ql
 | .cl => .cl
 | _ => .dt
theorem Ye {n : Nat} {m : List D -> Option D} {t : TA} {q : Ql} {α : Env -> Option (List D)} {E0 : XK} (dds : List D) (hd : dds.all Zh = true) (h : VA G ow t q α) : VE G ow (UM (spD G.1 n m) (dds.map val) E0 t) q.cq (Zq n m dds α) := fun H0 av A σ H δ E d e Q k => by
 unfold Zq at e
 cases he : α δ with
 | none => rw [he] at e; cases e
 | some ds =>
  rw [he] at e
  dsimp only at e
  by_cases hz : (ds ++ dds).length = n
  · rw [if_pos hz] at e
    refine h H0 av A σ H δ E ds he _ fun vs H1 s1 r1 => ?_
    have E1 := E.mono s1
    cases q with
    | cl => exact ⟨AV av A, ds ++ dds, d, E1.avl, r1.cl.append (.of_vals hd), hz, e, fun v H' s r => k v H' (s1.trans s) r.t⟩
    | tp => exact ⟨av, ds ++ dds, d, E1.avH, r1.any.append (.of_vals hd), hz, e, fun v H' s r => k v H' (s1.trans s) r.t⟩
    | dt => exact ⟨av, ds ++ dds, d, E1.avH, r1.any.append (.of_vals hd), hz, e, fun v H' s r => k v H' (s1.trans s) r.t⟩
  · rw [if_neg hz] at e; cases e
def run (N : Nat) (φ : Env -> Option Out) (ds : List D) : Option D := match φ (ds.map some ++ List.replicate (N - ds.length) none) with
 | some (.rt d) => some d
 | some (.nx _) => some .non
 | _ => none
theorem ZcF {N : List Str} {ds : List D} {vs : List V} {av : Addr -> Prop} {H : Hp} (r : RepL cA av H ds vs) {i : Nat} {d : D} (h : (ds.map some ++ List.replicate (N.length - ds.length) none)[i]? = some (some d)) :
 ∃ v, (L2.start N vs)[i]? = some (some v) /\ Rep cA av H d v := by
 by_cases hi : i < ds.length
 · rw [List.getElem?_append_left (by simpa using hi), List.getElem?_map] at h
   cases hd : ds[i]? with
   | none => rw [hd] at h; cases h
   | some x =>
    rw [hd] at h
    cases h
    obtain ⟨v, hv, rv⟩ := r.get hd
    refine ⟨v, ?_, rv⟩
    unfold L2.start
    have : i < vs.length := by rw [<- r.length]; exact hi
    rw [List.getElem?_append_left (by simpa using this), List.getElem?_map, hv]
    rfl
 · rw [List.getElem?_append_right (by simpa using hi), List.getElem?_replicate] at h
   split at h <;> cases h
theorem Q2 {N : List Str} {ds : List D} {vs : List V} {av : Addr -> Prop} {H : Hp} (ha : ∀ a, av a -> H a ≠ none) (r : RepL cA av H ds vs) :
 ER ⟨cA, fun _ => none⟩ [] H av (fun _ => none) (L2.start N vs) H (ds.map some ++ List.replicate (N.length - ds.length) none) := by
 refine ⟨Same.refl H, ha, fun _ _ z => (by cases z), fun _ _ _ z => (by cases z), fun _ _ z => (by cases z), fun _ z => absurd rfl z, fun _ z => (by cases z), ?_, fun _ _ z => (by cases z), fun _ _ z => (by cases z), fun i d e => ?_⟩
 · unfold L2.start
   rw [List.length_append, List.length_append, List.length_map, List.length_map, List.length_replicate, List.length_replicate, r.length]
 · obtain ⟨v, h1, h2⟩ := ZcF r e
   refine ⟨v, h1, fun _ => h2.av fun b z => ?_, fun _ z => (by cases z)⟩
   rcases z with z | ⟨_, z⟩
   · exact .inl z
   · cases z
section
variable {P : Program} {w : World} {K : PySem.W.Frag} {mg : Str -> Option Value} {base : Heap}
end
def Zhq (_ : Env) : Option (Option Int) := some none
def xP (ε : Env -> Option D) (δ : Env) : Option (Option Int) := match ε δ with
 | some (.int i) => some (some i)
 | _ => none
def slD : D -> Option Int -> Option Int -> Option D
 | .str a, lo, hi => if a.length <= sizeLine then some (.str (L2.cutL a lo hi)) else none
 | .lst xs, lo, hi => some (.lst (L2.cutL xs lo hi))
 | .tup xs, lo, hi => if V5 xs.length 0 lo = 0 /\ V5 xs.length xs.length hi = xs.length then none else some (.tup (L2.cutL xs lo hi))
 | _, _, _ => none
def eSl (a : Env -> Option D) (lo hi : Env -> Option (Option Int)) (δ : Env) : Option D := match a δ with
 | some x => match lo δ with
  | some l => match hi δ with
   | some u => slD x l u
   | none => none
  | none => none
 | none => none
def Q3 (K : PySem.W.Frag) : List V -> Hp -> VK -> Prop := fun xs H Q => ZhD K xs H Q \/ ∃ p vs c cv b, xs = [.ref p, c] /\ (∀ v, RelV c v -> v = cv) /\ KL K p vs /\ PySem.W.kitOne K (.type "list") cv = some b /\ Q (.bl b) H
theorem Q4 {X : Cx} {K : PySem.W.Frag} (hK : X.K = K := by rfl) : ZZ X (.builtin "isinstance") (Q3 K) := by
 subst hK
 intro pins s σ H xs us Q I rs h
 rcases h with h | ⟨p, vs, c, cv, b, rfl, hc, ⟨o, its, n, hk, h1, _⟩, e, q⟩
 · exact Zc0 pins s σ H xs us Q I rs h
 · obtain ⟨u, w', rfl, rx, rc⟩ := ZeZ rs
   have ec := hc _ rc
   subst ec
   cases (show u = Value.ref p from rx)
   exact PySem.W.kia_one PySem.W.kitx_list I.kIn ⟨o, I.kIn p o hk, h1⟩ e (fun z => nomatch z) fun tk => ⟨.bl b, H, I.tok tk, rfl, q⟩
def kind : D -> String
 | .non => "NoneType"
 | .bl _ => "bool"
 | .int _ => "int"
 | .str _ => "str"
 | .lst _ => "list"
 | .tup _ => "tuple"
 | .obj c _ _ => c
 | .dct _ _ => "dict"
 | .dtt _ _ => "dict"
def plainKinds : List String := ["NoneType", "bool", "int", "str", "list", "tuple"]
def VC (tab : List (String × Bool)) : D -> Option Bool
 | .obj c _ _ => if plainKinds.contains c then none else tab.lookup c
 | .dct _ _ => none
 | .dtt _ _ => none
 | d => tab.lookup (kind d)
def Y4 (tab : List (String × Bool)) (a : Env -> Option D) (δ : Env) : Option D := match a δ with
 | some d => match VC tab d with
  | some b => some (.bl b)
  | none => none
 | none => none
structure ClsI (K : PySem.W.Frag) (C : Addr) : Prop where
 cl : Cls K C
 ha : PySem.W.findIn K (.ref C) "__class__" = some (some (.builtin "object.__class__"))
 hn : PySem.W.specialIn K (.builtin "object.__class__") "__get__" = some (some (.builtin "getset_descriptor.__get__"))
 htk : PySem.W.takesIn K (.builtin "object.__class__") = some true
 hm : PySem.W.mroIn K C (.type "object") = some true
structure IsiOk (K : PySem.W.Frag) (cA : Kn) (cv : Value) (tab : List (String × Bool)) : Prop where
 plain : ∀ k ∈ plainKinds, ∀ b, tab.lookup k = some b -> PySem.W.kitOne K (.type k) cv = some b
 own : ∀ (c : String) b, plainKinds.contains c = false -> tab.lookup c = some b -> PySem.W.kitOne K (.ref (cA.c c)) cv = some b /\ ClsI K (cA.c c)
theorem Q5 {β : Type} {c : String} {b : β} : ∀ {tab : List (String × β)}, tab.lookup c = some b -> (c, b) ∈ tab
 | [], h => by simp at h
 | (c', b') :: r, h => by
  rw [List.lookup_cons] at h
  cases hc : c == c' with
  | true =>
   rw [hc] at h
   cases h
   rw [eq_of_beq hc]
   exact List.mem_cons_self
  | false =>
   rw [hc] at h
   exact List.mem_cons_of_mem _ (Q5 h)
theorem Q6 {K : PySem.W.Frag} {cA : Kn} {cv : Value} {tab : List (String × Bool)} (h : ∀ p ∈ tab, if plainKinds.contains p.1 = true then PySem.W.kitOne K (.type p.1) cv = some p.2 else PySem.W.kitOne K (.ref (cA.c p.1)) cv = some p.2 /\ ClsI K (cA.c p.1)) : IsiOk K cA cv tab where
 plain := fun k hk b hl => by
  have := h _ (Q5 hl)
  rwa [if_pos (by simpa using hk)] at this
 own := fun c b hc hl => by
  have := h _ (Q5 hl)
  rwa [if_neg (by simpa using hc)] at this
theorem Q7 {ta : TE} {q : Ql} {a : Env -> Option D} {c : V} {cv : Value} {tab : List (String × Bool)} (hc : ∀ v, RelV c v -> v = cv) (I : IsiOk G.1.K G.1 cv tab) (ha : VE G ow ta q a) :
 VE G ow (tCB (Q3 G.1.K) (Xj ta (Xj (tC c) tNil))) .cl (Y4 tab a) := fun H0 av A σ H δ E d e Q k => by
 unfold Y4 at e
 cases he : a δ with
 | none => rw [he] at e; cases e
 | some x =>
  rw [he] at e
  dsimp only at e
  cases ht : VC tab x with
  | none => rw [ht] at e; cases e
  | some b =>
   rw [ht] at e
   cases e
   refine ha H0 av A σ H δ E x he _ fun v H1 s r => ?_
   have r' := r.any
   have fin : ∀ t, TyOf G.1.K H1 v t -> PySem.W.kitOne G.1.K t cv = some b -> Q3 G.1.K [v, c] H1 Q := fun t ty e => .inl ⟨v, c, cv, t, b, rfl, hc, ty, e, k _ H1 s rfl⟩
   cases x with
   | non => cases (show v = _ from r'); exact fin _ .non (I.plain _ (by decide) b (by exact ht))
   | bl y => cases (show v = _ from r'); exact fin _ (.bl y) (I.plain _ (by decide) b (by exact ht))
   | int y => cases (show v = _ from r'); exact fin _ (.int y) (I.plain _ (by decide) b (by exact ht))
   | str y => cases (show v = _ from r'); exact fin _ (.str _) (I.plain _ (by decide) b (by exact ht))
   | lst y =>
    unfold Rep at r'
    obtain ⟨p, vs, rfl, _, rd, _⟩ := r'
    rcases rd with (rd | ⟨o, rd⟩) | rd
    · exact fin _ (.lst rd) (I.plain _ (by decide) b (by exact ht))
    · exact fin _ (.frz rd) (I.plain _ (by decide) b (by exact ht))
    · exact .inr ⟨p, vs, c, cv, b, rfl, hc, rd, I.plain _ (by decide) b (by exact ht), k _ H1 s rfl⟩
   | tup y =>
    unfold Rep at r'
    obtain ⟨p, vs, rfl, _, rd, _⟩ := r'
    exact fin _ (.tup rd) (I.plain _ (by decide) b (by exact ht))
   | dct ks y => cases ht
   | dtt ks y => cases ht
   | obj c' ks y =>
    unfold Rep at r'
    obtain ⟨p, dx, vs, rfl, _, rd, _⟩ := r'
    dsimp only [VC] at ht
    cases hp : plainKinds.contains c' with
    | true => rw [hp, if_pos rfl] at ht; cases ht
    | false =>
    rw [hp, if_neg Bool.false_ne_true] at ht
    obtain ⟨h1, h2⟩ := I.own c' b hp ht
    exact fin _ (.ins rd h2.cl h2.ha h2.hn h2.htk h2.hm) h1
end
end DL
namespace L2
open PySem PySem.Spec
section
variable {X : Cx}
end
end L2
namespace DL
open PySem PySem.Spec L2
section
variable {cA : Kn} {G : Cn} {ow : List Nat}
def eBM (f : List Nat -> List D -> Option D) (a : Env -> Option D) (α : Env -> Option (List D)) (δ : Env) : Option D := match a δ with
 | some (.str cs) => match α δ with
  | some ds => f cs ds
  | none => none
 | _ => none
end
end DL
namespace L2
open PySem PySem.Spec
structure FunX (K : PySem.W.Frag) (x qual : Str) (st : Stmt) (f : Addr) (fd : FuncData) : Prop where
 ex : ∃ (oc : Value) (od : Option Addr) (dV kV doc pm : Value) (an : Option Addr) (cdv ct : Value) (osl : Array (Option Value)),
  fd = PySem.W.fnOf x qual (Z1 st) (ZJ st) (Zo st) dV kV doc pm an cdv ct /\ K.lookup f = some ⟨oc, od, .func fd, osl⟩ /\ PySem.W.codeIn K cdv qual = true
theorem Fun.x {K : PySem.W.Frag} {x qual : Str} {st : Stmt} {f : Addr} {fd : FuncData} (F : Fun K x qual st f fd) : FunX K x qual st f fd := by
 obtain ⟨oc, od, kV, doc, pm, an, cdv, ct, osl, h⟩ := F.ex
 exact ⟨oc, od, .none, kV, doc, pm, an, cdv, ct, osl, h⟩
section
variable {P : Program} {w : World} {K : PySem.W.Frag} {mg : Str -> Option Value} {base : Heap}
theorem FunX.ok {x qual : Str} {st : Stmt} {f : Addr} {fd : FuncData} {N ps : List Str} {k : Nat} {sp : Sp} (F : FunX K x qual st f fd) (S : FnScope N ps (Zo st)) (len : ∀ vs H Q E, sp vs H Q E -> vs.length = ps.length)
 (hbody : ∀ (cdv : Value) (A : Around) (outer : List Env) (s : Shared) (H : Hp) (vs : List V) (Q : VK) (E : XK), Room k (A.deeper (PyProof.Rows.envOfC qual (Zo st) s.heap.objs.size f cdv)) -> sp vs H Q E ->
   ∃ t, PSs (YR CX0 P w K mg base N qual (Zo st) f cdv A outer s H E).nox (ZJ st) t /\ t { nx := fun _ H' => Q .non H', rt := Q } (start N vs) H) : FnOk P w K mg base CX0 (k + 1) f fd ps sp := by
 obtain ⟨oc, od, dV, kV, doc, pm, an, cdv, ct, osl, rfl, lk, hcd⟩ := F.ex
 refine Ze0 lk hcd S len fun A outer s H vs Q E hr hsp => ?_
 obtain ⟨t, h, q⟩ := hbody cdv A outer s H vs Q E hr hsp
 exact ⟨t, h.nox, q⟩
end
section
variable {X : Cx}
end
structure CMeth (K : PySem.W.Frag) (C : Addr) (m : Str) (f : Addr) : Prop where
 ga : PySem.W.specialIn K (.ref C) "__getattribute__" = some (some (.builtin "type.__getattribute__"))
 rd : PySem.W.readsIn K C (.type "type") = true
 fc : PySem.W.findCls K (.ref C) (.type "type") m = some (.val (.ref f))
 kp : PySem.W.keepIn K (.ref f) = true
section
variable {X : Cx} {CX : CXT} {k : Nat} {f C : Addr} {fd : FuncData} {ps : List Str} {sp : Sp} {dvs : List V} {ds : List Value} {E : XK} {x m : Str} {p pos apos : Pos} {e o : Expr} {es : List Expr} {ta : TE} {t : TA}
end
end L2
namespace DL
open PySem PySem.Spec L2
section
variable {cA : Kn} {G : Cn} {ow owN owB owC : List Nat}
def Zhr (cls : List String) (f : String) (a : Env -> Option D) (δ : Env) : Option D := match a δ with
 | some (.obj c ks xs) => if cls.contains c then (ks.zip xs).lookup f else none
 | _ => none
def Zfb (i : Nat) (cls : List String) (f : String) (ε : Env -> Option D) (δ : Env) : Option Out := match ε δ with
 | some d => match Za i δ with
  | some (.obj c ks xs) => if cls.contains c && !ks.contains f && decide (ks.length < 1000) then some (.nx (δ.set i (some (.obj c (ks ++ [f]) (xs ++ [d]))))) else none
  | _ => none
 | none => none
theorem Own.live {av : Addr -> Prop} {H : Hp} {d : D} {a : Addr} (h : Own cA av H d a) : H a ≠ none := by
 cases d with
 | lst xs => obtain ⟨vs, q, _⟩ := h; rw [q]; exact fun z => by cases z
 | obj c ks xs => obtain ⟨dx, vs, q, _⟩ := h; rw [q]; exact fun z => by cases z
 | dct ks xs => obtain ⟨vs, q, _⟩ := h; rw [q]; exact fun z => by cases z
 | dtt ks xs => obtain ⟨vs, q, _⟩ := h; rw [q]; exact fun z => by cases z
 | _ => exact h.elim
theorem Own.av {av av' : Addr -> Prop} {H : Hp} {d : D} {a : Addr} (k : ∀ b, av' b -> av b \/ H b = none) (h : Own cA av H d a) : Own cA av' H d a := by
 cases d with
 | lst xs => obtain ⟨vs, q, l⟩ := h; exact ⟨vs, q, l.av k⟩
 | obj c ks xs => obtain ⟨dx, vs, q, z, l⟩ := h; exact ⟨dx, vs, q, z, l.av k⟩
 | dct ks xs => obtain ⟨vs, q, z, l⟩ := h; exact ⟨vs, q, z, l.av k⟩
 | dtt ks xs => obtain ⟨vs, q, z, l⟩ := h; exact ⟨vs, q, z, l.av k⟩
 | _ => exact h.elim
def Zfc (c : String) (n : Nat) (m : List D -> Option D) (dds : List D) (α : Env -> Option (List D)) (δ : Env) : Option D := match α δ with
 | some ds => if (D.obj c [] [] :: (ds ++ dds)).length = n then m (.obj c [] [] :: (ds ++ dds)) else none
 | none => none
def Zfd (i n : Nat) (m : List D -> Option D) (dds : List D) (α : Env -> Option (List D)) (δ : Env) : Option Out := match Za i δ with
 | some d => match α δ with
  | some ds => if (d :: (ds ++ dds)).length = n then (match m (d :: (ds ++ dds)) with
   | some d' => some (.nx (δ.set i (some d')))
   | none => none) else none
  | none => none
 | none => none
def runI (N : Nat) (φ : Env -> Option Out) (ds : List D) : Option D := match φ (ds.map some ++ List.replicate (N - ds.length) none) with
 | some (.nx δ) => Za 0 δ
 | _ => none
section
variable {P : Program} {w : World} {K : PySem.W.Frag} {mg : Str -> Option Value} {base : Heap}
theorem Zgt {x qual : Str} {st : Stmt} {f : Addr} {fd : FuncData} {N ps : List Str} {k : Nat} {φ : Env -> Option Out} (F : FunX K x qual st f fd) (S : FnScope N ps (Zo st))
 (hbody : ∀ (cdv : Value) (A : Around) (outer : List PySem.Env) (s : Shared) (H : Hp) (E : XK), Room k (A.deeper (PyProof.Rows.envOfC qual (Zo st) s.heap.objs.size f cdv)) ->
   ∃ t, PSs (YR CX0 P w K mg base N qual (Zo st) f cdv A outer s H E).nox (ZJ st) t /\ ∃ owN, VS ⟨cA, fun _ => none⟩ [] owN [] [] t φ) : FnOk P w K mg base CX0 (k + 1) f fd ps (spD cA ps.length (run N.length φ)) := by
 refine F.ok S (fun vs H Q E h => ?_) fun cdv A outer s H vs Q E hr h => ?_
 · obtain ⟨av, ds, d, _, r, hl, _⟩ := h
   rw [<- r.length, hl]
 · obtain ⟨av, ds, d, ha, r, hl, hm, q⟩ := h
   obtain ⟨t, ht, owN, hv⟩ := hbody cdv A outer s H E hr
   refine ⟨t, ht, ?_⟩
   unfold run at hm
   cases hφ : φ (ds.map some ++ List.replicate (N.length - ds.length) none) with
   | none => rw [hφ] at hm; cases hm
   | some o =>
    rw [hφ] at hm
    refine hv H av _ _ H _ (Q2 ha r) o hφ _ ?_
    cases o with
    | nx δ' => cases hm; exact fun A' σ' H' E' => q .non H' E'.same rfl
    | rt d' => cases hm; exact fun v H' s' r' => q v H' s' r'
    | bk δ' => cases hm
    | ct δ' => cases hm
end
abbrev MTab := List (String × (Nat × (List D -> Option D)))
structure MethOk (X : Cx) (cA : Kn) (k : Nat) (m : String) (c : String) (n : Nat) (mm : List D -> Option D) : Prop where
 ex : ∃ f fd ps, Cls X.K (cA.c c) /\ Meth X.K (cA.c c) (Str.ofString m) f /\ FnOk X.prog X.w X.K X.mg X.base CX0 k f fd ps (spD cA n mm) /\ Binds X.K fd ps []
def MTOk (X : Cx) (cA : Kn) (k : Nat) (m : String) : MTab -> Prop
 | [] => True
 | (c, n, mm) :: r => MethOk X cA k m c n mm /\ MTOk X cA k m r
theorem MTOk.get {X : Cx} {k : Nat} {m : String} : ∀ {tab : MTab} {c : String} {n : Nat} {mm : List D -> Option D}, MTOk X cA k m tab -> tab.lookup c = some (n, mm) -> MethOk X cA k m c n mm
 | [], _, _, _, _, h => by simp at h
 | (c', n', mm') :: r, c, n, mm, T, h => by
  rw [List.lookup_cons] at h
  cases hc : c == c' with
  | true =>
   rw [hc] at h
   cases h
   have : c = c' := eq_of_beq hc
   subst this
   exact T.1
  | false =>
   rw [hc] at h
   exact MTOk.get T.2 h
def Zfe (m : String) (tab : MTab) (a : Env -> Option D) (α : Env -> Option (List D)) (δ : Env) : Option D := match a δ with
 | some (.obj c ks xs) => if ks.contains m then none else (match tab.lookup c with
  | some (n, mm) => match α δ with
   | some ds => if (D.obj c ks xs :: ds).length = n then mm (.obj c ks xs :: ds) else none
   | none => none
  | none => none)
 | _ => none
def isD : D -> D -> Option D
 | .bl a, .bl b => some (.bl (a == b))
 | _, _ => none
end
end DL
namespace DL
open PySem PySem.Spec L2
def YJ : Nat -> List D -> List D
 | _, [] => []
 | k, x :: xs => .tup [.int (k : Nat), x] :: YJ (k + 1) xs
theorem Q8 : ∀ (k : Nat) (xs : List D), (YJ k xs).length = xs.length
 | _, [] => rfl
 | k, x :: xs => by rw [YJ, List.length_cons, List.length_cons, Q8]
theorem ZaD : ∀ (k : Nat) (xs : List D) (i : Nat), (YJ k xs)[i]? = (xs[i]?).map fun x => .tup [.int ((k + i : Nat) : Int), x]
 | _, [], i => by simp [YJ]
 | k, x :: xs, 0 => by simp [YJ]
 | k, x :: xs, i + 1 => by
  rw [YJ, List.getElem?_cons_succ, List.getElem?_cons_succ, ZaD (k + 1) xs i]
  have : k + 1 + i = k + (i + 1) := by omega
  rw [this]
section
variable {cA : Kn} {G : Cn} {ow : List Nat}
end
end DL
namespace DL
open PySem PySem.Spec L2
section
variable {cA : Kn} {P : Program} {w : World} {K : PySem.W.Frag} {mg : Str -> Option Value} {base : Heap}
theorem YU {x qual : Str} {st : Stmt} {f : Addr} {fd : FuncData} {N ps : List Str} {k : Nat} {φ : Env -> Option Out} {body : List Stmt} {scope : Scope} {n : Nat} {m : List D -> Option D} (F : FunX K x qual st f fd) (S : FnScope N ps (Zo st)) (hS : Zo st = scope) (hB : ZJ st = body)
 (hbody : ∀ (cdv : Value) (A : Around) (outer : List PySem.Env) (s : Shared) (H : Hp) (E : XK), Room k (A.deeper (PyProof.Rows.envOfC qual scope s.heap.objs.size f cdv)) ->
   ∃ t, PSs (YR CX0 P w K mg base N qual scope f cdv A outer s H E).nox body t /\ ∃ owN, VS ⟨cA, fun _ => none⟩ [] owN [] [] t φ)  (hm : m = run N.length φ) (hn : ps.length = n) : FnOk P w K mg base CX0 (k + 1) f fd ps (spD cA n m) := by
 subst hS hB hm hn
 exact Zgt F S hbody
end
end DL
namespace DL
open PySem PySem.Spec L2 PyProof.Rows
def Yr : List D -> Option (List Int)
 | [] => some []
 | .int b :: r => match Yr r with
  | some bs => some (b :: bs)
  | none => none
 | _ => none
theorem U5 : ∀ {xs : List D} {bs : List Int}, Yr xs = some bs -> xs = bs.map D.int
 | [], bs, h => by cases h; rfl
 | x :: xs, bs, h => by
  cases x <;> first | (cases h; done) | skip
  rename_i b
  unfold Yr at h
  cases hr : Yr xs with
  | none => rw [hr] at h; cases h
  | some cs =>
   rw [hr] at h
   cases h
   rw [List.map_cons, U5 hr]
theorem intsD_map (bs : List Int) : Yr (bs.map D.int) = some bs := by
 induction bs with
 | nil => rfl
 | cons b bs ih => rw [List.map_cons, Yr, ih]
theorem U6 : ∀ (ns : List Int) (its : List Value), Vals (ns.map V.int) its -> IntsAre its ns
 | [], its, h => by cases h; exact .nil
 | n :: ns, its, h => by
  cases h with
  | cons r1 r2 =>
   obtain ⟨t, rfl⟩ := r1
   exact .cons _ _ (U6 ns _ r2)
def Q9 (K : PySem.W.Frag) : List V -> Hp -> VK -> Prop := fun xs H Q => ∃ (p : Addr) (ns : List Int), xs = [.ref p] /\ SqL K H p (ns.map V.int) /\ Q (.int ns.sum) H
section
variable {X : Cx} {K : PySem.W.Frag} {cA : Kn}
theorem ZcG (hc : X.calm = true) : ZZ X (.builtin "sum") (Q9 X.K) := by
 intro pins s σ H xs us Q I rs h
 obtain ⟨p, ns, rfl, hq, q⟩ := h
 obtain ⟨u, rfl, rx⟩ := YD rs
 cases rx
 obtain ⟨its, rv, pl, hz⟩ := I.list hq
 have hi := U6 ns its rv
 obtain ⟨ys, e⟩ := hi.allInts.items
 have hns : ns = ys.toList.map (·.1) := by
  rw [<- hi.numsOf, <- nums_intItems, <- e]
 have hl := pl.isList
 rw [e] at hl
 refine sum_intListG (I.ok.hd hc) hl fun h' tk t' hk => ?_
 have e2 : preSum (numAt ys) ys.size = ns.sum := by
  rw [preSum_eq, List.take_of_length_le (by simp), hns]
 exact ⟨.int ns.sum, H, I.kept hk, ⟨t', by rw [e2]⟩, q⟩
theorem ZfW (hc : X.calm = true := by rfl) (hK : X.K = K := by rfl) : ZZ X (.builtin "sum") (Q9 K) := hK ▸ ZcG hc
def sumLD : List D -> Option D
 | [.lst xs] => match Yr xs with
  | some ns => some (.int ns.sum)
  | none => none
 | _ => none
theorem Zee : Vy cA (Q9 cA.K) sumLD := fun i H ds vs d _ h e Q k => by
 unfold sumLD at e
 split at e
 · rename_i xs
   cases hb : Yr xs with
   | none => rw [hb] at e; cases e
   | some bs =>
    rw [hb] at e
    cases e
    obtain ⟨v, t, rfl, a, ws, rfl, _, rd, l⟩ := il1 h
    have ex := U5 hb
    subst ex
    have ev := l.vals (by rw [List.all_map]; exact List.all_eq_true.mpr fun _ _ => rfl)
    rw [List.map_map] at ev
    subst ev
    exact ⟨a, bs, rfl, rd, k _ H (Same.refl H) rfl⟩
 · cases e
end
end DL
namespace L2
open PySem PySem.Spec PyProof.Rows
section
variable {X : Cx} {scope : Scope} {tn cn : List Str} {js : List Nat} {tg iter elt : Expr} {ifs : List Expr} {pos spos pos' : Pos} {wi : TI} {g : TG} {tt : TT} {te : TE}
theorem ZbW {i : Nat} {x : Str} (hN : X.N.Nodup) (hi : X.N[i]? = some x) (hx : X.env.scope.names.lookup x = some .local) (hc : X.calm = true) (S : CompSc X scope tn cn js) (hI : PI X tg iter wi)
 (hg : ∀ C s₂ H₂ fp, PG (YE X scope (tn ++ cn) C s₂ H₂ fp) tg g) (ht : ∀ C s₂ H₂ fp, PTs (YE X scope (tn ++ cn) C s₂ H₂ fp) ifs tt) (he : ∀ C s₂ H₂ fp, PE (YE X scope (tn ++ cn) C s₂ H₂ fp) elt te)
 (hsw : swapsWith (.ListComp elt [⟨tg, iter, ifs, 0⟩] scope pos) (some (.Name x pos')) spos.line X.env = pure true := by rfl)
 (hs : ∀ x, foldedSetIterable iter X.env x = pure x := by intro _; rfl) :
 PS X (.Assign [.Name x pos'] (.ListComp elt [⟨tg, iter, ifs, 0⟩] scope pos) spos) (YW (V9 wi g tt te tn.length js) (Yn i)) := by
 intro pins s σ H D I h
 rw [exec_Assign_Name_used _ _ _ _ hsw]
 refine wpAny_bind (wpAny_standAt (wpAny_bind ?_))
 show wpAny _ X.A (do let _ <- comprehension (.ListComp elt [⟨tg, iter, ifs, 0⟩] scope pos) scope X.env _ (newList []) false (eval iter X.env) (some (assign (.Name x pos') X.env))) _ _ s
 refine wpAny_bind (wpAny_mono (wpAny_comprehension_free (use := some (assign (.Name x pos') X.env)) (Q := fun _ s' => SP X pins D .next s') (cl := Z3 X.env.cells scope.names []) rfl hs (QL (S.clos I.ok)) S.kind S.names
  (thn (hI pins s σ H _ I h) fun v s1 h1 => thn h1 fun itv s2 h2 => ?_)) (fun _ s' hq => wpAny_pure (wpAny_pure hq)) fun _ _ e => e)
 obtain ⟨it, fp, tnx, J, H2, e, I2, T, st2, f2, W, ⟨m0, w0⟩, turn⟩ := h2
 subst e
 refine Zai (RR := fun acc C => compPost (model X.prog X.w) X.A X.xe (some (assign (.Name x pos') X.env)) (fun _ s' => SP X pins D .next s') acc C) (W := W) (m0 := m0) hc S hg ht he I2 T st2 f2 w0 fun i' m ys H w => ?_
 rcases turn i' m ys H w with ⟨stop, qn⟩ | r
 · refine .inl ⟨stop, fun C D' s its n σ' hC hD hDC hv hz I' => ?_⟩
   obtain ⟨m', hn, _⟩ := id I'.loc
   have pd := I'.pin (D', { cls := .type "list", data := .seq its.toArray n }) (List.mem_append_right _ List.mem_cons_self)
   have hCf : H C = none := I'.free
   have I1 : Inv X pins σ (upd H D' (.lst ys)) { s with heap := s.heap } := Za4 S I2 hC hD hDC f2 I' hv hz (Heap.SameBut.refl _ _)
   show wpAny _ X.A (assign (.Name x pos') X.env (.ref D')) _ _ _
   have hlC : X.env.locals ≠ C := fun z => absurd (z ▸ I2.lt) (Nat.not_lt.mpr hC)
   have hcC : ∀ y c, X.env.cells.lookup y = some c -> c ≠ C := fun y c e z => by
    obtain ⟨v', o', q, _⟩ := I2.cell y c e
    exact absurd (Heap.lt_size q) (Nat.not_lt.mpr (z ▸ hC))
   refine wpAny_assign_Name (JV I1 hN hi (.inl hx) (v := .ref D') rfl (fun s3 I3 ⟨a, hsb, ha⟩ => ?_) (.inr hx))
   have hCa : C ≠ a := by
    rcases ha with rfl | ha
    · exact Ne.symm hlC
    · exact Ne.symm (hcC _ _ ha)
   refine ⟨m', hn.sameBut hsb hCa, fun h' hs' => ?_⟩
   have hCn : upd H D' (.lst ys) C = none := by rw [Zj (Ne.symm hDC)]; exact hCf
   have I4 : Inv X pins (σ.set i (some (.ref D'))) (upd H D' (.lst ys)) { s3 with heap := h', toks := s3.toks } := I3.turned (it := C) (fun b o hb e => (hs'.2 b hb).trans e) hCn (Ne.symm hlC) (.inr (Nat.le_trans (Nat.le_trans I2.ok.above (Nat.le_of_lt I2.lt)) hC)) (fun y c e => hcC y c e) fun p hp z => by
    have := (I2.pin p hp).1
    exact absurd (Heap.lt_size this) (Nat.not_lt.mpr (z ▸ hC))
   exact ⟨_, _, I4, qn D' pd.2.1⟩
 · exact .inr r
end
end L2
namespace PySem
open Builtin SmallTypes
open AutoSeq1 (wpAny_loadPart')
end PySem
namespace PySem
open Sem (wp)
end PySem
namespace PySem
open Sem (wp)
section
variable {P : Program} {w : World} {A : Around} {E : Value -> Shared -> Prop} {s : Shared}
end
end PySem
namespace L2
open PySem PySem.Spec PyProof.Rows
def Ja (K : PySem.W.Frag) (n0 : Nat) (l : Addr) : It :=
 ⟨fun i H => ∃ xs x, SqL K H l xs /\ xs[i]? = some x, fun i H v H' => ∃ x p, (∀ xs, SqL K H l xs -> xs[i]? = some x) /\ H p = none /\ v = .ref p /\ H' = upd H p (.tup [.int ((n0 + i : Nat) : Int), x]), fun i H => ∃ xs, SqL K H l xs /\ xs.length <= i⟩
theorem ZcH {prog : Program} {w : World} {A : Around} (hh : A.handled = none) (it l : Addr) (hne : l ≠ it) (its : Array Value) (n0 : Nat) :
 Draws prog w A it [it, l] (n0 + its.size) (fun i v => ∃ j, i = n0 + j /\ its[j]? = some v) (fun i h => ∃ j, i = n0 + j /\ h.IsListIter it l j /\ h.IsList l its) where
 live := fun i h ⟨j, _, st, _⟩ => let ⟨o, ho, _⟩ := st; ⟨o, ho⟩
 frame := fun i h h' ⟨j, e, s1, s2⟩ hk => ⟨j, e, s1.at fun o q => hk it (by simp) o q, s2.at fun o q => hk l (by simp) o q⟩
 item := fun i s Q E hi st hQ => by
  obtain ⟨j, rfl, s1, s2⟩ := st
  have hj : j < its.size := by omega
  refine wpAny_nextOf_list_item s1 s2 (x := its[j]) (by simp [hj]) fun h' st' sb => ?_
  exact hQ _ h' s.toks ⟨j, rfl, by simp [hj]⟩ ⟨j + 1, by omega, st', s2.extBut sb.extBut hne⟩ sb
 done := fun s Q E st hE => by
  obtain ⟨j, e, s1, s2⟩ := st
  exact wpAny_nextOf_list_end hh s1 s2 (by have : j = its.size := by omega
                                           subst this; simp) hE
theorem ZbB {prog : Program} {w : World} {A : Around} (hh : A.handled = none) (it l : Addr) (its : Array Value) (n j : Nat) (hj : its.size <= j) :
 Draws prog w A it [it, l] n (fun _ _ => False) (fun i h => i = n /\ h.IsListIter it l j /\ h.IsList l its) where
 live := fun i h ⟨_, st, _⟩ => let ⟨o, ho, _⟩ := st; ⟨o, ho⟩
 frame := fun i h h' ⟨e, s1, s2⟩ hk => ⟨e, s1.at fun o q => hk it (by simp) o q, s2.at fun o q => hk l (by simp) o q⟩
 item := fun i s Q E hi st hQ => absurd st.1 (by omega)
 done := fun s Q E st hE => wpAny_nextOf_list_end hh st.2.1 st.2.2 (by simp [hj]) hE
theorem ZbC {P : Program} {w : World} {K : PySem.W.Frag} {elts : List Expr} {x1 : Nat} {tpos : Pos} (e it l : Addr) (hne : e ≠ it) (n0 : Nat) :
 Turn P w K (.Tuple elts x1 tpos) (Ja K n0 l) [e, it] e (fun i h => (∃ old, IsEnum h e it ((n0 + i : Nat) : Int) old) /\ h.IsListIter it l i) where
 mem := by simp
 obj := fun i h st b hb => by
  obtain ⟨⟨old, he⟩, o, ho, hc, hd⟩ := st
  simp at hb
  rcases hb with rfl | rfl
  · exact ⟨_, he, fun v z => by
     have z' : Data.fields _ = Data.cell v := z
     cases z'⟩
  · exact ⟨o, ho, fun v z => by rw [hd] at z; cases z⟩
 keep := fun i h h' st k => by
  obtain ⟨⟨old, he⟩, s1⟩ := st
  exact ⟨⟨old, k e (by simp) _ he⟩, s1.at fun o q => k it (by simp) o q⟩
 item := by
  intro X hP hw hK hc i pins s σ H E I hf st hg
  subst hP hw hK
  obtain ⟨⟨old, he⟩, st⟩ := st
  obtain ⟨xs, x, hq, hx⟩ := hg
  obtain ⟨its, rv, p, hz⟩ := I.list hq
  obtain ⟨u, hu, ru⟩ := rv.get hx
  have hi : i < its.length := (List.getElem?_eq_some_iff.mp hu).1
  obtain ⟨e0, e1, e2, e3, e4, e5⟩ := hf e (by simp)
  obtain ⟨f0, f1, f2, f3, f4, f5⟩ := hf it (by simp)
  have hLe : l ≠ e := by
   rintro rfl
   obtain ⟨o, ho, hcl, _⟩ := p.isList
   have he' : s.heap.get? l = some _ := he
   rw [he'] at ho
   cases ho
   exact absurd (show Value.type "enumerate" = Value.type "list" from hcl) (by decide)
  have hLi : l ≠ it := by
   rintro rfl
   obtain ⟨o, ho, hcl, _⟩ := p.isList
   obtain ⟨o', ho', hcl', _⟩ := id st
   rw [ho] at ho'
   cases ho'
   rw [hcl] at hcl'
   exact absurd hcl' (by decide)
  have D := ZcH (prog := X.prog) (w := X.w) (A := X.A.in1) (I.ok.hd hc) it l hLi its.toArray n0
  refine wpAny_pyNext_enum_itemD D he ⟨i, rfl, st, p.isList⟩ (by simp; omega) hne (by simp [hne, Ne.symm hLe]) fun y h' tk hP ho st' hT hsz hk => ?_
  obtain ⟨j, ej, hy⟩ := hP
  have ej' : j = i := by omega
  subst ej'
  have hyu : y = u := by
   have : its[j]? = some y := by simpa using hy
   rw [hu] at this
   exact (Option.some.inj this).symm
  subst hyu
  refine ⟨_, rfl, wpAny_letOwnedTupleGo_enum ho fun h2 he2 hs2 => ?_⟩
  have hs2 : Heap.SameBut e h' h2 := hs2
  have hTl : e < s.heap.objs.size := Heap.lt_size he
  obtain ⟨j', ej2, st'', _⟩ := st'
  have ej3 : j' = j + 1 := by omega
  subst ej3
  have hT2 : h2.get? s.heap.objs.size = some { cls := .type "tuple", data := .seq #[.int ((n0 + j : Nat) : Int) tk, y] } := (hs2.2 _ (Nat.ne_of_gt hTl)).trans hT
  have k2 : ∀ b o, b ≠ e -> b ≠ it -> s.heap.get? b = some o -> h2.get? b = some o := fun b o hb hb' q => (hs2.2 b hb).trans (hk b o hb hb' q)
  have hTn : H s.heap.objs.size = none := I.hok.fresh (Nat.le_refl _)
  have neT : ∀ b o, s.heap.get? b = some o -> b ≠ s.heap.objs.size := fun b o q => Nat.ne_of_lt (Heap.lt_size q)
  have I2 : Inv X pins σ (upd H s.heap.objs.size (.tup [.int ((n0 + j : Nat) : Int), x])) { s with heap := h2, toks := tk + 1 } := by
   refine I.step (g' := s.gens) (d' := s.drawn) (ch := [e, it]) (fun b hb => ?_) (fun b o _ _ hcb q _ => ?_) (fun b o _ _ hcb q _ => ?_) (fun b o hcb q n => ?_) (fun b o hcb q => ?_) (fun b xs q => ?_) (fun b o v q => ?_) (fun b ps q => ?_) (fun m hm => ?_) (fun b o q => ?_) I.bare
   · simp at hb
     rcases hb with rfl | rfl
     · exact ⟨e3, e1, e4, e5⟩
     · exact ⟨f3, f1, f4, f5⟩
   · simp at hcb
     exact k2 b o hcb.1 hcb.2 q
   · simp at hcb
     exact ⟨o.slots, k2 b o hcb.1 hcb.2 q⟩
   · rw [Zj (neT b o q)]
     exact n
   · simp at hcb
     exact ⟨o, k2 b o hcb.1 hcb.2 q⟩
   · rw [Zj (ZR q hTn)]
     exact q
   · rw [Zj (ZR q hTn)]
     exact q
   · exact ⟨#[], by rw [Zj (ZR q hTn), q]; simp⟩
   · obtain ⟨o, es, ep, q, r⟩ := hm
     exact ⟨o, es, ep, k2 _ o (Ne.symm e1) (Ne.symm f1) q, r⟩
   · by_cases hb : b = s.heap.objs.size
     · subst hb
       rw [ZB] at q
       cases q
       refine ⟨by show 2 <= sizeLine; decide, [.int ((n0 + j : Nat) : Int) tk, y], .cons ⟨_, rfl⟩ (.cons ru .nil), ?_⟩
       exact ⟨_, hT2, rfl, ⟨_, rfl⟩, rfl⟩
     · rw [Zj hb] at q
       have nn : ∀ (b : Addr) (o : HO), H b = some o -> b ≠ e /\ b ≠ it := fun b o q => ⟨fun z => (by rw [z, e0] at q; cases q), fun z => (by rw [z, f0] at q; cases q)⟩
       refine (I.hok b o q).stay (fun d v hd q' => ?_) (fun d q' => by rw [Zj (ZR q' hTn)]; exact q') fun d xs q' => by rw [Zj (ZR q' hTn)]; exact q'
       rcases hd with rfl | hd
       · exact k2 d v (nn d o q).1 (nn d o q).2 q'
       · exact k2 d v (nn d _ hd).1 (nn d _ hd).2 q'
  have he3 : IsEnum h2 e it ((n0 + (j + 1) : Nat) : Int) y := by
   have : ((n0 + (j + 1) : Nat) : Int) = ((n0 + j : Nat) : Int) + 1 := by push_cast; omega
   rw [this]
   exact he2
  refine ⟨.ref s.heap.objs.size, _, I2, rfl, ⟨x, s.heap.objs.size, fun ys hy => by rw [I.list_inj hy hq]; exact hx, hTn, rfl, rfl⟩, ⟨⟨_, he3⟩, ?_⟩, fun b hb => ?_⟩
  · obtain ⟨o, ho', r⟩ := st''
    exact ⟨o, (hs2.2 it (Ne.symm hne)).trans ho', r⟩
  · simp at hb
    rcases hb with rfl | rfl
    · rw [Zj (Nat.ne_of_lt hTl)]; exact e0
    · obtain ⟨o, ho', _⟩ := st
      rw [Zj (neT _ o ho')]; exact f0
 done := by
  intro X hP hw hK hc i pins s σ H E I hf st hg
  subst hP hw hK
  obtain ⟨⟨old, he⟩, st⟩ := st
  obtain ⟨xs, hq, hx⟩ := hg
  obtain ⟨its, rv, p, hz⟩ := I.list hq
  have hl := rv.length
  obtain ⟨f0, f1, f2, f3, f4, f5⟩ := hf it (by simp)
  have D := ZbB (prog := X.prog) (w := X.w) (A := X.A.in1) (I.ok.hd hc) it l its.toArray (n0 + i) i (by simp; omega)
  exact wpAny_pyNext_enum_endD D he ⟨rfl, st, p.isList⟩ fun h' eb => ⟨rfl, I.turned (t' := s.toks) (fun b o hb q => eb b o hb q) f0 f1 f3 f4 f5⟩
 self := fun _ _ _ _ _ st h => by
  obtain ⟨⟨old, he⟩, _⟩ := st
  exact wpAny_pyIter_enum he h
end L2
namespace L2
open PySem PySem.Spec PyProof.Rows
section
variable {X : Cx} {elts : List Expr} {x1 : Nat} {tpos : Pos}
end
end L2
namespace DL
open PySem PySem.Spec L2
section
variable {cA : Kn} {G : Cn} {ow : List Nat}
def Ui (k : Nat) (ε : Env -> Option D) (δ : Env) : Option (List D) := match ε δ with
 | some (.lst xs) => some (YJ k xs)
 | _ => none
theorem ZaV {iv : Addr -> Prop} {H0 : Hp} {a : Addr} {vs : List V} {xs : List D} {n0 : Nat} (rd : SqL cA.K H0 a vs) (l : RepL cA iv H0 xs vs) : XG cA iv (Ja cA.K n0 a) (YJ n0 xs) H0 := fun H s => by
 have rd' : SqL cA.K H a vs := s.seq rd
 refine ⟨fun i hi => ?_, fun i x v H' hx y => ?_, fun i hi => ⟨vs, rd', by rw [Q8] at hi; rw [<- l.length]; exact hi⟩⟩
 · rw [Q8] at hi
   obtain ⟨v, hv, _⟩ := l.get (List.getElem?_eq_getElem hi)
   exact ⟨vs, v, rd', hv⟩
 · obtain ⟨z, p, hy, hp, rfl, rfl⟩ := y
   rw [ZaD] at hx
   cases hxi : xs[i]? with
   | none => rw [hxi] at hx; cases hx
   | some d =>
    rw [hxi] at hx
    cases hx
    obtain ⟨v', hv, r⟩ := l.get hxi
    rw [hy vs rd'] at hv
    cases hv
    refine ⟨Yb hp, fun av' h1 h2 => ?_⟩
    unfold Rep
    exact ⟨p, _, rfl, fun z => h1 p z hp, ZB, .cons rfl (.cons (((r.av h2).same s).same (Yb hp)) .nil)⟩
end
end DL
namespace PySem
open Builtin SmallTypes
open AutoSeq1 (wpAny_loadPart')
end PySem
namespace PySem
section
variable {P : Program} {w : World} {A : Around} {E : Value -> Shared -> Prop} {s : Shared}
end
end PySem
namespace L2
open PySem PySem.Spec PyProof.Rows
section
variable {X : Cx} {elts : List Expr} {x1 : Nat} {tpos : Pos}
end
end L2
namespace DL
open PySem PySem.Spec L2
section
variable {cA : Kn} {G : Cn} {ow : List Nat}
end
end DL
namespace DL
open PySem PySem.Spec L2 PyProof.Rows
def Wd (i : Int) : Prop := i.natAbs < 2 ^ 8000
instance (i : Int) : Decidable (Wd i) := by unfold Wd; infer_instance
def CMulW (i j : Int) : Prop := (Wd i /\ Wd j) \/ CMul i j
instance (i j : Int) : Decidable (CMulW i j) := by unfold CMulW; infer_instance
def Zff (_ j : Int) : Prop := j ≠ 0 /\ Wd j
instance (i j : Int) : Decidable (Zff i j) := by unfold Zff; infer_instance
instance (i j : Int) : Decidable (Zhe i j) := by unfold Zhe; infer_instance
theorem ZfX {i : Int} (h : Wd i) (h0 : i ≠ 0) : i.natAbs.log2 < 8000 := (Nat.log2_lt (by omega)).mpr h
theorem CMulW.ok {i j : Int} (h : CMulW i j) : IntMulOk i j := by
 rcases h with ⟨h1, h2⟩ | h
 · have bits : ∀ {a : Int}, Wd a -> Builtin.Int.intBits a <= 2 ^ 20 := fun {a} ha => by
    unfold Builtin.Int.intBits
    by_cases h0 : a = 0
    · subst h0; decide
    · have := ZfX ha h0
      have e : (2 : Nat) ^ 20 = 1048576 := by decide
      rw [e]
      split <;> omega
   exact .of_bits (bits h1) (bits h2)
 · exact h.ok
section
variable {X : Cx} {cA : Kn}
theorem op_mulW : OpR X (binaryOp .Mult) (rI CMulW fun i j => .int (i * j)) := opI fun _ _ _ _ _ _ _ hc q => mul_int q hc.ok
end
end DL
namespace L2
open PySem PySem.Spec PySem.W PyProof.Rows
def bmV : List Value := [.type "ValueError", .type "Exception", .type "BaseException", .type "object"]
section
variable {X : Cx} {E : XK} {C : Addr} {x : Str} {p cpos pos : Pos} {e : Expr} {es : List Expr} {t : TA}
end
def CX1 (P : Program) (w : World) : CXT := fun outer H s E ev s' => ∃ (ea : Addr) (cls a0 : Value) (B : Heap) (H' : Hp), ev = .ref ea /\ s'.os = s.os /\ AllBare s'.gens /\ Heap.FlyingW B outer ea cls a0 s'.heap /\
 (∀ b o, s.heap.get? b = some o -> H b = none -> b ∉ frs outer -> B.get? b = some o) /\ HOk P w H' B /\ Same H H' /\ (∀ b o, s.heap.get? b = some o -> H b = none -> H' b = none) /\ (∀ b o, s.heap.get? b = some o -> b ∈ frs outer -> ∃ sl, s'.heap.get? b = some { o with slots := sl }) /\ E cls none H'
section
variable {P : Program} {w : World} {K : PySem.W.Frag} {mg : Str -> Option Value} {base : Heap} {N : List Str} {qual : Str} {scope : Scope} {f : Addr} {cd : Value} {A : Around} {outer : List Env} {s : Shared} {H : Hp} {E : XK}
end
end L2
namespace L2
open PySem PySem.Spec PySem.W PyProof.Rows PySem.Calls PySem.Builtin PySem.Builtin.ObjectAttr PySem.Builtin.Getset_descriptor
def Zgu (e : Addr) (C : Value) (hp : Heap) : Prop := ∃ o : Obj, hp.get? e = some o /\ o.cls = C
structure ExCls (K : PySem.W.Frag) (C : Addr) : Prop where
 ex : excIn K C bmV "ValueError.__new__" = true
 ga : findIn K (.ref C) "__getattribute__" = some (some (.builtin "BaseException.__getattribute__"))
 mb : mroIn K C (.type "BaseException") = some true
 gt : findIn K (.ref C) "__getattr__" = some none
 ca : findIn K (.ref C) "__class__" = some (some (.builtin "object.__class__"))
 cg : specialIn K (.builtin "object.__class__") "__get__" = some (some (.builtin "getset_descriptor.__get__"))
 ct : takesIn K (.builtin "object.__class__") = some true
 mo : mroIn K C (.type "object") = some true
 cl : (clsIn K C).isSome = true
section
variable {P : Program} {w : World} {A : Around} {E : Value -> Shared -> Prop} {s : Shared} {K : PySem.W.Frag} {e C : Addr}
end
end L2
namespace L2
open PySem PySem.Spec PySem.W PyProof.Rows
theorem ObjOk.there {P : Program} {w : World} {H : Hp} {hp : Heap} {a : Addr} {o : HO} (x : ObjOk P w H hp a o) : ∃ u, hp.get? a = some u := by
 cases o with
 | lst xs => obtain ⟨_, _, _, _, e⟩ := x; exact ⟨_, e⟩
 | tup xs => obtain ⟨_, _, _, ob, e, _⟩ := x; exact ⟨_, e⟩
 | dK kvs => obtain ⟨_, _, _, _, o, _, _, e, _⟩ := x; exact ⟨_, e⟩
 | dT kvs => obtain ⟨_, _, _, _, o, _, _, e, _⟩ := x; exact ⟨_, e⟩
 | set S n => obtain ⟨o, _, _, _, e, _⟩ := x; exact ⟨_, e⟩
 | ins C dx fs => obtain ⟨_, _, _, e, _⟩ := x; exact ⟨_, e⟩
 | own y => exact x
 | xd fs => obtain ⟨_, ⟨_, _, _, e, _⟩, _⟩ := x; exact ⟨_, e⟩
 | rng lo hi => obtain ⟨_, _, _, e⟩ := x; exact ⟨_, e⟩
 | frz ob u => obtain ⟨e, _⟩ := x; exact ⟨_, e⟩
 | tbl ps => exact ⟨_, x⟩
 | met f y => exact ⟨_, x⟩
 | ext φ => exact x.2.1
section
variable {X : Cx} {pins : List (Addr × Obj)} {σ : St} {H H' : Hp} {s s' : Shared} {B hp : Heap} {ea : Addr} {C : Value}
end
section
variable {X : Cx} {E : XK}
end
end L2
namespace L2
open PySem PySem.Spec PySem.W PyProof.Rows
section
variable {X : Cx} {G : Addr} {g n : Str} {i : Nat} {body suite : List Stmt} {b₀ : Stmt} {gp hpos pos : Pos} {tb : XK -> TS} {ts : Addr -> Addr -> TS}
end
end L2
namespace DL
open PySem PySem.Spec L2
def spX (cA : Kn) (n : Nat) (m : List D -> Option D) (x : List D -> Option String) : Sp := fun vs H Q E => spD cA n m vs H Q E \/
 ∃ (av : Addr -> Prop) (ds : List D) (c : String), (∀ a, av a -> H a ≠ none) /\ RepL cA av H ds vs /\ ds.length = n /\ x ds = some c /\ ∀ H', Same H H' -> E (.ref (cA.c c)) none H'
def VX (G : Cn) (ow : List Nat) (E : XK) (ts : TS) (χ : Env -> Option String) : Prop :=
 ∀ H0 av A σ H δ, ER G ow H0 av A σ H δ -> ∀ c, χ δ = some c -> (∀ H', Same H0 H' -> E (.ref (G.1.c c)) none H') -> ∀ De : Ends, ts De σ H
section
variable {cA : Kn} {G : Cn} {ow ow1 owB owC owN : List Nat} {E : XK}
end
section
variable {P : Program} {w : World} {K : PySem.W.Frag} {mg : Str -> Option Value} {base : Heap} {cA : Kn}
end
end DL
namespace DL
open PySem PySem.Spec L2
def ZhF (K : PySem.W.Frag) (cA : Kn) (v : V) (tab : List (String × Bool)) : Prop := ∀ c b, tab.lookup c = some b -> ∃ cv, (∀ u, RelV v u -> u = cv) /\ PySem.W.kitOne K (.ref (cA.c c)) cv = some b
inductive IsiEs (K : PySem.W.Frag) (cA : Kn) : List V -> List (List (String × Bool)) -> Prop where
 | nil : IsiEs K cA [] []
 | cons {v : V} {t : List (String × Bool)} {vs : List V} {ts : List (List (String × Bool))} : ZhF K cA v t -> IsiEs K cA vs ts -> IsiEs K cA (v :: vs) (t :: ts)
section
variable {cA : Kn} {G : Cn} {ow owB owC : List Nat}
theorem ER.none {H0 H : Hp} {av : Addr -> Prop} {A : Nat -> Option Addr} {σ : L2.St} {δ : Env} {i : Nat} {x : Option V} (R : ER G ow H0 av A σ H δ) (hi : ow.contains i = false) (hn : G.2 i = Option.none) : ER G ow H0 av A (σ.set i x) H (δ.set i Option.none) :=
 ⟨R.same, R.avd, R.fr, R.inj, R.live, R.dom, R.dom', by rw [List.length_set, List.length_set]; exact R.len, R.pin, (fun j v' e => by
   have q : j ≠ i := fun z => by rw [z, hn] at e; cases e
   rw [List.getElem?_set_ne (Ne.symm q)]; exact R.kept j v' e), fun j d e => by
   have hj : j ≠ i := by
    intro z
    subst z
    by_cases hl : j < δ.length
    · rw [List.getElem?_set_self hl] at e; cases e
    · rw [List.getElem?_eq_none (by rw [List.length_set]; omega)] at e; cases e
   rw [List.getElem?_set_ne (Ne.symm hj)] at e
   obtain ⟨v, h1, h2⟩ := R.var j d e
   exact ⟨v, by rw [List.getElem?_set_ne (Ne.symm hj)]; exact h1, h2⟩⟩
end
end DL
namespace L2
open PySem PySem.Spec PyProof.Rows
section
variable {X : Cx}
def Zfg (K : PySem.W.Frag) : R2 := fun x y H Q => ∃ l b xs zs, x = .ref l /\ y = .ref b /\ SqL K H l xs /\ SqL K H b zs /\ xs.length + zs.length <= sizeLine /\ ∀ p, H p = none -> Q (.ref p) (upd H p (.lst (xs ++ zs)))
theorem Zef : OpR X (binaryOp .Add) (Zfg X.K) := by
 intro pins s σ H x y v u Q I rx ry h
 obtain ⟨l, b, xs, zs, rfl, rfl, hH, hB, hz, q⟩ := h
 cases rx
 cases ry
 obtain ⟨its, r, pl, _⟩ := I.list hH
 obtain ⟨its2, r2, pl2, _⟩ := I.list hB
 obtain ⟨⟨c1, d1, da1, sl1⟩, n1, g1, e1, e2, e3⟩ := pl
 obtain ⟨⟨c2, d2, da2, sl2⟩, n2, g2, f1, f2, f3⟩ := pl2
 dsimp only at e1 e2 e3 f1 f2 f3
 subst e1 e2 e3 f1 f2 f3
 have hl := r.length
 have hl2 := r2.length
 refine concat_meets ⟨_, g1, rfl⟩ ⟨_, g2, rfl⟩ noFill_list_add seq_list_add PySem.F.slot_list_add PySem.F.entry_list_add (PySem.F.args_list_add_2 _ _) (list_addW l b its.toArray its2.toArray n1 n2 none none sl1 sl2 (by rw [List.size_toArray, List.size_toArray]; omega)) ⟨g1, g2, ?_⟩
 have ea : its.toArray ++ its2.toArray = (its ++ its2).toArray := by simp
 rw [ea]
 exact ⟨.ref _, _, I.lnew (t' := s.toks) (r.append r2) (by rw [List.length_append]; omega), rfl, q _ I.fresh⟩
def Zfh (K : PySem.W.Frag) : R2 := fun x y H Q => ∃ l k xs, x = .ref l /\ y = .int k /\ SqL K H l xs /\ -(2 ^ 63) <= k /\ k < 2 ^ 63 /\ xs.length * k.toNat <= sizeLine /\ ∀ p, H p = none -> Q (.ref p) (upd H p (.lst (List.replicate k.toNat xs).flatten))
theorem Zeg : OpR X (binaryOp .Mult) (Zfh X.K) := by
 intro pins s σ H x y v u Q I rx ry h
 obtain ⟨l, k, xs, rfl, rfl, hH, h1, h2, hz, q⟩ := h
 cases rx
 obtain ⟨t, rfl⟩ := ry
 obtain ⟨its, r, pl, _⟩ := I.list hH
 obtain ⟨⟨c1, d1, da1, sl1⟩, n1, g1, e1, e2, e3⟩ := pl
 dsimp only at e1 e2 e3
 subst e1 e2 e3
 have hl := r.length
 have hlen : its.toArray.size * k.toNat <= sizeLine := by rw [List.size_toArray, <- hl]; exact hz
 have hcap : ¬ its.toArray.size * k.toNat > (2 ^ 63 - 1) / 8 := by
  have : (sizeLine : Nat) <= (2 ^ 63 - 1) / 8 := by decide
  omega
 have hfit : ¬ (!Builtin.List.listFitsIndex k) = true := by
  rw [fitsIndex_both h1 h2]
  exact Bool.false_ne_true
 have hlong : ¬ Builtin.List.listTooLong (its.toArray.size * k.toNat) = true := by
  rw [ZcX hlen]
  exact Bool.false_ne_true
 have hnew : List.foldl (fun x1 x2 => x1 ++ x2) #[] (List.replicate (if its.toArray.isEmpty = true then 0 else k.toNat) its.toArray) = (List.replicate k.toNat its).flatten.toArray := by
  have f0 : ∀ m : Nat, List.foldl (fun x1 x2 => x1 ++ x2) #[] (List.replicate m its.toArray) = (List.replicate m its).flatten.toArray := fun m => by
   have := Zav its m []
   rw [List.nil_append] at this
   exact this
  rw [f0]
  cases its with
  | nil => simp
  | cons a r' => rw [if_neg (by simp)]
 refine wpAny_binaryOp_repeat_ref (T := "list") (U := "int") (by decide) ⟨_, g1, rfl⟩ (fun s' => typeIs_int s' k t) noFill_list_mul F.fills_int_mul F.slot_int_rmul repeat_list F.slot_int_index.lookup
  (call_meets F.slot_int_rmul (typeIs_int s k t) F.entry_int_rmul (F.args_int_rmul_2 _ _) (lm_int_rmul_list_any k t l its.toArray n1 none sl1)
    ⟨g1, rfl, ⟨_, g1, rfl⟩, call_meets F.slot_list_mul ⟨_, g1, rfl⟩ F.entry_list_mul (F.args_list_mul_2 _ _) (lm_list_mul_any l its.toArray n1 none sl1 k t hfit hcap hlong) ⟨g1, ?_⟩⟩)
 rw [hnew]
 exact ⟨.ref _, _, I.lnew (t' := s.toks) (r.rep k.toNat) (by rw [Zd2, Nat.mul_comm]; exact hz), rfl, q _ I.fresh⟩
def U7 (K : PySem.W.Frag) : R2 := fun x y H Q => rI0 (fun i j => .int (i + j)) x y H Q \/ rAddS x y H Q \/ Zfg K x y H Q
theorem Zeh : OpR X (binaryOp .Add) (U7 X.K) := op_add.or (op_addS.or Zef)
theorem Y5 {K : PySem.W.Frag} (hK : X.K = K := by rfl) : OpR X (binaryOp .Add) (U7 K) := hK ▸ Zeh
def Jb (K : PySem.W.Frag) : R2 := fun x y H Q => rI DL.CMulW (fun i j => .int (i * j)) x y H Q \/ DL.rMulS x y H Q \/ Zfh K x y H Q
theorem Zei : OpR X (binaryOp .Mult) (Jb X.K) := DL.op_mulW.or (DL.op_mulS.or Zeg)
theorem U8 {K : PySem.W.Frag} (hK : X.K = K := by rfl) : OpR X (binaryOp .Mult) (Jb K) := hK ▸ Zei
end
end L2
namespace DL
open PySem PySem.Spec L2
section
variable {cA : Kn} {G : Cn} {ow owB owC : List Nat}
theorem ZbX {i : Addr -> Prop} {H : Hp} {p : Addr} {xs : List D} {vs : List V} (hi : ∀ a, i a -> H a ≠ none) (hp : H p = none) (l : RepL cA i H xs vs) : Rep cA i (upd H p (.lst vs)) (.lst xs) (.ref p) := by
 unfold Rep
 exact ⟨p, vs, rfl, fun z => (hi p z hp).elim, SqL.of ZB, l.same (Yb hp)⟩
def addX : D -> D -> Option D
 | .lst a, .lst b => if a.length + b.length <= sizeLine then some (.lst (a ++ b)) else none
 | x, y => addD x y
theorem Y6 : YS cA (U7 cA.K) addX := fun t t' i H x y vx vy d hi hx hy e Q k => by
 have old : addD x y = some d -> U7 cA.K vx vy H Q := fun e => by
  rcases (ZfS (cA := cA) t t' i H x y vx vy d hi hx hy e Q k) with h | h | h
  · exact .inl h
  · exact .inr (.inl h)
  · obtain ⟨l, b, xs, zs, e1, e2, h1, h2, h3, h4⟩ := h
    exact .inr (.inr ⟨l, b, xs, zs, e1, e2, SqL.of h1, SqL.of h2, h3, h4⟩)
 cases x with
 | lst a =>
  cases y with
  | lst b =>
   dsimp only [addX] at e
   by_cases hz : a.length + b.length <= sizeLine
   · rw [if_pos hz] at e
     cases e
     obtain ⟨a1, vs1, rfl, _, r1, l1⟩ := hx
     obtain ⟨a2, vs2, rfl, _, r2, l2⟩ := hy
     exact .inr (.inr ⟨a1, a2, vs1, vs2, rfl, rfl, r1, r2, by rw [<- l1.length, <- l2.length]; exact hz, fun p hp => k _ _ (Yb hp) (ZbX hi hp (l1.append l2))⟩)
   · rw [if_neg hz] at e; cases e
  | _ => exact old e
 | _ => exact old e
theorem RepL.rep {av : Addr -> Prop} {H : Hp} {xs : List D} {vs : List V} (l : RepL cA av H xs vs) : ∀ n : Nat, RepL cA av H (List.replicate n xs).flatten (List.replicate n vs).flatten
 | 0 => .nil
 | n + 1 => by
  rw [List.replicate_succ, List.replicate_succ, List.flatten_cons, List.flatten_cons]
  exact l.append (RepL.rep l n)
def mulX : D -> D -> Option D
 | .int i, .int j => if CMulW i j then some (.int (i * j)) else none
 | .str a, .int n => if n < 2 ^ 63 /\ -(2 ^ 63) <= n /\ a.length * n.toNat <= sizeLine then some (.str (Vu a n)) else none
 | .lst a, .int n => if n < 2 ^ 63 /\ -(2 ^ 63) <= n /\ a.length * n.toNat <= sizeLine then some (.lst (List.replicate n.toNat a).flatten) else none
 | _, _ => none
theorem U9 : YS cA (Jb cA.K) mulX := fun t t' i H x y vx vy d hi hx hy e Q k => by
 cases x <;> cases y <;> first | (cases e; done) | skip
 · cases (show vx = _ from hx); cases (show vy = _ from hy)
   rename_i a b
   dsimp only [mulX] at e
   by_cases hz : CMulW a b
   · rw [if_pos hz] at e
     cases e
     exact .inl ⟨_, _, rfl, rfl, hz, k _ H (Same.refl H) rfl⟩
   · rw [if_neg hz] at e; cases e
 · cases (show vx = _ from hx); cases (show vy = _ from hy)
   rename_i a n
   dsimp only [mulX] at e
   by_cases hz : n < 2 ^ 63 /\ -(2 ^ 63) <= n /\ a.length * n.toNat <= sizeLine
   · rw [if_pos hz] at e
     cases e
     exact .inr (.inl ⟨_, _, rfl, rfl, hz, k _ H (Same.refl H) rfl⟩)
   · rw [if_neg hz] at e; cases e
 · rename_i a n
   cases (show vy = _ from hy)
   dsimp only [mulX] at e
   by_cases hz : n < 2 ^ 63 /\ -(2 ^ 63) <= n /\ a.length * n.toNat <= sizeLine
   · rw [if_pos hz] at e
     cases e
     obtain ⟨a1, vs1, rfl, _, r1, l1⟩ := hx
     exact .inr (.inr ⟨a1, n, vs1, rfl, rfl, r1, hz.2.1, hz.1, by rw [<- l1.length]; exact hz.2.2, fun p hp => k _ _ (Yb hp) (ZbX hi hp (l1.rep n.toNat))⟩)
   · rw [if_neg hz] at e; cases e
end
end DL
namespace L2
open PySem PySem.W
end L2
namespace DL
open L2
theorem VX.frz {G : Cn} {ow ow1 : List Nat} {E : XK} {t : TS} {χ : Env -> Option String} (i : Nat) (h : VX G ow1 E t χ) (hn : G.2 i = none) (h1 : sub ow1 ow = true) (h2 : ow1.contains i = false) (h3 : sub ow (i :: ow1) = true) : VX G ow E t χ := fun H0 av A σ H δ R c e k De =>
 h H0 av _ σ H δ (R.freeze i (XE h1 h2 h3) hn) c e k De
end DL
namespace L2
open PySem
end L2
namespace L2
open PySem
end L2
namespace L2
open PySem PySem.Spec PySem.W PyProof.Rows
section
variable {X : Cx} {e : Expr} {te : TE} {pos : Pos}
inductive PJ (X : Cx) : List Expr -> List TE -> Prop where
 | nil : PJ X [] []
 | cons {e : Expr} {es : List Expr} {t : TE} {ts : List TE} : PE X e t -> PJ X es ts -> PJ X (e :: es) (t :: ts)
end
end L2
namespace DL
open PySem PySem.Spec L2
section
variable {G : Cn} {ow : List Nat}
inductive VJ (G : Cn) (ow : List Nat) : List TE -> List (Env -> Option D) -> Prop where
 | nil : VJ G ow [] []
 | cons {t : TE} {a : Env -> Option D} {ts : List TE} {as : List (Env -> Option D)} : VE G ow t .cl a -> VJ G ow ts as -> VJ G ow (t :: ts) (a :: as)
end
end DL
namespace L2
open PySem PySem.Spec PySem.W PyProof.Rows
section
variable {X : Cx} {E : XK}
end
end L2
namespace DL
open PySem PySem.Spec L2
abbrev XTab := List (String × (Nat × (List D -> Option D) × (List D -> Option String)))
structure MethOkX (X : Cx) (cA : Kn) (k : Nat) (m : String) (c : String) (n : Nat) (mm : List D -> Option D) (xm : List D -> Option String) : Prop where
 ex : ∃ f fd ps, Cls X.K (cA.c c) /\ Meth X.K (cA.c c) (Str.ofString m) f /\ FnOk X.prog X.w X.K X.mg X.base (CX1 X.prog X.w) k f fd ps (spX cA n mm xm) /\ Binds X.K fd ps []
def MTOkX (X : Cx) (cA : Kn) (k : Nat) (m : String) : XTab -> Prop
 | [] => True
 | (c, n, mm, xm) :: r => MethOkX X cA k m c n mm xm /\ MTOkX X cA k m r
theorem MTOkX.get {X : Cx} {cA : Kn} {k : Nat} {m : String} : ∀ {tab : XTab} {c : String} {n : Nat} {mm : List D -> Option D} {xm : List D -> Option String}, MTOkX X cA k m tab -> tab.lookup c = some (n, mm, xm) -> MethOkX X cA k m c n mm xm
 | [], _, _, _, _, _, h => by simp at h
 | (c', n', mm', xm') :: r, c, n, mm, xm, T, h => by
  rw [List.lookup_cons] at h
  cases hc : c == c' with
  | true =>
   rw [hc] at h
   cases h
   have : c = c' := eq_of_beq hc
   subst this
   exact T.1
  | false =>
   rw [hc] at h
   exact MTOkX.get T.2 h
section
variable {X : Cx} {cA : Kn} {k : Nat} {m : String} {tab : XTab} {o e : Expr} {es : List Expr} {ta : TE} {t : TA} {pos apos : Pos} {pl : Sem Bool} {E : XK}
end
section
variable {cA : Kn} {G : Cn} {ow ow1 owB owC owN : List Nat} {E : XK}
end
end DL
namespace L2
open PySem PySem.Spec PySem.W PyProof.Rows
theorem Zal : ∀ (cs : List Nat) (its : List Value), its.length = cs.length -> (∀ (j : Nat) (v : Value), its[j]? = some v -> ∃ (c : Nat) (u : Tok), cs[j]? = some c /\ v = Value.str ⟨#[c]⟩ u) -> Vals (cs.map fun c => S [c]) its
 | [], [], _, _ => .nil
 | c :: cs, [], h, _ => by simp at h
 | [], v :: its, h, _ => by simp at h
 | c :: cs, v :: its, h, k => by
  refine .cons ?_ (Zal cs its (by simpa using h) fun j v hj => by simpa using k (j + 1) v (by simpa using hj))
  obtain ⟨c', u, e1, e2⟩ := k 0 v rfl
  cases e1
  exact ⟨u, e2⟩
def Zfi (K : PySem.W.Frag) : List V -> Hp -> VK -> Prop := fun xs H Q => ZfQ K xs H Q \/ ∃ cs, xs = [S cs] /\ cs.length <= sizeLine /\ ∀ l, H l = none -> Q (.ref l) (upd H l (.lst (cs.map fun c => S [c])))
theorem Zam {X : Cx} {K : PySem.W.Frag} (hc : X.calm = true := by rfl) (hK : X.K = K := by rfl) : ZZ X (.type "list") (Zfi K) := by
 subst hK
 intro pins s σ H xs us Q I r h
 rcases h with h | ⟨cs, rfl, hz, q⟩
 · exact ZaQ pins s σ H xs us Q I r h
 · obtain ⟨u, rfl, rx⟩ := YD r
   obtain ⟨t, rfl⟩ := rx
   refine call_list_str (I.ok.hd hc) (tx cs) t (fun h' tk acc' c' kp e hi => ?_) (by simpa using hz)
   have hv : Vals (cs.map fun c => S [c]) acc'.toList := Zal cs _ (by simpa using hi.1) fun j v hj => by
    obtain ⟨c, u, e1, e2⟩ := hi.2 j v (by simpa using hj)
    exact ⟨c, u, by simpa using e1, e2⟩
   exact ⟨.ref s.heap.objs.size, _, I.laid (t' := tk) kp (Nat.le_refl _) (show ObjOk X.prog X.w _ h' _ (.lst _) from ⟨by rw [List.length_map]; exact hz, acc'.toList, c', hv, e⟩), rfl, q _ (I.hok.fresh (Nat.le_refl _))⟩
end L2
namespace DL
open PySem PySem.Spec L2
def Xn : List D -> Option D
 | [.str cs] => if cs.length <= sizeLine then some (.lst (cs.map fun c => .str [c])) else none
 | ds => Ze7 ds
section
variable {G : Cn} {ow : List Nat}
theorem Zan {cA : Kn} {av : Addr -> Prop} {H : Hp} : ∀ cs : List Nat, RepL cA av H (cs.map fun c => D.str [c]) (cs.map fun c => S [c])
 | [] => .nil
 | c :: cs => .cons rfl (Zan cs)
theorem Zbb {t : TA} {q : Ql} {α : Env -> Option (List D)} (hq : q = .cl \/ q = .tp) (h : VA G ow t q α) : VF G ow (tCB (Zfi G.1.K) t) (eCB Xn α) := fun H0 av A σ H δ E d e Q k => by
 unfold eCB at e
 cases he : α δ with
 | none => rw [he] at e; cases e
 | some ds =>
  rw [he] at e
  replace e : Xn ds = some d := e
  unfold Xn at e
  split at e
  · rename_i cs
    by_cases hz : cs.length <= sizeLine
    · rw [if_pos hz] at e
      cases e
      refine h H0 av A σ H δ E _ he _ fun vs H1 s1 r1 => ?_
      have il : X8 G.1 (AV av A) H1 [.str cs] vs := by
       rcases hq with rfl | rfl <;> exact r1.il
      obtain ⟨v, t, rfl, hx⟩ := il1 il
      cases (show v = _ from hx)
      exact .inr ⟨cs, rfl, hz, fun p hp => k p _ _ H1 s1 hp (Zan cs) rfl⟩
    · rw [if_neg hz] at e; cases e
  · exact h H0 av A σ H δ E _ he _ fun vs H1 s1 r1 => by
     have il : X8 G.1 (AV av A) H1 ds vs := by
      rcases hq with rfl | rfl <;> exact r1.il
     refine .inl ?_
     unfold Ze7 at e
     split at e
     · rename_i xs
       cases e
       obtain ⟨v, t, rfl, a, ws, rfl, _, rd, l⟩ := il1 il
       exact ⟨a, ws, rfl, .inl rd, fun p hp => k p ws _ H1 s1 hp l rfl⟩
     · rename_i xs
       cases e
       obtain ⟨v, t, rfl, a, ws, rfl, _, rd, l⟩ := il1 il
       exact ⟨a, ws, rfl, .inr (SqT.of rd), fun p hp => k p ws _ H1 s1 hp l rfl⟩
     · cases e
end
end DL
namespace L2
open PySem PySem.Spec PySem.W PyProof.Rows
structure RoomE (k : Nat) (A : Around) : Prop where
 dp : A.depth + 3 * k + 5 < recursionLimit
 un : A.units + 16 * k + 200 < cLine
structure FnOkE (P : Program) (w : World) (K : PySem.W.Frag) (mg : Str -> Option Value) (base : Heap) (k : Nat) (f : Addr) (fd : FuncData) (ps : List Str) (sp : List V -> Hp -> VK -> Prop) : Prop where
 len : ∀ vs H Q, sp vs H Q -> vs.length = ps.length
 run : ∀ (A : Around) (outer : List PySem.Env) (s : Shared) (H : Hp) (args : Args) (us : List Value) (vs : List V) (Q : VK), RoomE k A -> Env0 P w K mg base A outer s H -> BindsTo s fd args (ps.zip us) -> Vals vs us -> sp vs H Q ->
  codeAny (model P w) A (.call (.ref f) args) (CR CX0 outer P w H s Q E0) s
end L2
namespace DL
open PySem PySem.Spec L2
def ZfY (K : PySem.W.Frag) (cA : Kn) (i : Nat) (mk : Addr -> Addr -> TE) (tab : List (String × Bool)) : Prop := ∀ (c : String) (b : Bool) (ea : Addr) (σ : L2.St) (H : Hp) (Q : VK), ExCls K (cA.c c) -> tab.lookup c = some b -> σ[i]? = some (some (.ref ea)) -> H ea = some (.ext (Zgu ea (.ref (cA.c c)))) -> (∀ H', Same H H' -> Q (.bl b) H') -> mk (cA.c c) ea σ H Q
inductive Items (K : PySem.W.Frag) (cA : Kn) (i : Nat) : List (Addr -> Addr -> TE) -> List (List (String × Bool)) -> Prop where
 | nil : Items K cA i [] []
 | cons {m : Addr -> Addr -> TE} {t : List (String × Bool)} {ms : List (Addr -> Addr -> TE)} {ts : List (List (String × Bool))} : ZfY K cA i m t -> Items K cA i ms ts -> Items K cA i (m :: ms) (t :: ts)
section
variable {cA : Kn} {G : Cn} {ow owB owC : List Nat}
end
end DL
namespace L2
open PySem PySem.Spec PyProof.Rows
section
variable {X : Cx} {elts : List Expr} {x1 : Nat} {tpos : Pos}
end
end L2
namespace DL
open PySem PySem.Spec L2
section
variable {cA : Kn} {G : Cn} {ow : List Nat}
end
end DL
namespace DL
open PySem PySem.Spec L2
def mat (rows : List (List D)) : D := .lst (rows.map D.lst)
structure Mx (H : Hp) (a : Addr) (bs : List Addr) (rows : List (List D)) : Prop where
 top : H a = some (.lst (bs.map V.ref))
 len : bs.length = rows.length
 nd : bs.Nodup
 na : a ∉ bs
 row : ∀ (k : Nat) (b : Addr) (r : List D), bs[k]? = some b -> rows[k]? = some r -> H b = some (.lst (r.map val))
 sc : ∀ r ∈ rows, r.all Zh = true
section
variable {H H' : Hp} {a : Addr} {bs : List Addr} {rows : List (List D)}
theorem Mx.mem (M : Mx H a bs rows) {b : Addr} (h : b ∈ bs) : ∃ r ∈ rows, H b = some (.lst (r.map val)) := by
 obtain ⟨k, hk, e⟩ := List.mem_iff_getElem.mp h
 have hk2 : k < rows.length := by rw [<- M.len]; exact hk
 exact ⟨rows[k], List.getElem_mem hk2, M.row k b _ (by rw [List.getElem?_eq_getElem hk, e]) (List.getElem?_eq_getElem hk2)⟩
theorem Mx.there (M : Mx H a bs rows) {x : Addr} (h : x ∈ a :: bs) : ∃ vs, H x = some (.lst vs) := by
 rcases List.mem_cons.mp h with rfl | h
 · exact ⟨_, M.top⟩
 · obtain ⟨r, _, e⟩ := M.mem h
   exact ⟨_, e⟩
theorem Mx.mono (M : Mx H a bs rows) (k : Same H H') : Mx H' a bs rows := ⟨k _ _ M.top, M.len, M.nd, M.na, fun n b r h1 h2 => k _ _ (M.row n b r h1 h2), M.sc⟩
theorem Mx.rep {cA : Kn} {av : Addr -> Prop} (M : Mx H a bs rows) (hn : ∀ x ∈ a :: bs, ¬ av x) : Rep cA av H (mat rows) (.ref a) := by
 have go : ∀ (bs : List Addr) (rows : List (List D)), bs.length = rows.length -> (∀ x ∈ bs, ¬ av x) -> (∀ (k : Nat) (b : Addr) (r : List D), bs[k]? = some b -> rows[k]? = some r -> H b = some (.lst (r.map val))) -> (∀ r ∈ rows, r.all Zh = true) -> RepL cA av H (rows.map D.lst) (bs.map V.ref) := by
  intro bs
  induction bs with
  | nil =>
   intro rows hl _ _ _
   cases rows with
   | nil => exact .nil
   | cons _ _ => simp at hl
  | cons b bs ih =>
   intro rows hl hn hr hs
   cases rows with
   | nil => simp at hl
   | cons r rows =>
    refine .cons ?_ (ih rows (by simpa using hl) (fun x hx => hn x (List.mem_cons_of_mem _ hx)) (fun k b r h1 h2 => hr (k + 1) b r (by simpa using h1) (by simpa using h2)) fun r hr => hs r (List.mem_cons_of_mem _ hr))
    unfold Rep
    exact ⟨b, r.map val, rfl, fun z => (hn b List.mem_cons_self z).elim, SqL.of (hr 0 b r rfl rfl), .of_vals (hs r List.mem_cons_self)⟩
 unfold mat Rep
 exact ⟨a, bs.map V.ref, rfl, fun z => (hn a List.mem_cons_self z).elim, SqL.of M.top, go bs rows M.len (fun x hx => hn x (List.mem_cons_of_mem _ hx)) M.row M.sc⟩
end
open Classical in
noncomputable def ovl (H0 H : Hp) (F : List Addr) : Hp := fun x => if x ∈ F then H x else H0 x
theorem ZQ {H0 H : Hp} {F : List Addr} {x : Addr} (h : x ∈ F) : ovl H0 H F x = H x := if_pos h
theorem ZH {H0 H : Hp} {F : List Addr} {x : Addr} (h : x ∉ F) : ovl H0 H F x = H0 x := if_neg h
abbrev Cn.keep (G : Cn) (i : Nat) (v : V) : Cn := ⟨G.1, fun j => if j = i then some (.inr v) else G.2 j⟩
abbrev avF (av : Addr -> Prop) (F : List Addr) : Addr -> Prop := fun x => av x \/ x ∈ F
def PinOk (G : Cn) (i : Nat) (σ : L2.St) : Prop := ∀ z, G.2 i = some z -> ∃ v, z = .inr v /\ σ[i]? = some (some v)
theorem PinOk.none {G : Cn} {i : Nat} {σ : L2.St} (h : G.2 i = Option.none) : PinOk G i σ := fun z e => by rw [h] at e; cases e
theorem PinOk.set {G : Cn} {i k : Nat} {σ : L2.St} {x : Option V} (h : PinOk G i σ) (hk : k ≠ i) : PinOk G i (σ.set k x) := fun z e => by
 obtain ⟨v, h1, h2⟩ := h z e
 exact ⟨v, h1, by rw [List.getElem?_set_ne hk]; exact h2⟩
structure MR (G : Cn) (ow : List Nat) (i : Nat) (H0 : Hp) (av : Addr -> Prop) (A : Nat -> Option Addr) (σ : L2.St) (H : Hp) (δ : Env) : Prop where
 ni : i ∉ ow
 nn : PinOk G i σ
 avd : ∀ x, av x -> H0 x ≠ none
 ex : ∃ a bs rows, δ[i]? = some (some (mat rows)) /\ Mx H a bs rows /\ (∀ x ∈ a :: bs, H0 x = none) /\ ER (G.keep i (.ref a)) ow (ovl H0 H (a :: bs)) (avF av (a :: bs)) A σ H (δ.set i none)
section
variable {cA : Kn} {G : Cn} {ow owN owB owC ow1 : List Nat} {i : Nat} {H0 H H' : Hp} {av : Addr -> Prop} {A : Nat -> Option Addr} {σ : L2.St} {δ : Env}
theorem Yu {j : Nat} {v : V} (h : j ≠ i) : (G.keep i v).2 j = G.2 j := if_neg h
theorem YB {v : V} : (G.keep i v).2 i = some (.inr v) := if_pos rfl
theorem MR.view (R : MR G ow i H0 av A σ H δ) : ER G ow H0 av A σ H δ := by
 obtain ⟨a, bs, rows, hd, M, h0, E⟩ := R.ex
 have nF : ∀ j x, A j = some x -> x ∉ a :: bs := fun j x e z => by
  have := E.fr j x e
  rw [ZQ z] at this
  obtain ⟨vs, q⟩ := M.there z
  rw [q] at this; cases this
 have hAi : A i = none := by
  cases q : A i with
  | none => rfl
  | some x => exact (R.ni (E.dom i (by rw [q]; exact fun z => by cases z))).elim
 have less : ∀ b, AV av A b -> AV (avF av (a :: bs)) A b := fun b z => z.elim (fun z => .inl (.inl z)) .inr
 have hil : i < δ.length := (List.getElem?_eq_some_iff.mp hd).1
 refine ⟨fun b o e => ?_, R.avd, fun j x e => ?_, E.inj, E.live, E.dom, E.dom', by rw [E.len, List.length_set], fun j x e => ?_, fun j v e => ?_, fun j d e => ?_⟩
 · have nb : b ∉ a :: bs := fun z => by rw [h0 b z] at e; cases e
   exact E.same b o (by rw [ZH nb]; exact e)
 · have := E.fr j x e
   rw [ZH (nF j x e)] at this
   exact this
 · have q : j ≠ i := fun z => by
    obtain ⟨v, h1, _⟩ := R.nn _ (z ▸ e)
    cases h1
   exact E.pin j x (by rw [Yu q]; exact e)
 · by_cases q : j = i
   · obtain ⟨v', h1, h2⟩ := R.nn _ (q ▸ e)
     cases h1
     rw [q]
     exact h2
   · exact E.kept j v (by rw [Yu q]; exact e)
 · by_cases q : j = i
   · subst q
     rw [hd] at e
     cases e
     refine ⟨.ref a, E.kept j _ YB, fun _ => M.rep fun x hx z => ?_, fun b z => by rw [hAi] at z; cases z⟩
     rcases z with z | ⟨k, z⟩
     · exact R.avd x z (h0 x hx)
     · exact nF k x z hx
   · obtain ⟨v, h1, h2, h3⟩ := E.var j d (by rw [List.getElem?_set_ne (Ne.symm q)]; exact e)
     refine ⟨v, h1, fun z => (h2 z).av fun b z => .inl (less b z), fun b z => ?_⟩
     obtain ⟨r1, r2⟩ := h3 b z
     refine ⟨r1, ?_⟩
     cases d with
     | lst xs => obtain ⟨vs, q1, q2⟩ := r2; exact ⟨vs, q1, q2.av fun b z => .inl (less b z)⟩
     | obj c ks xs => obtain ⟨dx, vs, q1, q0, q2⟩ := r2; exact ⟨dx, vs, q1, q0, q2.av fun b z => .inl (less b z)⟩
     | dct ks xs => obtain ⟨vs, q1, q0, q2⟩ := r2; exact ⟨vs, q1, q0, q2.av fun b z => .inl (less b z)⟩
     | dtt ks xs => obtain ⟨vs, q1, q0, q2⟩ := r2; exact ⟨vs, q1, q0, q2.av fun b z => .inl (less b z)⟩
     | _ => exact r2
theorem Jc {a : Addr} {bs : List Addr} {rows : List (List D)} (M : Mx H a bs rows) (k : Same H H') : ovl H0 H' (a :: bs) = ovl H0 H (a :: bs) := by
 funext x
 by_cases h : x ∈ a :: bs
 · rw [ZQ h, ZQ h]
   obtain ⟨vs, q⟩ := M.there h
   rw [q, k _ _ q]
 · rw [ZH h, ZH h]
theorem MR.mono (R : MR G ow i H0 av A σ H δ) (k : Same H H') : MR G ow i H0 av A σ H' δ := by
 obtain ⟨a, bs, rows, hd, M, h0, E⟩ := R.ex
 exact ⟨R.ni, R.nn, R.avd, a, bs, rows, hd, M.mono k, h0, by rw [Jc M k]; exact E.mono k⟩
theorem MR.set {k : Nat} {d : D} (R : MR G ow i H0 av A σ H δ) (hs : Zh d = true) (hk : k ≠ i) (hw : ∀ j, j ∈ owN ↔ j ∈ ow /\ j ≠ k) (hn : G.2 k = none) : MR G owN i H0 av (fun j => if j = k then none else A j) (σ.set k (some (val d))) H (δ.set k (some d)) := by
 obtain ⟨a, bs, rows, hd, M, h0, E⟩ := R.ex
 refine ⟨fun z => R.ni ((hw i).mp z).1, R.nn.set hk, R.avd, a, bs, rows, by rw [List.getElem?_set_ne hk]; exact hd, M, h0, ?_⟩
 rw [List.set_comm _ _ hk]
 exact E.set (.of_val hs) hw (by rw [Yu hk]; exact hn)
theorem MR.turn {a : Addr} {bs : List Addr} {rows rows' : List (List D)} (ni : i ∉ ow) (nn : PinOk G i σ) (havd : ∀ x, av x -> H0 x ≠ none) (hd : δ[i]? = some (some (mat rows))) (M : Mx H a bs rows) (h0 : ∀ x ∈ a :: bs, H0 x = none) (E : ER (G.keep i (.ref a)) ow (ovl H0 H (a :: bs)) (avF av (a :: bs)) A σ H (δ.set i none))
 (M' : Mx H' a bs rows') (hk : ∀ x, x ∉ a :: bs -> H' x = H x) : MR G ow i H0 av A σ H' (δ.set i (some (mat rows'))) := by
 have hil : i < δ.length := (List.getElem?_eq_some_iff.mp hd).1
 have nF : ∀ j x, A j = some x -> x ∉ a :: bs := fun j x e z => by
  have := E.fr j x e
  rw [ZQ z] at this
  obtain ⟨vs, q⟩ := M.there z
  rw [q] at this; cases this
 refine ⟨ni, nn, havd, a, bs, rows', List.getElem?_set_self hil, M', h0, ?_⟩
 have e1 : (δ.set i (some (mat rows'))).set i none = δ.set i none := List.set_set ..
 rw [e1]
 refine ⟨fun b o e => ?_, fun x z => ?_, fun j x e => ?_, E.inj, fun j x e => ?_, E.dom, E.dom', E.len, E.pin, E.kept, fun j d e => ?_⟩
 · by_cases h : b ∈ a :: bs
   · rw [ZQ h] at e; exact e
   · rw [ZH h] at e
     rw [hk b h]
     exact E.same b o (by rw [ZH h]; exact e)
 · by_cases h : x ∈ a :: bs
   · rw [ZQ h]
     obtain ⟨vs, q⟩ := M'.there h
     rw [q]; exact fun z => by cases z
   · rw [ZH h]
     exact havd x (z.resolve_right h)
 · have := E.fr j x e
   rw [ZH (nF j x e)] at this ⊢
   exact this
 · rw [hk x (nF j x e)]
   exact E.live j x e
 · have ex : ∀ b o, ¬ AV (avF av (a :: bs)) A b -> H b = some o -> H' b = some o := fun b o n e => by
    rw [hk b fun z => n (.inl (.inr z))]; exact e
   obtain ⟨v, h1, h2, h3⟩ := E.var j d e
   refine ⟨v, h1, fun z => (h2 z).ext ex, fun b z => ?_⟩
   obtain ⟨r1, r2⟩ := h3 b z
   refine ⟨r1, ?_⟩
   cases d with
   | lst xs => obtain ⟨vs, q1, q2⟩ := r2; exact ⟨vs, by rw [hk b (nF j b z)]; exact q1, q2.ext ex⟩
   | obj c ks xs => obtain ⟨dx, vs, q1, q0, q2⟩ := r2; exact ⟨dx, vs, by rw [hk b (nF j b z)]; exact q1, q0, q2.ext ex⟩
   | dct ks xs => obtain ⟨vs, q1, q0, q2⟩ := r2; exact ⟨vs, by rw [hk b (nF j b z)]; exact q1, q0, q2.ext ex⟩
   | dtt ks xs => obtain ⟨vs, q1, q0, q2⟩ := r2; exact ⟨vs, by rw [hk b (nF j b z)]; exact q1, q0, q2.ext ex⟩
   | _ => exact r2
end
end DL
namespace DL
open PySem PySem.Spec L2
def WantsM (G : Cn) (owN owB owC : List Nat) (i : Nat) (H0 : Hp) (av : Addr -> Prop) (De : Ends) : Out -> Prop
 | .nx δ' => ∀ A' σ' H', MR G owN i H0 av A' σ' H' δ' -> De.nx σ' H'
 | .rt d => ∀ v H', Same H0 H' -> Rep G.1 av H' d v -> De.rt v H'
 | .bk δ' => ∀ A' σ' H', MR G owB i H0 av A' σ' H' δ' -> De.bk σ' H'
 | .ct δ' => ∀ A' σ' H', MR G owC i H0 av A' σ' H' δ' -> De.ct σ' H'
def VM (G : Cn) (ow owN owB owC : List Nat) (i : Nat) (ts : TS) (φ : Env -> Option Out) : Prop :=
 ∀ H0 av A σ H δ, MR G ow i H0 av A σ H δ -> ∀ o, φ δ = some o -> ∀ De : Ends, WantsM G owN owB owC i H0 av De o -> ts De σ H
section
variable {cA : Kn} {G : Cn} {ow owN owB owC ow1 : List Nat} {i : Nat}
theorem Zej : VM G ow ow owB owC i tNext sNext := fun H0 av A σ H δ R o e De k => by
 cases e
 exact k A σ H R
theorem Uj {t u : TS} {φ ψ : Env -> Option Out} (h1 : VM G ow ow1 owB owC i t φ) (h2 : VM G ow1 owN owB owC i u ψ) : VM G ow owN owB owC i (Xg t u) (Zd φ ψ) := fun H0 av A σ H δ R o e De k => by
 unfold Zd at e
 cases he : φ δ with
 | none => rw [he] at e; cases e
 | some o1 =>
  rw [he] at e
  refine h1 H0 av A σ H δ R o1 he _ ?_
  cases o1 with
  | nx δ' => exact fun A' σ' H' R' => h2 H0 av A' σ' H' δ' R' o e De k
  | rt d => cases e; exact k
  | bk δ' => cases e; exact k
  | ct δ' => cases e; exact k
theorem Zgv {c : TT} {t u : TS} {τ : Env -> Option Bool} {φ ψ : Env -> Option Out} (hc : VT G ow c τ) (h1 : VM G ow owN owB owC i t φ) (h2 : VM G ow owN owB owC i u ψ) : VM G ow owN owB owC i (Qw c t u) (sIf τ φ ψ) := fun H0 av A σ H δ R o e De k => by
 unfold sIf at e
 cases he : τ δ with
 | none => rw [he] at e; cases e
 | some b =>
  rw [he] at e
  refine hc H0 av A σ H δ R.view b he _ fun H' s => ?_
  cases b with
  | true => exact Xw (h1 H0 av A σ H' δ (R.mono s) o e De k)
  | false => exact Xv (h2 H0 av A σ H' δ (R.mono s) o e De k)
def VIr (G : Cn) (ow : List Nat) (wi : TI) (ι : Env -> Option (List D)) : Prop :=
 ∀ H0 av A σ H δ, ER G ow H0 av A σ H δ -> ∀ xs, ι δ = some xs -> ∀ R : It -> Hp -> Prop, (∀ J H1, Same H H1 -> XG G.1 (fun _ => True) J xs (fun _ => none) -> (∀ x ∈ xs, Zh x = true) -> R J H1) -> wi σ H R
theorem Zek {lo c : Int} {n : Nat} : ∀ x ∈ ZM lo c n, Zh x = true := fun x hx => by
 obtain ⟨k, _, rfl⟩ := List.mem_map.mp hx
 rfl
theorem Zc4 {ta : TA} {q : Ql} {a : Env -> Option (List D)} (h : VA G ow ta q a) (hl : ∀ δ ds, a δ = some ds -> ds.length = 1) : VIr G ow (Qz ta) (ZV a) := fun H0 av A σ H δ E xs e R k => by
 unfold ZV at e
 cases he : a δ with
 | none => rw [he] at e; cases e
 | some ds =>
  rw [he] at e
  refine h H0 av A σ H δ E ds he _ fun vs H1 s r => ?_
  have hln := hl δ ds he
  split at e
  · rename_i j he2
    cases he2
    by_cases hz : -(2 ^ 62) <= j /\ j < 2 ^ 62
    · rw [if_pos hz] at e
      cases e
      exact ⟨j, ql1 r, hz.1, hz.2, k _ H1 s ZaC Zek⟩
    · rw [if_neg hz] at e; cases e
  · rename_i he2; cases he2; simp at hln
  · rename_i he2; cases he2; simp at hln
  · cases e
theorem ZfZ {wi : TI} {tb : TS} {ι : Env -> Option (List D)} {φ : Env -> Option Out} (k' : Nat) (hk : k' ≠ i) (hko : ow.contains k' = false) (hn : G.2 k' = none) (hi : VIr G ow wi ι) (hb : VM G ow ow ow ow i tb φ) : VM G ow ow owB owC i (V1 wi (Yn k') tb) (ZE ι (Zf k') φ) := fun H0 av A σ H δ R o e De k => by
 unfold ZE at e
 cases he : ι δ with
 | none => rw [he] at e; cases e
 | some xs =>
  rw [he] at e
  have e : Zt (Zf k') φ xs δ = some o := e
  refine hi H0 av A σ H δ R.view xs he _ fun J H1 s1 W hsc => ?_
  refine ⟨fun j m σ' H' => m = xs.length - j /\ j <= xs.length /\ ∃ A' δ', MR G ow i H0 av A' σ' H' δ' /\ Zt (Zf k') φ (xs.drop j) δ' = some o, ⟨xs.length, by simp, Nat.zero_le _, A, δ, R.mono s1, e⟩, ?_⟩
  rintro j m σ' H' ⟨rfl, hle, A', δ', R', e'⟩
  obtain ⟨w1, w2, w3⟩ := W H' (fun b o z => by cases z)
  by_cases hlt : j < xs.length
  · refine .inr ⟨w1 j hlt, fun σ2 H2 => ∃ A2 δ2, MR G ow i H0 av A2 σ2 H2 δ2 /\ Zt (Zf k') φ (xs.drop (j + 1)) δ2 = some o, fun σ2 H2 ⟨A2, δ2, E2, e2⟩ => ⟨xs.length - (j + 1), by omega, rfl, hlt, A2, δ2, E2, e2⟩, fun v H2 y => ?_⟩
    have hx : xs[j]? = some xs[j] := List.getElem?_eq_getElem hlt
    obtain ⟨s2, rep⟩ := w2 j _ v H2 hx y
    have hs := hsc xs[j] (List.getElem_mem hlt)
    have ev : v = val xs[j] := (rep (fun _ => False) (fun _ z => z.elim) (fun _ z => z.elim)).val hs
    subst ev
    rw [List.drop_eq_getElem_cons hlt] at e'
    unfold Zt at e'
    have e' : (match φ (δ'.set k' (some xs[j])) with
     | none => none
     | some (.nx δ2) => Zt (Zf k') φ (xs.drop (j + 1)) δ2
     | some (.ct δ2) => Zt (Zf k') φ (xs.drop (j + 1)) δ2
     | some (.bk δ2) => some (.nx δ2)
     | some (.rt d) => some (.rt d)) = some o := e'
    have R2 := (R'.mono s2).set (owN := ow) hs hk (fun j => by
     have : k' ∉ ow := by simpa using hko
     exact ⟨fun h => ⟨h, fun z => this (z ▸ h)⟩, fun h => h.1⟩) hn
    cases hφ : φ (δ'.set k' (some xs[j])) with
    | none => rw [hφ] at e'; cases e'
    | some o1 =>
     rw [hφ] at e'
     refine hb _ av _ _ H2 _ R2 o1 hφ _ ?_
     cases o1 with
     | nx δ2 => exact fun A4 σ4 H4 E4 => ⟨A4, δ2, E4, e'⟩
     | ct δ2 => exact fun A4 σ4 H4 E4 => ⟨A4, δ2, E4, e'⟩
     | bk δ2 => cases e'; exact fun A4 σ4 H4 E4 => k A4 σ4 H4 E4
     | rt d => cases e'; exact k
  · have ei : j = xs.length := by omega
    subst ei
    rw [List.drop_length] at e'
    cases e'
    exact .inl ⟨w3 _ (Nat.le_refl _), k A' σ' H' R'⟩
def Z8 (i : Nat) (φ : Env -> Option Out) (δ : Env) : Option Out := match φ (δ.set i none) with
 | some (.nx δ') => match δ'[i]? with
  | some none => some (.nx (δ'.set i ((δ[i]?).getD none)))
  | _ => none
 | some (.rt d) => some (.rt d)
 | _ => none
theorem Uk {t : TS} {φ : Env -> Option Out} (h : ∀ v, VS (G.keep i v) ow owN [] [] t φ) (ho : owN.contains i = false) : VM G ow owN owB owC i t (Z8 i φ) := fun H0 av A σ H δ R o e De k => by
 obtain ⟨a, bs, rows, hd, M, h0, E⟩ := R.ex
 unfold Z8 at e
 cases hp : φ (δ.set i none) with
 | none => rw [hp] at e; cases e
 | some o1 =>
  rw [hp] at e
  refine h (.ref a) _ _ A σ H _ E o1 hp De ?_
  cases o1 with
  | nx δ1 =>
   dsimp only at e
   intro A' σ' H' E'
   have hs : Same (ovl H0 H (a :: bs)) H' := E'.same
   have hF : ∀ x ∈ a :: bs, H' x = H x := fun x hx => by
    obtain ⟨vs, q⟩ := M.there hx
    rw [q]
    exact hs x _ (by rw [ZQ hx]; exact q)
   cases hi : δ1[i]? with
   | none => rw [hi] at e; cases e
   | some z =>
    rw [hi] at e
    cases z with
    | some y => cases e
    | none =>
     dsimp only at e
     rw [hd] at e
     have e : some (Out.nx (δ1.set i (some (mat rows)))) = some o := e
     cases e
     have hil : i < δ1.length := (List.getElem?_eq_some_iff.mp hi).1
     have M' : Mx H' a bs rows := ⟨(hF a List.mem_cons_self).trans M.top, M.len, M.nd, M.na, fun k b r h1 h2 => (hF b (List.mem_cons_of_mem _ (List.mem_of_getElem? h1))).trans (M.row k b r h1 h2), M.sc⟩
     have eo : ovl H0 H' (a :: bs) = ovl H0 H (a :: bs) := by
      funext x
      by_cases hx : x ∈ a :: bs
      · rw [ZQ hx, ZQ hx, hF x hx]
      · rw [ZH hx, ZH hx]
     have es : (δ1.set i (some (mat rows))).set i none = δ1 := by
      rw [List.set_set]
      apply List.ext_getElem?
      intro j
      by_cases hj : j = i
      · subst hj
        rw [List.getElem?_set_self hil, hi]
      · rw [List.getElem?_set_ne (Ne.symm hj)]
     exact k A' σ' H' ⟨by simpa using ho, (fun z e => by
      obtain ⟨v, h1, h2⟩ := R.nn z e
      have h3 := E.kept i _ YB
      rw [h2] at h3
      cases h3
      exact ⟨_, h1, E'.kept i _ YB⟩), R.avd, a, bs, rows, List.getElem?_set_self hil, M', h0, by rw [eo, es]; exact E'⟩
  | rt d =>
   cases e
   intro v H' s r
   refine k v H' (fun b o q => s b o ?_) (r.av fun b z => .inl (.inl z))
   have nb : b ∉ a :: bs := fun z => by rw [h0 b z] at q; cases q
   rw [ZH nb]
   exact q
  | bk δ1 => cases e
  | ct δ1 => cases e
end
end DL
namespace DL
open PySem PySem.Spec L2
theorem Zel {α : Type} {xs : List α} {n : Int} {j : Nat} {x : α} (h : ixN xs.length n = some j) (hx : xs[j]? = some x) : atI xs n = some x := by
 unfold atI
 rw [h]
 exact hx
section
variable {H : Hp} {a b : Addr} {bs : List Addr} {rows : List (List D)} {j : Nat} {r r' : List D}
theorem Mx.put (M : Mx H a bs rows) (hb : bs[j]? = some b) (hr : rows[j]? = some r) (hs : r'.all Zh = true) : Mx (upd H b (.lst (r'.map val))) a bs (rows.set j r') := by
 have hbm : b ∈ bs := List.mem_of_getElem? hb
 have hab : a ≠ b := fun z => M.na (z ▸ hbm)
 have hjl : j < rows.length := (List.getElem?_eq_some_iff.mp hr).1
 refine ⟨by rw [Zj hab]; exact M.top, by rw [List.length_set]; exact M.len, M.nd, M.na, fun k b' r1 h1 h2 => ?_, fun r1 h1 => ?_⟩
 · by_cases hk : k = j
   · subst hk
     rw [hb] at h1
     cases h1
     rw [List.getElem?_set_self hjl] at h2
     cases h2
     exact ZB
   · rw [List.getElem?_set_ne (Ne.symm hk)] at h2
     have : b' ≠ b := fun z => hk (by
      subst z
      obtain ⟨p1, k1⟩ := (List.getElem?_eq_some_iff.mp h1)
      obtain ⟨p2, k2⟩ := (List.getElem?_eq_some_iff.mp hb)
      rcases Nat.lt_trichotomy k j with h | h | h
      · exact absurd (k1.trans k2.symm) (List.pairwise_iff_getElem.mp M.nd k j p1 p2 h)
      · exact h
      · exact absurd (k2.trans k1.symm) (List.pairwise_iff_getElem.mp M.nd j k p2 p1 h))
     rw [Zj this]
     exact M.row k b' r1 h1 h2
 · rcases List.mem_or_eq_of_mem_set h1 with h1 | rfl
   · exact M.sc r1 h1
   · exact hs
theorem ZaW : (rows.map D.lst).set j (.lst r') = (rows.set j r').map D.lst := by rw [List.map_set]
theorem ZbY {d : D} (h : (rows.map D.lst)[j]? = some d) : ∃ r, rows[j]? = some r /\ d = .lst r := by
 rw [List.getElem?_map] at h
 cases hr : rows[j]? with
 | none => rw [hr] at h; cases h
 | some r => rw [hr] at h; cases h; exact ⟨r, rfl, rfl⟩
theorem Mx.at (M : Mx H a bs rows) (hr : rows[j]? = some r) : ∃ b, bs[j]? = some b /\ H b = some (.lst (r.map val)) := by
 have hjl : j < bs.length := by rw [M.len]; exact (List.getElem?_eq_some_iff.mp hr).1
 exact ⟨bs[j], List.getElem?_eq_getElem hjl, M.row j _ r (List.getElem?_eq_getElem hjl) hr⟩
end
section
variable {cA : Kn} {G : Cn} {ow owN owB owC ow1 : List Nat} {i : Nat}
theorem ZbZ {ε : Env -> Option D} {δ : Env} {d : D} (h : Y0 ε δ = some d) : Zh d = true := by
 unfold Y0 at h
 cases hx : ε δ with
 | none => rw [hx] at h; cases h
 | some d' =>
  rw [hx] at h
  by_cases hs : Zh d' = true
  · have e' : d' = d := by simpa [hs] using h
    rw [<- e']; exact hs
  · simp [hs] at h
theorem Zem {r : List D} {l : Nat} {d : D} (h : r.all Zh = true) (hd : Zh d = true) : (r.set l d).all Zh = true := by
 rw [List.all_eq_true] at h ⊢
 intro x hx
 rcases List.mem_or_eq_of_mem_set hx with hx | rfl
 · exact h x hx
 · exact hd
def Va (i : Nat) (κ1 κ2 ε : Env -> Option D) (δ : Env) : Option Out := match Y0 ε δ, Za i δ, κ1 δ, κ2 δ with
 | some d, some (.lst xs), some (.int n), some (.int m) => match ixN xs.length n with
  | some j => match xs[j]? with
   | some (.lst r) => match ixN r.length m with
    | some l => some (.nx (δ.set i (some (.lst (xs.set j (.lst (r.set l d)))))))
    | none => none
   | _ => none
  | none => none
 | _, _, _, _ => none
theorem ZbD {κ1 κ2 ε : Env -> Option D} {δ : Env} {o : Out} (h : Va i κ1 κ2 ε δ = some o) : ∃ d xs n m j r l, Y0 ε δ = some d /\ Za i δ = some (.lst xs) /\ κ1 δ = some (.int n) /\ κ2 δ = some (.int m) /\ ixN xs.length n = some j /\ xs[j]? = some (.lst r) /\ ixN r.length m = some l /\ o = .nx (δ.set i (some (.lst (xs.set j (.lst (r.set l d)))))) := by
 unfold Va at h
 split at h
 · rename_i d xs n m h1 h2 h3 h4
   split at h
   · rename_i j hj
     split at h
     · rename_i r hr
       split at h
       · rename_i l hl
         exact ⟨d, xs, n, m, j, r, l, h1, h2, h3, h4, hj, hr, hl, (Option.some.inj h).symm⟩
       · cases h
     · cases h
   · cases h
 · cases h
theorem Zen {te t1 t2 : TE} {q q1 q2 : Ql} {ε κ1 κ2 : Env -> Option D} (h : VE G ow te q ε) (h1 : VE G ow t1 q1 κ1) (h2 : VE G ow t2 q2 κ2) : VM G ow ow owB owC i (YW te (Zhc (tOp (Vr G.1.K) (Ym i) t1) t2 rSetL)) (Va i κ1 κ2 ε) := fun H0 av A σ H δ R o e De k => by
 obtain ⟨d, xs, n, m, j, r, l, e1, e2, e3, e4, e5, e6, e7, rfl⟩ := ZbD e
 refine h.scal H0 av A σ H δ R.view d e1 _ fun v H1 s1 r1 => ?_
 have hs := ZbZ e1
 have ev : v = val d := (RepT.r r1).val hs
 subst ev
 have R1 := R.mono s1
 obtain ⟨a, bs, rows, hd, M, h0, E⟩ := R1.ex
 have ex : xs = rows.map D.lst := by
  have := YH e2
  rw [hd] at this
  cases this
  rfl
 subst ex
 obtain ⟨r0, hr, er⟩ := ZbY e6
 cases er
 obtain ⟨b, hb, hH⟩ := M.at hr
 refine ⟨.ref a, E.kept i _ YB, h1 H0 av A σ H1 δ R1.view _ e3 _ fun y H2 s2 r2 => ?_⟩
 have ey : y = .int n := r2.any
 subst ey
 refine .inl ⟨a, bs.map V.ref, n, .ref b, rfl, rfl, SqL.of (s2 _ _ M.top), Zel (j := j) (by rw [List.length_map] at e5 ⊢; rw [M.len]; exact e5) (by rw [List.getElem?_map, hb]; rfl), ?_⟩
 have R2 := R1.mono s2
 refine h2 H0 av A σ H2 δ R2.view _ e4 _ fun z H3 s3 r3 => ?_
 have ez : z = .int m := r3.any
 subst ez
 have s23 := s2.trans s3
 have M3 := M.mono s23
 refine ⟨b, r.map val, m, l, rfl, rfl, s23 _ _ hH, by rw [List.length_map]; exact e7, k A σ _ ?_⟩
 rw [ZaW]
 rw [<- List.map_set]
 have hrs : (r.set l d).all Zh = true := Zem (M.sc r (List.mem_of_getElem? hr)) hs
 refine MR.turn R.ni R.nn R.avd hd M3 h0 (by rw [Jc M s23]; exact E.mono s23) (M3.put hb hr hrs) fun x hx => Zj fun z => hx (z ▸ List.mem_cons_of_mem _ (List.mem_of_getElem? hb))
def Y7 (i k : Nat) (δ : Env) : Option Out := match Za i δ, Za k δ with
 | some (.lst xs), some (.lst r) => if xs.length < sizeLine /\ r.all Zh = true then some (.nx ((δ.set k none).set i (some (.lst (xs ++ [.lst r]))))) else none
 | _, _ => none
theorem Zb0 (k' : Nat) (hk : k' ≠ i) (hi : ow.contains k' = true) (hn : G.2 k' = none) (h1 : sub owN ow = true) (h2 : owN.contains k' = false) (h3 : sub ow (k' :: owN) = true) : VM G ow owN owB owC i (UJ (tBM G.1.K "list" rAppend (Ym i) (Xj (Ym k') tNil))) (Y7 i k') := fun H0 av A σ H δ R o e De k => by
 obtain ⟨a, bs, rows, hd, M, h0, E⟩ := R.ex
 unfold Y7 at e
 split at e
 · rename_i xs r e1 e2
   by_cases hz : xs.length < sizeLine /\ r.all Zh = true
   · rw [if_pos hz] at e
     cases e
     have ex : xs = rows.map D.lst := by
      have := YH e1
      rw [hd] at this
      cases this
      rfl
     subst ex
     have hw := XE h1 h2 h3
     have hi' : k' ∈ ow := by simpa using hi
     have hil : i < δ.length := (List.getElem?_eq_some_iff.mp hd).1
     have nF : ∀ j x, A j = some x -> x ∉ a :: bs := fun j x e z => by
      have := E.fr j x e
      rw [ZQ z] at this
      obtain ⟨vs, q⟩ := M.there z
      rw [q] at this; cases this
     cases hA : A k' with
     | none => exact absurd hA (E.dom' k' hi')
     | some b =>
      have e2' : (δ.set i none)[k']? = some (some (.lst r)) := by rw [List.getElem?_set_ne (Ne.symm hk)]; exact YH e2
      obtain ⟨v, g1, _, g3⟩ := E.var k' _ e2'
      obtain ⟨rfl, vs, q1, q2⟩ := g3 b hA
      have ev : vs = r.map val := q2.vals hz.2
      subst ev
      have hbF : b ∉ a :: bs := nF k' b hA
      have hba : b ≠ a := fun z => hbF (z ▸ List.mem_cons_self)
      have hbb : b ∉ bs := fun z => hbF (List.mem_cons_of_mem _ z)
      refine ⟨.ref a, E.kept i _ YB, .inl ⟨rfl, _, SqL.of M.top⟩, .ref b, g1, a, bs.map V.ref, .ref b, rfl, rfl, M.top, ?_, k (fun j => if j = k' then none else A j) σ _ ?_⟩
      · have := hz.1
        rw [List.length_map] at this ⊢
        rw [M.len]
        exact this
      · have hM' : Mx (upd H a (.lst (bs.map V.ref ++ [V.ref b]))) a (bs ++ [b]) (rows ++ [r]) := by
         refine ⟨by rw [ZB, List.map_append]; rfl, by rw [List.length_append, List.length_append, M.len]; rfl, ?_, ?_, fun n b' r' g1 g2 => ?_, fun r' hr' => ?_⟩
         · rw [List.nodup_append]
           refine ⟨M.nd, by simp, fun x hx y hy => ?_⟩
           rw [List.mem_singleton.mp hy]
           exact fun z => hbb (z ▸ hx)
         · intro z
           rcases List.mem_append.mp z with z | z
           · exact M.na z
           · exact hba (List.mem_singleton.mp z).symm
         · by_cases hn' : n < bs.length
           · rw [List.getElem?_append_left hn'] at g1
             rw [List.getElem?_append_left (by rw [<- M.len]; exact hn')] at g2
             have : b' ≠ a := fun z => M.na (z ▸ List.mem_of_getElem? g1)
             rw [Zj this]
             exact M.row n b' r' g1 g2
           · rw [List.getElem?_append_right (by omega)] at g1
             rw [List.getElem?_append_right (by rw [<- M.len]; omega), <- M.len] at g2
             have hnn : n - bs.length = 0 := by
              by_cases z : n - bs.length = 0
              · exact z
              · rw [List.getElem?_eq_none (by simp; omega)] at g1; cases g1
             rw [hnn] at g1 g2
             cases g1
             cases g2
             rw [Zj hba]
             exact q1
         · rcases List.mem_append.mp hr' with z | z
           · exact M.sc r' z
           · rw [List.mem_singleton.mp z]; exact hz.2
        have h0b : H0 b = none := by
         have := E.fr k' b hA
         rw [ZH hbF] at this
         exact this
        have hF' : ∀ x, x ∈ a :: (bs ++ [b]) ↔ x ∈ a :: bs \/ x = b := fun x => by simp [or_assoc]
        have em : D.lst (rows.map D.lst ++ [.lst r]) = mat (rows ++ [r]) := by unfold mat; rw [List.map_append]; rfl
        rw [em]
        have hdl : i < (δ.set k' none).length := by rw [List.length_set]; exact hil
        refine ⟨fun z => R.ni ((hw i).mp z).1, R.nn, R.avd, a, bs ++ [b], rows ++ [r], List.getElem?_set_self hdl, hM', fun x hx => ?_, ?_⟩
        · rcases (hF' x).mp hx with z | rfl
          · exact h0 x z
          · exact h0b
        · rw [List.set_set, List.set_comm _ _ hk]
          have less : ∀ x, AV (avF av (a :: (bs ++ [b]))) (fun j => if j = k' then none else A j) x -> AV (avF av (a :: bs)) A x := fun x z => by
           rcases z with (z | z) | ⟨j, z⟩
           · exact .inl (.inl z)
           · rcases (hF' x).mp z with z | rfl
             · exact .inl (.inr z)
             · exact .inr ⟨k', hA⟩
           · by_cases q : j = k'
             · simp [q] at z
             · simp [q] at z; exact .inr ⟨j, z⟩
          have hkp : ∀ x o, ¬ AV (avF av (a :: bs)) A x -> H x = some o -> upd H a (.lst (bs.map V.ref ++ [V.ref b])) x = some o := fun x o n e => by
           rw [Zj fun (z : x = a) => n (.inl (.inr (by rw [z]; exact List.mem_cons_self)))]; exact e
          have oj : ∀ j x, j ≠ k' -> A j = some x -> x ≠ b := fun j x hj e z => hj (E.inj j k' b (z ▸ e) hA)
          refine ⟨fun x o e => ?_, fun x z => ?_, fun j x e => ?_, fun j l x e1 e2 => ?_, fun j x e => ?_, fun j e => ?_, fun j hj => ?_, by rw [List.length_set]; exact E.len, fun j x e => ?_, E.kept, fun j d e => ?_⟩
          · by_cases hx : x ∈ a :: (bs ++ [b])
            · rw [ZQ hx] at e; exact e
            · rw [ZH hx] at e
              have hx2 : x ∉ a :: bs := fun z => hx ((hF' x).mpr (.inl z))
              rw [Zj fun (z : x = a) => hx2 (by rw [z]; exact List.mem_cons_self)]
              exact E.same x o (by rw [ZH hx2]; exact e)
          · by_cases hx : x ∈ a :: (bs ++ [b])
            · rw [ZQ hx]
              obtain ⟨vs, q⟩ := hM'.there hx
              rw [q]; exact fun z => by cases z
            · rw [ZH hx]
              exact R.avd x (z.resolve_right hx)
          · by_cases q : j = k'
            · simp [q] at e
            · simp [q] at e
              have nx : x ∉ a :: (bs ++ [b]) := fun z => ((hF' x).mp z).elim (nF j x e) (oj j x q e)
              rw [ZH nx]
              have := E.fr j x e
              rw [ZH (nF j x e)] at this
              exact this
          · by_cases q : j = k'
            · simp [q] at e1
            · by_cases q2 : l = k'
              · simp [q2] at e2
              · simp [q] at e1; simp [q2] at e2; exact E.inj j l x e1 e2
          · by_cases q : j = k'
            · simp [q] at e
            · simp [q] at e
              rw [Zj fun (z : x = a) => nF j x e (by rw [z]; exact List.mem_cons_self)]
              exact E.live j x e
          · by_cases q : j = k'
            · simp [q] at e
            · simp [q] at e; exact (hw j).mpr ⟨E.dom j e, q⟩
          · obtain ⟨g1, g2⟩ := (hw j).mp hj
            simp [g2]
            exact E.dom' j g1
          · have q : j ≠ k' := fun z => by
             rw [z] at e
             rw [Yu hk, hn] at e
             cases e
            simp only [q, if_false]
            exact E.pin j x e
          · have q : j ≠ k' := fun z => by
             rw [z] at e
             by_cases hl : k' < (δ.set i none).length
             · rw [List.getElem?_set_self hl] at e; cases e
             · rw [List.getElem?_eq_none (by rw [List.length_set]; omega)] at e; cases e
            obtain ⟨v, p1, p2, p3⟩ := E.var j d (by rw [List.getElem?_set_ne (Ne.symm q)] at e; exact e)
            refine ⟨v, p1, fun z => ?_, fun x z => ?_⟩
            · simp [q] at z
              exact ((p2 z).ext hkp).av fun y z => .inl (less y z)
            · simp [q] at z
              obtain ⟨r1, r2⟩ := p3 x z
              have xa : x ≠ a := fun w => nF j x z (w ▸ List.mem_cons_self)
              refine ⟨r1, ?_⟩
              cases d with
              | lst xs => obtain ⟨vs, q1, q2⟩ := r2; exact ⟨vs, by rw [Zj xa]; exact q1, (q2.ext hkp).av fun y z => .inl (less y z)⟩
              | obj c ks xs => obtain ⟨dx, vs, q1, q0, q2⟩ := r2; exact ⟨dx, vs, by rw [Zj xa]; exact q1, q0, (q2.ext hkp).av fun y z => .inl (less y z)⟩
              | dct ks xs => obtain ⟨vs, q1, q0, q2⟩ := r2; exact ⟨vs, by rw [Zj xa]; exact q1, q0, (q2.ext hkp).av fun y z => .inl (less y z)⟩
              | dtt ks xs => obtain ⟨vs, q1, q0, q2⟩ := r2; exact ⟨vs, by rw [Zj xa]; exact q1, q0, (q2.ext hkp).av fun y z => .inl (less y z)⟩
              | _ => exact r2
   · rw [if_neg hz] at e; cases e
 · cases e
end
end DL
namespace DL
open PySem PySem.Spec L2
def VFM (G : Cn) (ow : List Nat) (te : TE) (ε : Env -> Option D) : Prop :=
 ∀ H0 av A σ H δ, ER G ow H0 av A σ H δ -> ∀ d, ε δ = some d -> ∀ Q : VK, (∀ a bs rows H', Same H H' -> (∀ x ∈ a :: bs, H x = none) -> Mx H' a bs rows -> d = mat rows -> Q (.ref a) H') -> te σ H Q
def YK (i : Nat) (ε : Env -> Option D) (δ : Env) : Option Out := match ε δ with
 | some d => if i < δ.length then some (.nx (δ.set i (some d))) else none
 | none => none
section
variable {cA : Kn} {G : Cn} {ow owN owB owC ow1 : List Nat} {i : Nat}
theorem Zbc {H0 H H' : Hp} {av : Addr -> Prop} {A : Nat -> Option Addr} {σ : L2.St} {δ : Env} {a : Addr} {bs : List Addr} {rows : List (List D)} (E : ER G ow H0 av A σ H δ) (hi : i ∉ ow) (hn : G.2 i = none) (hil : i < δ.length) (s : Same H H') (hf : ∀ x ∈ a :: bs, H x = none) (M : Mx H' a bs rows) :
 MR G ow i H0 av A (σ.set i (some (.ref a))) H' (δ.set i (some (mat rows))) := by
 have h0 : ∀ x ∈ a :: bs, H0 x = none := fun x hx => E.same.free (hf x hx)
 have nF : ∀ j x, A j = some x -> x ∉ a :: bs := fun j x e z => E.live j x e (hf x z)
 have E' := E.mono s
 refine ⟨hi, .none hn, E.avd, a, bs, rows, List.getElem?_set_self hil, M, h0, ?_⟩
 rw [List.set_set]
 refine ⟨fun b o e => ?_, fun x z => ?_, fun j x e => ?_, E.inj, E'.live, E.dom, E.dom', by rw [List.length_set, List.length_set]; exact E.len, fun j x e => ?_, fun j v e => ?_, fun j d e => ?_⟩
 · by_cases hx : b ∈ a :: bs
   · rw [ZQ hx] at e; exact e
   · rw [ZH hx] at e; exact E'.same b o e
 · by_cases hx : x ∈ a :: bs
   · rw [ZQ hx]
     obtain ⟨vs, q⟩ := M.there hx
     rw [q]; exact fun z => by cases z
   · rw [ZH hx]
     exact E.avd x (z.resolve_right hx)
 · rw [ZH (nF j x e)]
   exact E.fr j x e
 · have q : j ≠ i := fun z => by rw [z, YB] at e; cases e
   exact E.pin j x (by rw [Yu q] at e; exact e)
 · by_cases q : j = i
   · subst q
     rw [YB] at e
     cases e
     exact List.getElem?_set_self (by rw [E.len]; exact hil)
   · rw [Yu q] at e
     rw [List.getElem?_set_ne (Ne.symm q)]
     exact E.kept j v e
 · have q : j ≠ i := fun z => by
    rw [z, List.getElem?_set_self hil] at e
    cases e
   rw [List.getElem?_set_ne (Ne.symm q)] at e
   obtain ⟨v, h1, h2, h3⟩ := E.var j d e
   have more : ∀ b, AV (avF av (a :: bs)) A b -> AV av A b \/ H b = none := fun b z => by
    rcases z with (z | z) | z
    · exact .inl (.inl z)
    · exact .inr (hf b z)
    · exact .inl (.inr z)
   refine ⟨v, by rw [List.getElem?_set_ne (Ne.symm q)]; exact h1, fun z => ((h2 z).av more).same s, fun b z => ?_⟩
   obtain ⟨r1, r2⟩ := h3 b z
   refine ⟨r1, ?_⟩
   cases d with
   | lst xs => obtain ⟨vs, q1, q2⟩ := r2; exact ⟨vs, s _ _ q1, (q2.av more).same s⟩
   | obj c ks xs => obtain ⟨dx, vs, q1, q0, q2⟩ := r2; exact ⟨dx, vs, s _ _ q1, q0, (q2.av more).same s⟩
   | dct ks xs => obtain ⟨vs, q1, q0, q2⟩ := r2; exact ⟨vs, s _ _ q1, q0, (q2.av more).same s⟩
   | dtt ks xs => obtain ⟨vs, q1, q0, q2⟩ := r2; exact ⟨vs, s _ _ q1, q0, (q2.av more).same s⟩
   | _ => exact r2
theorem WantsM.of {H0 : Hp} {av : Addr -> Prop} {De : Ends} {o : Out} (k : Ze8 G owN owB owC H0 av De o) : WantsM G owN owB owC i H0 av De o := by
 cases o with
 | nx δ' => exact fun A' σ' H' R => k A' σ' H' R.view
 | rt d => exact k
 | bk δ' => exact fun A' σ' H' R => k A' σ' H' R.view
 | ct δ' => exact fun A' σ' H' R => k A' σ' H' R.view
theorem Zf0 {te : TE} {u : TS} {ε : Env -> Option D} {ψ : Env -> Option Out} (i : Nat) (hi : ow.contains i = false) (hn : G.2 i = none) (h1 : VFM G ow te ε) (h2 : VM G ow owN owB owC i u ψ) : VS G ow owN owB owC (Xg (YW te (Yn i)) u) (Zd (YK i ε) ψ) := fun H0 av A σ H δ E o e De k => by
 unfold Zd YK at e
 cases he : ε δ with
 | none => rw [he] at e; cases e
 | some d =>
  rw [he] at e
  dsimp only at e
  by_cases hil : i < δ.length
  · rw [if_pos hil] at e
    dsimp only at e
    refine h1 H0 av A σ H δ E d he _ fun a bs rows H' s hf M hd => ?_
    subst hd
    exact h2 H0 av A _ H' _ (Zbc E (by simpa using hi) hn hil s hf M) o e De (WantsM.of k)
  · rw [if_neg hil] at e; cases e
def FW (H0 : Hp) (De : Ends) (d : D) : Prop := ∀ a bs rows H', Same H0 H' -> (∀ x ∈ a :: bs, H0 x = none) -> Mx H' a bs rows -> d = mat rows -> De.rt (.ref a) H'
def VSF (G : Cn) (ow : List Nat) (ts : TS) (φ : Env -> Option Out) : Prop := ∀ H0 av A σ H δ, ER G ow H0 av A σ H δ -> ∀ d, φ δ = some (.rt d) -> ∀ De : Ends, FW H0 De d -> ts De σ H
def VMF (G : Cn) (ow : List Nat) (i : Nat) (ts : TS) (φ : Env -> Option Out) : Prop := ∀ H0 av A σ H δ, MR G ow i H0 av A σ H δ -> ∀ d, φ δ = some (.rt d) -> ∀ De : Ends, FW H0 De d -> ts De σ H
def ZK (φ ψ : Env -> Option Out) (δ : Env) : Option Out := match φ δ with
 | some (.nx δ') => ψ δ'
 | _ => none
theorem Zb1 : VMF G ow i (UK (Ym i)) (Zs (Za i)) := fun H0 av A σ H δ R d e De k => by
 obtain ⟨a, bs, rows, hd, M, h0, E⟩ := R.ex
 have e2 : Za i δ = some (mat rows) := by unfold Za; rw [hd]
 unfold Zs at e
 rw [e2] at e
 cases e
 exact ⟨.ref a, E.kept i _ YB, k a bs rows H R.view.same h0 M rfl⟩
theorem Jd {t u : TS} {φ ψ : Env -> Option Out} (h1 : VM G ow ow1 [] [] i t φ) (h2 : VMF G ow1 i u ψ) : VMF G ow i (Xg t u) (ZK φ ψ) := fun H0 av A σ H δ R d e De k => by
 unfold ZK at e
 split at e
 · rename_i δ' hp
   exact h1 H0 av A σ H δ R _ hp _ fun A' σ' H' R' => h2 H0 av A' σ' H' δ' R' d e De k
 · cases e
theorem Zb2 {te : TE} {u : TS} {ε : Env -> Option D} {ψ : Env -> Option Out} (i : Nat) (hi : ow.contains i = false) (hn : G.2 i = none) (h1 : VFM G ow te ε) (h2 : VMF G ow i u ψ) : VSF G ow (Xg (YW te (Yn i)) u) (ZK (YK i ε) ψ) := fun H0 av A σ H δ E d e De k => by
 unfold ZK YK at e
 cases he : ε δ with
 | none => rw [he] at e; cases e
 | some d' =>
  rw [he] at e
  dsimp only at e
  by_cases hil : i < δ.length
  · rw [if_pos hil] at e
    dsimp only at e
    refine h1 H0 av A σ H δ E d' he _ fun a bs rows H' s hf M hd => ?_
    subst hd
    exact h2 H0 av A _ H' _ (Zbc E (by simpa using hi) hn hil s hf M) d e De k
  · rw [if_neg hil] at e; cases e
theorem Zb3 {t u : TS} {φ ψ : Env -> Option Out} (h1 : VS G ow ow1 [] [] t φ) (h2 : VSF G ow1 u ψ) : VSF G ow (Xg t u) (ZK φ ψ) := fun H0 av A σ H δ E d e De k => by
 unfold ZK at e
 split at e
 · rename_i δ' hp
   exact h1 H0 av A σ H δ E _ hp _ fun A' σ' H' E' => h2 H0 av A' σ' H' δ' E' d e De k
 · cases e
def Xo (N : Nat) (φ : Env -> Option Out) (ds : List D) : Option D := match φ (ds.map some ++ List.replicate (N - ds.length) none) with
 | some (.rt d) => some d
 | _ => none
def spM (cA : Kn) (n : Nat) (m : List D -> Option D) : Sp := fun vs H Q _ => ∃ av ds d, (∀ a, av a -> H a ≠ none) /\ RepL cA av H ds vs /\ ds.length = n /\ m ds = some d /\ ∀ a bs rows H', Same H H' -> (∀ x ∈ a :: bs, H x = none) -> Mx H' a bs rows -> d = mat rows -> Q (.ref a) H'
theorem Zb4 : VFM G ow (QC tNil) (ZL eNil) := fun H0 av A σ H δ E d e Q k => by
 refine ⟨Nat.zero_le _, fun p hp => ?_⟩
 have ed : d = mat [] := by
  have : (some (D.lst []) : Option D) = some d := e
  exact (Option.some.inj this).symm
 refine k p [] [] _ (Yb hp) (fun x hx => ?_) ⟨ZB, rfl, List.nodup_nil, (fun z => by cases z), (fun k b r h1 h2 => by simp at h1), (fun r h => by cases h)⟩ ed
 rw [List.mem_singleton.mp hx]
 exact hp
theorem Zbd {n : Nat} {m : List D -> Option D} {t : TA} {q : Ql} {α : Env -> Option (List D)} {E0 : XK} (dds : List D) (hd : dds.all Zh = true) (h : VA G ow t q α) : VFM G ow (UM (spM G.1 n m) (dds.map val) E0 t) (Zq n m dds α) := fun H0 av A σ H δ E d e Q k => by
 unfold Zq at e
 cases he : α δ with
 | none => rw [he] at e; cases e
 | some ds =>
  rw [he] at e
  dsimp only at e
  by_cases hz : (ds ++ dds).length = n
  · rw [if_pos hz] at e
    refine h H0 av A σ H δ E ds he _ fun vs H1 s1 r1 => ?_
    exact ⟨av, ds ++ dds, d, (E.mono s1).avH, r1.any.append (.of_vals hd), hz, e, fun a bs rows H' s hf M hd => k a bs rows H' (s1.trans s) (fun x hx => s1.free (hf x hx)) M hd⟩
  · rw [if_neg hz] at e; cases e
theorem VFM.cl {te : TE} {ε : Env -> Option D} (h : VFM G ow te ε) : VE G ow te .cl ε := fun H0 av A σ H δ E d e Q k =>
 h H0 av A σ H δ E d e Q fun a bs rows H' s hf M hd => by
  subst hd
  exact k _ H' s (M.rep fun x hx z => E.avl x z (hf x hx)).t
end
section
variable {P : Program} {w : World} {K : PySem.W.Frag} {mg : Str -> Option Value} {base : Heap} {cA : Kn}
theorem Zfj {x qual : Str} {st : Stmt} {f : Addr} {fd : FuncData} {N ps : List Str} {k : Nat} {φ : Env -> Option Out} {body : List Stmt} {scope : Scope} {n : Nat} {m : List D -> Option D} (F : FunX K x qual st f fd) (S : FnScope N ps (Zo st)) (hS : Zo st = scope) (hB : ZJ st = body)
 (hbody : ∀ (cdv : Value) (A : Around) (outer : List PySem.Env) (s : Shared) (H : Hp) (E : XK), Room k (A.deeper (PyProof.Rows.envOfC qual scope s.heap.objs.size f cdv)) ->
   ∃ t, PSs (YR CX0 P w K mg base N qual scope f cdv A outer s H E).nox body t /\ VSF ⟨cA, fun _ => none⟩ [] t φ) (hm : m = Xo N.length φ) (hn : ps.length = n) : FnOk P w K mg base CX0 (k + 1) f fd ps (spM cA n m) := by
 subst hS hB hm hn
 refine F.ok S (fun vs H Q E h => ?_) fun cdv A outer s H vs Q E hr h => ?_
 · obtain ⟨av, ds, d, _, r, hl, _⟩ := h
   rw [<- r.length, hl]
 · obtain ⟨av, ds, d, ha, r, hl, hm, q⟩ := h
   obtain ⟨t, ht, hv⟩ := hbody cdv A outer s H E hr
   refine ⟨t, ht, ?_⟩
   unfold Xo at hm
   split at hm
   · rename_i d' hφ
     cases hm
     exact hv H av _ _ H _ (Q2 ha r) _ hφ _ fun a bs rows H' s' hf M hd => q a bs rows H' s' hf M hd
   · cases hm
end
end DL
namespace DL
open PySem PySem.Spec L2
section
variable {cA : Kn} {G : Cn} {ow : List Nat}
structure RowsAt (H0 H : Hp) (bs : List Addr) (rows : List (List D)) : Prop where
 len : bs.length = rows.length
 nd : bs.Nodup
 row : ∀ (k : Nat) (b : Addr) (r : List D), bs[k]? = some b -> rows[k]? = some r -> H b = some (.lst (r.map val))
 fr : ∀ b ∈ bs, H0 b = none
 sc : ∀ r ∈ rows, r.all Zh = true
theorem RowsAt.same {H0 H H' : Hp} {bs : List Addr} {rows : List (List D)} (R : RowsAt H0 H bs rows) (s : Same H H') : RowsAt H0 H' bs rows := ⟨R.len, R.nd, fun k b r h1 h2 => s _ _ (R.row k b r h1 h2), R.fr, R.sc⟩
end
end DL
namespace DL
open PySem PySem.Spec L2
def FL (cA : Kn) (H0 : Hp) (av : Addr -> Prop) (De : Ends) (d : D) : Prop := ∀ p vs xs H', Same H0 H' -> H0 p = none -> H' p = some (.lst vs) -> RepL cA (fun x => av x \/ x = p) H' xs vs -> d = .lst xs -> De.rt (.ref p) H'
def VSL (G : Cn) (ow : List Nat) (ts : TS) (φ : Env -> Option Out) : Prop := ∀ H0 av A σ H δ, ER G ow H0 av A σ H δ -> ∀ d, φ δ = some (.rt d) -> ∀ De : Ends, FL G.1 H0 av De d -> ts De σ H
section
variable {cA : Kn} {G : Cn} {ow owN owB owC ow1 : List Nat} {i : Nat}
theorem Zeo {t u : TS} {φ ψ : Env -> Option Out} (h1 : VS G ow ow1 [] [] t φ) (h2 : VSL G ow1 u ψ) : VSL G ow (Xg t u) (ZK φ ψ) := fun H0 av A σ H δ E d e De k => by
 unfold ZK at e
 split at e
 · rename_i δ' hp
   exact h1 H0 av A σ H δ E _ hp _ fun A' σ' H' E' => h2 H0 av A' σ' H' δ' E' d e De k
 · cases e
theorem Zc5 {te : TE} {ε : Env -> Option D} (h : VF G ow te ε) : VSL G ow (UK te) (Zs ε) := fun H0 av A σ H δ E d e De k => by
 unfold Zs at e
 cases he : ε δ with
 | none => rw [he] at e; cases e
 | some d' =>
  rw [he] at e
  cases e
  refine h H0 av A σ H δ E _ he _ fun p vs xs H1 s hp l hd => ?_
  refine k p vs xs _ ((E.same.trans s).trans (Yb hp)) (E.same.free (s.free hp)) ZB (((l.av fun b z => ?_)).same (Yb hp)) hd
  rcases z with z | z
  · exact .inl (.inl z)
  · rw [z]; exact .inr hp
def spL (cA : Kn) (n : Nat) (m : List D -> Option D) : Sp := fun vs H Q _ => ∃ av ds d, (∀ a, av a -> H a ≠ none) /\ RepL cA av H ds vs /\ ds.length = n /\ m ds = some d /\ ∀ p vs xs H', Same H H' -> H p = none -> H' p = some (.lst vs) -> RepL cA (fun x => av x \/ x = p) H' xs vs -> d = .lst xs -> Q (.ref p) H'
open Classical in
theorem Zc6 {n : Nat} {m : List D -> Option D} {t : TA} {α : Env -> Option (List D)} {E0 : XK} (dds : List D) (hd : dds.all Zh = true) (h : VA G ow t .cl α) : VF G ow (UM (spL G.1 n m) (dds.map val) E0 t) (Zq n m dds α) := fun H0 av A σ H δ E d e Q k => by
 unfold Zq at e
 cases he : α δ with
 | none => rw [he] at e; cases e
 | some ds =>
  rw [he] at e
  dsimp only at e
  by_cases hz : (ds ++ dds).length = n
  · rw [if_pos hz] at e
    refine h H0 av A σ H δ E ds he _ fun vs H1 s1 r1 => ?_
    have E1 := E.mono s1
    refine ⟨AV av A, ds ++ dds, d, E1.avl, r1.cl.append (.of_vals hd), hz, e, fun p ws xs H' s hp hH' l hd => ?_⟩
    have eu : upd (fun x => if x = p then none else H' x) p (.lst ws) = H' := by
     funext x
     by_cases hx : x = p
     · subst hx; rw [ZB, hH']
     · rw [Zj hx, if_neg hx]
    have := k p ws xs (fun x => if x = p then none else H' x) (fun b o q => ?_) (if_pos rfl) ((l.ext fun b o n q => ?_).av fun b z => .inl (.inl z)) hd
    · rw [eu] at this
      exact this
    · have hb : b ≠ p := fun z => by rw [z] at q; rw [s1.free hp] at q; cases q
      show (if b = p then none else H' b) = some o
      rw [if_neg hb]
      exact s b o (s1 b o q)
    · have hb : b ≠ p := fun z => n (.inr z)
      show (if b = p then none else H' b) = some o
      rw [if_neg hb]
      exact q
  · rw [if_neg hz] at e; cases e
end
section
variable {P : Program} {w : World} {K : PySem.W.Frag} {mg : Str -> Option Value} {base : Heap} {cA : Kn}
theorem Zgw {x qual : Str} {st : Stmt} {f : Addr} {fd : FuncData} {N ps : List Str} {k : Nat} {φ : Env -> Option Out} {body : List Stmt} {scope : Scope} {n : Nat} {m : List D -> Option D} (F : FunX K x qual st f fd) (S : FnScope N ps (Zo st)) (hS : Zo st = scope) (hB : ZJ st = body)
 (hbody : ∀ (cdv : Value) (A : Around) (outer : List PySem.Env) (s : Shared) (H : Hp) (E : XK), Room k (A.deeper (PyProof.Rows.envOfC qual scope s.heap.objs.size f cdv)) ->
   ∃ t, PSs (YR CX0 P w K mg base N qual scope f cdv A outer s H E).nox body t /\ VSL ⟨cA, fun _ => none⟩ [] t φ) (hm : m = Xo N.length φ) (hn : ps.length = n) : FnOk P w K mg base CX0 (k + 1) f fd ps (spL cA n m) := by
 subst hS hB hm hn
 refine F.ok S (fun vs H Q E h => ?_) fun cdv A outer s H vs Q E hr h => ?_
 · obtain ⟨av, ds, d, _, r, hl, _⟩ := h
   rw [<- r.length, hl]
 · obtain ⟨av, ds, d, ha, r, hl, hm, q⟩ := h
   obtain ⟨t, ht, hv⟩ := hbody cdv A outer s H E hr
   refine ⟨t, ht, ?_⟩
   unfold Xo at hm
   split at hm
   · rename_i d' hφ
     cases hm
     exact hv H av _ _ H _ (Q2 ha r) _ hφ _ fun p vs xs H' s' h0 hp l hd => q p vs xs H' s' h0 hp l hd
   · cases hm
end
end DL
namespace L2
open PySem PySem.Spec PySem.W PyProof.Rows
theorem Zgx {X : Cx} {K : PySem.W.Frag} {o : Expr} {to : TE} {name : Str} {apos cpos : Pos} {T id : String} {r : V -> List V -> Hp -> VK -> Prop} (pa : PlainAttrs T) (slot : Slot T name id) (hty : typeOf (.builtin id) = pure (.type "method_descriptor")) (hm : MtR X id r) (ho : PE X o to)
 (hbase : attributeBase o name X.env (eval o X.env) = eval o X.env := by rfl) (hline : (apos.endLine == cpos.line) = true := by rfl) (hK : X.K = K := by rfl) : PE X (.Call (.Attribute o name apos) [] [] cpos) (QH K T r to) := hK ▸ ZfL pa slot hty hm ho hbase hline
end L2
namespace DL
open PySem PySem.Spec L2
section
variable {cA : Kn} {G : Cn} {ow owN owB owC ow1 : List Nat} {i : Nat}
theorem MR.own {H0 H : Hp} {av : Addr -> Prop} {A : Nat -> Option Addr} {σ : L2.St} {δ : Env} {k : Nat} {xs : List D} {p : Addr} (R : MR G ow i H0 av A σ H δ) (hs : xs.all Zh = true) (hp : H p = none) (hk : k ≠ i) (hw : ∀ j, j ∈ ow1 ↔ j ∈ ow \/ j = k) (hn : G.2 k = none) : MR G ow1 i H0 av (fun j => if j = k then some p else A j) (σ.set k (some (.ref p))) (upd H p (.lst (xs.map val))) (δ.set k (some (.lst xs))) := by
 obtain ⟨a, bs, rows, hd, M, h0, E⟩ := R.ex
 refine ⟨fun z => ((hw i).mp z).elim R.ni fun z => hk z.symm, R.nn.set hk, R.avd, a, bs, rows, by rw [List.getElem?_set_ne hk]; exact hd, M.mono (Yb hp), h0, ?_⟩
 rw [List.set_comm _ _ hk, Jc M (Yb hp)]
 exact E.own hp (.of_vals hs) hw (by rw [Yu hk]; exact hn)
def Vb (ε : Env -> Option D) (δ : Env) : Option D := match ε δ with
 | some (.lst xs) => if xs.all Zh = true then some (.lst xs) else none
 | _ => none
end
end DL
namespace DL
open PySem PySem.Spec L2
def YL : D -> Option Key
 | .int i => some (.inl i)
 | .str cs => some (.inr (tx cs))
 | _ => none
theorem Ul {d : D} {k : Key} (h : YL d = some k) : val d = kV k /\ Zh d = true := by
 cases d <;> first | (cases h; done) | (cases h; exact ⟨rfl, rfl⟩)
def Vc {α : Type} (k : Key) : List Key -> List α -> Option α
 | k0 :: ks, x :: xs => if k0 = k then some x else Vc k ks xs
 | _, _ => none
def YM {α : Type} (k : Key) (d : α) : List Key -> List α -> List α
 | k0 :: ks, x :: xs => (if k0 = k then d else x) :: YM k d ks xs
 | _, xs => xs
def Yv (k : Key) : List Key -> Bool
 | [] => false
 | k0 :: ks => decide (k0 = k) || Yv k ks
def XJ (ks : List Key) (xs : List D) (k : Key) (d : D) : D := if Yv k ks = true then .dct ks (YM k d ks xs) else .dct (ks ++ [k]) (xs ++ [d])
theorem Zbe {α : Type} (k : Key) (d : α) : ∀ (ks : List Key) (xs : List α), (YM k d ks xs).length = xs.length
 | [], _ => rfl
 | _ :: _, [] => rfl
 | k0 :: ks, x :: xs => by rw [YM, List.length_cons, List.length_cons, Zbe k d ks xs]
theorem Je (k : Key) : ∀ (ks : List Key) (vs : List V), ks.length = vs.length -> ((ks.zip vs).any fun kv => decide (kv.1 = k)) = Yv k ks
 | [], _, _ => rfl
 | k0 :: ks, [], h => by simp at h
 | k0 :: ks, v :: vs, h => by
  rw [List.zip_cons_cons, List.any_cons, Je k ks vs (by simpa using h)]
  rfl
theorem Zbf (k : Key) {ks : List Key} {vs : List V} (h : ks.length = vs.length) : (Yt (ks.zip vs) k).isSome = Yv k ks := by rw [<- QS, Je k ks vs h]
theorem Zb5 (k : Key) (v : V) : ∀ (ks : List Key) (vs : List V), ks.length = vs.length -> (ks.zip vs).map (fun kv => if kv.1 = k then (kv.1, v) else kv) = ks.zip (YM k v ks vs)
 | [], _, _ => by simp
 | k0 :: ks, [], h => by simp at h
 | k0 :: ks, x :: vs, h => by
  rw [List.zip_cons_cons, List.map_cons, YM, List.zip_cons_cons, Zb5 k v ks vs (by simpa using h)]
  by_cases e : k0 = k
  · simp [e]
  · simp [e]
section
variable {cA : Kn} {av : Addr -> Prop} {H : Hp}
theorem Zbg (k : Key) : ∀ {ks : List Key} {xs : List D} {vs : List V} {x : D}, RepL cA av H xs vs -> Vc k ks xs = some x -> ∃ v, Yt (ks.zip vs) k = some v /\ Rep cA av H x v
 | [], xs, vs, x, _, h => by cases h
 | k0 :: ks, [], vs, x, _, h => by cases h
 | k0 :: ks, y :: xs, vs, x, l, h => by
  obtain ⟨v, r, rfl, h1, h2⟩ := l.uncons
  rw [List.zip_cons_cons]
  unfold Vc at h
  by_cases e : k0 = k
  · rw [if_pos e] at h
    cases h
    exact ⟨v, UR e, h1⟩
  · rw [if_neg e] at h
    obtain ⟨u, h3, h4⟩ := Zbg k h2 h
    exact ⟨u, (US e).trans h3, h4⟩
theorem Zbh (k : Key) {d : D} {v : V} (hd : Rep cA av H d v) : ∀ (ks : List Key) {xs : List D} {vs : List V}, RepL cA av H xs vs -> RepL cA av H (YM k d ks xs) (YM k v ks vs)
 | [], xs, vs, l => l
 | k0 :: ks, [], vs, l => by rw [l.nil_of]; exact .nil
 | k0 :: ks, y :: xs, vs, l => by
  obtain ⟨u, r, rfl, h1, h2⟩ := l.uncons
  rw [YM, YM]
  refine .cons ?_ (Zbh k hd ks h2)
  by_cases e : k0 = k
  · rw [if_pos e, if_pos e]; exact hd
  · rw [if_neg e, if_neg e]; exact h1
theorem Zep (k : Key) {d : D} {v : V} {ks : List Key} {xs : List D} {vs : List V} {a : Addr} {H' : Hp} (hks : ks.length = xs.length) (l : RepL cA av H' xs vs) (hd : Rep cA av H' d v) (e : H' a = some (.dK (Z6 (ks.zip vs) k v))) : Own cA av H' (XJ ks xs k d) a := by
 have hl : ks.length = vs.length := by rw [hks, l.length]
 unfold Z6 at e
 rw [Je k ks vs hl] at e
 unfold XJ
 by_cases h : Yv k ks = true
 · rw [if_pos h, Zb5 k v ks vs hl] at e
   rw [if_pos h]
   exact ⟨_, e, by rw [Zbe]; exact hks, Zbh k hd ks l⟩
 · rw [if_neg h] at e
   rw [if_neg h]
   refine ⟨vs ++ [v], ?_, by rw [List.length_append, List.length_append, hks]; rfl, l.append (.cons hd .nil)⟩
   rw [e, List.zip_append hl]
   rfl
end
section
variable {G : Cn} {ow owN owB owC ow1 : List Nat} {H0 H : Hp} {av : Addr -> Prop} {A : Nat -> Option Addr} {σ : L2.St} {δ : Env}
theorem Zeq {i : Nat} {ks : List Key} {xs : List D} {vs : List V} {p : Addr} (E : ER G ow H0 av A σ H δ) (hp : H p = none) (hks : ks.length = xs.length) (l : RepL G.1 (AV av A) H xs vs) (hw : ∀ j, j ∈ ow1 ↔ j ∈ ow \/ j = i) (hn : G.2 i = none) :
 ER G ow1 H0 av (fun j => if j = i then some p else A j) (σ.set i (some (.ref p))) (upd H p (.dK (ks.zip vs))) (δ.set i (some (.dct ks xs))) := by
 have hs : Same H (upd H p (.dK (ks.zip vs))) := Yb hp
 have less : ∀ b, AV av (fun j => if j = i then some p else A j) b -> AV av A b \/ H b = none := fun b z => by
  rcases z with z | ⟨j, z⟩
  · exact .inl (.inl z)
  · by_cases e : j = i
    · simp [e] at z; subst z; exact .inr hp
    · simp [e] at z; exact .inl (.inr ⟨j, z⟩)
 have np : ∀ j a, A j = some a -> a ≠ p := fun j a e z => by subst z; exact E.live j a e hp
 have h0 : H0 p = none := by
  cases q : H0 p with
  | none => rfl
  | some o => rw [E.same p o q] at hp; cases hp
 refine ⟨E.same.trans hs, E.avd, fun j a e => ?_, fun j k a e1 e2 => ?_, fun j a e => ?_, fun j e => ?_, fun j hj => ?_, by simp [E.len], fun j a e => (by
  have q : j ≠ i := fun z => by rw [z, hn] at e; cases e
  simp only [q, if_false]; exact E.pin j a e), (fun j v' e => by
  have q : j ≠ i := fun z => by rw [z, hn] at e; cases e
  rw [List.getElem?_set_ne (Ne.symm q)]; exact E.kept j v' e), fun j d' e => ?_⟩
 · by_cases q : j = i
   · simp [q] at e; subst e; exact h0
   · simp [q] at e; exact E.fr j a e
 · by_cases q : j = i
   · by_cases q2 : k = i
     · rw [q, q2]
     · simp [q] at e1; simp [q2] at e2
       exact absurd e1.symm (np k a e2)
   · by_cases q2 : k = i
     · simp [q] at e1; simp [q2] at e2
       exact absurd e2.symm (np j a e1)
     · simp [q] at e1; simp [q2] at e2; exact E.inj j k a e1 e2
 · by_cases q : j = i
   · simp [q] at e; subst e; rw [ZB]; exact fun z => by cases z
   · simp [q] at e
     rw [Zj (np j a e)]
     exact E.live j a e
 · by_cases q : j = i
   · exact (hw j).mpr (.inr q)
   · simp [q] at e; exact (hw j).mpr (.inl (E.dom j e))
 · by_cases q : j = i
   · simp [q]
   · simp [q]
     exact E.dom' j (((hw j).mp hj).resolve_right q)
 · rcases U3 e with ⟨rfl, rfl, hl⟩ | ⟨q, e'⟩
   · refine ⟨.ref p, ?_, fun z => by simp at z, fun a z => ?_⟩
     · rw [List.getElem?_set_self (by rw [E.len]; exact hl)]
     · simp at z
       subst z
       exact ⟨rfl, vs, ZB, hks, (l.av less).same hs⟩
   · obtain ⟨v', h1, h2, h3⟩ := E.var j d' e'
     refine ⟨v', by rw [List.getElem?_set_ne (Ne.symm q)]; exact h1, fun z => ?_, fun a z => ?_⟩
     · simp [q] at z
       exact ((h2 z).av less).same hs
     · simp [q] at z
       obtain ⟨r1, r2⟩ := h3 a z
       refine ⟨r1, ?_⟩
       cases d' with
       | lst xs => obtain ⟨vs', q1, q2⟩ := r2; exact ⟨vs', hs _ _ q1, (q2.av less).same hs⟩
       | obj c ks xs => obtain ⟨dx, vs', q1, q0, q2⟩ := r2; exact ⟨dx, vs', hs _ _ q1, q0, (q2.av less).same hs⟩
       | dct ks xs => obtain ⟨vs', q1, q0, q2⟩ := r2; exact ⟨vs', hs _ _ q1, q0, (q2.av less).same hs⟩
       | dtt ks xs => obtain ⟨vs', q1, q0, q2⟩ := r2; exact ⟨vs', hs _ _ q1, q0, (q2.av less).same hs⟩
       | _ => exact r2
def VFD (G : Cn) (ow : List Nat) (te : TE) (ε : Env -> Option D) : Prop :=
 ∀ H0 av A σ H δ, ER G ow H0 av A σ H δ -> ∀ d, ε δ = some d -> ∀ Q : VK, (∀ p ks vs xs H1, Same H H1 -> H1 p = none -> ks.length = xs.length -> RepL G.1 (AV av A) H1 xs vs -> d = .dct ks xs -> Q (.ref p) (upd H1 p (.dK (ks.zip vs)))) -> te σ H Q
theorem Zb6 : VFD G ow tDNewK (eC (.dct [] [])) := fun H0 av A σ H δ E d e Q k => fun p hp => by
 cases e
 exact k p [] [] [] H (Same.refl H) hp rfl .nil rfl
theorem Jf {te : TE} {ε : Env -> Option D} (i : Nat) (h : VFD G ow te ε) (hn : G.2 i = none) (h1 : sub owN (i :: ow) = true) (h2 : owN.contains i = true) (h3 : sub ow owN = true) : VS G ow owN owB owC (YW te (Yn i)) (Zi i ε) := fun H0 av A σ H δ E o e De k => by
 unfold Zi at e
 cases he : ε δ with
 | none => rw [he] at e; cases e
 | some d =>
  rw [he] at e
  cases e
  refine h H0 av A σ H δ E d he _ fun p ks vs xs H1 s hp hk l hd => ?_
  subst hd
  exact k _ _ _ (Zeq (E.mono s) hp hk l (Za9 h1 h2 h3) hn)
def inK (neg : Bool) : D -> D -> Option D
 | x, .dct ks _ => match YL x with
  | some k => some (.bl (neg != Yv k ks))
  | none => none
 | _, _ => none
theorem Zbi {neg : Bool} {x y d : D} (h : inK neg x y = some d) : ∃ ks xs k, y = .dct ks xs /\ YL x = some k /\ d = .bl (neg != Yv k ks) := by
 unfold inK at h
 split at h
 · rename_i ks xs
   cases hk : YL x with
   | none => rw [hk] at h; cases h
   | some k => rw [hk] at h; exact ⟨ks, xs, k, rfl, rfl, (Option.some.inj h).symm⟩
 · cases h
theorem ZdD {ta tb : TE} {qa qb : Ql} {a b : Env -> Option D} (ha : VE G ow ta qa a) (hb : VE G ow tb qb b) : VE G ow (Zhj ta tb) .cl (eOp (inK false) a b) := fun H0 av A σ H δ E d e Q k => by
 obtain ⟨x, y, ex, ey, ed⟩ := UU e
 obtain ⟨ks, xs, kk, rfl, hk, rfl⟩ := Zbi ed
 obtain ⟨hv, hs⟩ := Ul hk
 refine ha H0 av A σ H δ E _ ex _ fun v H1 s1 r1 => hb H0 av A σ H1 δ (E.mono s1) _ ey _ fun w H2 s2 r2 => ?_
 have e1 : v = kV kk := (r1.any.val hs).trans hv
 obtain ⟨p, vs, rfl, _, rd, hl, l⟩ := r2.tp
 refine ⟨p, _, rfl, e1 ▸ DGet.k rd, ?_⟩
 rw [Zbf kk (hl.trans l.length)]
 have := k (.bl (false != Yv kk ks)) H2 (s1.trans s2) blq
 rw [Bool.false_bne] at this
 exact this
theorem ZaE {ta tb : TE} {qa qb : Ql} {a b : Env -> Option D} (ha : VE G ow ta qa a) (hb : VE G ow tb qb b) : VE G ow (ZbR ta tb) .cl (eOp (inK true) a b) := fun H0 av A σ H δ E d e Q k => by
 obtain ⟨x, y, ex, ey, ed⟩ := UU e
 obtain ⟨ks, xs, kk, rfl, hk, rfl⟩ := Zbi ed
 obtain ⟨hv, hs⟩ := Ul hk
 refine ha H0 av A σ H δ E _ ex _ fun v H1 s1 r1 => hb H0 av A σ H1 δ (E.mono s1) _ ey _ fun w H2 s2 r2 => ?_
 have e1 : v = kV kk := (r1.any.val hs).trans hv
 obtain ⟨p, vs, rfl, _, rd, hl, l⟩ := r2.tp
 refine ⟨p, _, rfl, e1 ▸ DGet.k rd, ?_⟩
 rw [Zbf kk (hl.trans l.length)]
 have := k (.bl (true != Yv kk ks)) H2 (s1.trans s2) blq
 rw [Bool.true_bne] at this
 exact this
def XL : D -> D -> Option D
 | .dct ks xs, x => match YL x with
  | some k => Vc k ks xs
  | none => none
 | _, _ => none
theorem ZcI {x y d : D} (h : XL y x = some d) : ∃ ks xs k, y = .dct ks xs /\ YL x = some k /\ Vc k ks xs = some d := by
 unfold XL at h
 split at h
 · rename_i ks xs
   cases hk : YL x with
   | none => rw [hk] at h; cases h
   | some k => rw [hk] at h; exact ⟨ks, xs, k, rfl, rfl, h⟩
 · cases h
theorem Zb7 {ta tb : TE} {qa qb : Ql} {a b : Env -> Option D} (hq : qa = .cl \/ qa = .tp) (ha : VE G ow ta qa a) (hb : VE G ow tb qb b) : VE G ow (Ze3 ta tb) .cl (eOp XL a b) := fun H0 av A σ H δ E d e Q k => by
 obtain ⟨y, x, ey, ex, ed⟩ := UU e
 obtain ⟨ks, xs, kk, rfl, hk, hlk⟩ := ZcI ed
 obtain ⟨hv, hs⟩ := Ul hk
 refine ha H0 av A σ H δ E _ ey _ fun v H1 s1 r1 => hb H0 av A σ H1 δ (E.mono s1) _ ex _ fun w H2 s2 r2 => ?_
 have e1 : w = kV kk := (r2.any.val hs).trans hv
 have r3 : RepT G.1 av (AV av A) H2 (.dct ks xs) v := by
  have := (r1.same s2).tp
  rcases hq with rfl | rfl <;> exact this
 obtain ⟨p, vs, rfl, _, rd, hl, l⟩ := r3
 obtain ⟨u, h1, h2⟩ := Zbg kk l hlk
 refine ⟨p, u, rfl, ?_, k u H2 (s1.trans s2) h2.t⟩
 rw [<- h1, e1]
 exact DGet.k rd
def Yw (i : Nat) (κ ε : Env -> Option D) (δ : Env) : Option Out := match ε δ, Za i δ, κ δ with
 | some d, some (.dct ks xs), some x => match YL x with
  | some k => if ks.length < sizeLine then some (.nx (δ.set i (some (XJ ks xs k d)))) else none
  | none => none
 | _, _, _ => none
theorem ZbE {i : Nat} {κ ε : Env -> Option D} {δ : Env} {o : Out} (h : Yw i κ ε δ = some o) : ∃ d ks xs x k, ε δ = some d /\ Za i δ = some (.dct ks xs) /\ κ δ = some x /\ YL x = some k /\ ks.length < sizeLine /\ o = .nx (δ.set i (some (XJ ks xs k d))) := by
 unfold Yw at h
 split at h
 · rename_i d ks xs x h1 h2 h3
   cases hk : YL x with
   | none => rw [hk] at h; cases h
   | some k =>
    rw [hk] at h
    dsimp only at h
    by_cases hz : ks.length < sizeLine
    · rw [if_pos hz] at h
      exact ⟨d, ks, xs, x, k, h1, h2, h3, hk, hz, (Option.some.inj h).symm⟩
    · rw [if_neg hz] at h; cases h
 · cases h
theorem Jg {te ti : TE} {q : Ql} {ε κ : Env -> Option D} (i : Nat) (hi : ow.contains i = true) (h : VE G ow te .cl ε) (hk : VE G ow ti q κ) : VS G ow ow owB owC (Ze4 (Ym i) ti te) (Yw i κ ε) := fun H0 av A σ H δ E o e De k => by
 obtain ⟨d, ks, xs, x, kk, e1, e2, e3, hkk, hz, rfl⟩ := ZbE e
 obtain ⟨hv, hs⟩ := Ul hkk
 have hi' : i ∈ ow := by simpa using hi
 cases hA : A i with
 | none => exact absurd hA (E.dom' i hi')
 | some a =>
  refine h H0 av A σ H δ E d e1 _ fun v H1 s1 r1 => ?_
  have E1 := E.mono s1
  obtain ⟨u, g1, _, g3⟩ := E1.var i _ (YH e2)
  refine ⟨u, g1, hk H0 av A σ H1 δ E1 _ e3 _ fun y H2 s2 r2 => ?_⟩
  have E2 := E1.mono s2
  obtain ⟨u', g1', _, g3'⟩ := E2.var i _ (YH e2)
  obtain ⟨rfl, vs, q1, q0, q2⟩ := g3' a hA
  have eu : u = .ref a := (g3 a hA).1
  subst eu
  have ey : y = kV kk := (r2.any.val hs).trans hv
  subst ey
  refine ⟨a, _, rfl, DPut.k q1 ?_, k A σ _ (E2.put hA (YH e2) (fun b o hb e => by rw [Zj hb]; exact e) (by rw [ZB]; exact fun z => by cases z) ?_)⟩
  · have : (ks.zip vs).length = ks.length := by rw [List.length_zip, <- q2.length, q0]; omega
    rw [this]
    exact hz
  · have ex : ∀ b o, ¬ AV av A b -> H2 b = some o -> upd H2 a (.dK (Z6 (ks.zip vs) kk v)) b = some o := fun b o n e => by
     rw [Zj fun z => n (.inr ⟨i, by rw [z]; exact hA⟩)]
     exact e
    exact Zep kk q0 (q2.ext ex) ((RepT.r (r1.same s2)).ext ex) ZB
end
end DL
namespace L2
open PySem
theorem Xp {X : Cx} (h : X.A.units + 64 < cLine) : X.A.units + 1 < cLine := by omega
theorem Jh {env : Env} : ∀ {names : List (Str × NameKind)} {x : Str}, (names.lookup x = some .cell \/ names.lookup x = some .free) ->
 (names.map fun (n, k) => if (k == NameKind.free && env.scope.kind == .function && env.kindOf n == some .cell) then (n, NameKind.cell) else (n, k)).lookup x = some .cell \/ (names.map fun (n, k) => if (k == NameKind.free && env.scope.kind == .function && env.kindOf n == some .cell) then (n, NameKind.cell) else (n, k)).lookup x = some .free
 | [], _, h => by simp at h
 | (n, k) :: r, x, h => by
  have ih := @Jh env r x
  show List.lookup x ((if (k == NameKind.free && env.scope.kind == .function && env.kindOf n == some .cell) = true then (n, NameKind.cell) else (n, k)) :: _) = _ \/ List.lookup x ((if (k == NameKind.free && env.scope.kind == .function && env.kindOf n == some .cell) = true then (n, NameKind.cell) else (n, k)) :: _) = _
  cases hx : x == n with
  | true =>
   simp only [List.lookup_cons, hx] at h
   by_cases hc : (k == NameKind.free && env.scope.kind == .function && env.kindOf n == some .cell) = true
   · rw [if_pos hc]
     exact .inl (by simp only [List.lookup_cons, hx])
   · rw [if_neg hc]
     simp only [List.lookup_cons, hx]
     exact h
  | false =>
   simp only [List.lookup_cons, hx] at h
   by_cases hc : (k == NameKind.free && env.scope.kind == .function && env.kindOf n == some .cell) = true
   · rw [if_pos hc]; simp only [List.lookup_cons, hx]; exact ih h
   · rw [if_neg hc]; simp only [List.lookup_cons, hx]; exact ih h
end L2
namespace DL
open PySem PySem.Spec L2
section
variable {G : Cn} {ow owN owB owC ow1 : List Nat}
end
section
variable {cA : Kn} {G : Cn} {ow owN owB owC ow1 : List Nat} {i : Nat}
end
section
variable {P : Program} {w : World} {K : PySem.W.Frag} {mg : Str -> Option Value} {base : Heap} {cA : Kn}
open Classical in
end
end DL
namespace L2
open PySem PySem.Spec PyProof.Rows
section
variable {X : Cx}
end
end L2
namespace DL
open PySem PySem.Spec L2
section
variable {cA : Kn} {G : Cn} {ow owN owB owC ow1 : List Nat} {i : Nat}
mutual
def frz : D -> Bool
 | .non => true
 | .bl _ => true
 | .int _ => true
 | .str _ => true
 | .lst _ => false
 | .tup xs => frzL xs
 | .obj _ _ xs => frzL xs
 | .dct _ _ => false
 | .dtt _ _ => false
def frzL : List D -> Bool
 | [] => true
 | x :: xs => frz x && frzL xs
end
mutual
theorem Rep.frz {av av' : Addr -> Prop} {H : Hp} : ∀ {d : D} {v : V}, frz d = true -> (∀ b, av' b -> av b \/ ∃ vs, H b = some (.lst vs)) -> Rep cA av H d v -> Rep cA av' H d v
 | .non, _, _, _, h => h
 | .bl _, _, _, _, h => h
 | .int _, _, _, _, h => h
 | .str _, _, _, _, h => h
 | .lst xs, v, hf, k, h => by cases hf
 | .tup xs, v, hf, k, h => by
  unfold DL.frz at hf
  unfold Rep at h ⊢
  obtain ⟨a, vs, e, n, r, l⟩ := h
  exact ⟨a, vs, e, fun z => (k a z).elim n (by rw [r]; exact fun ⟨_, z⟩ => by cases z), r, RepL.frz hf k l⟩
 | .obj c ks xs, v, hf, k, h => by
  unfold DL.frz at hf
  unfold Rep at h ⊢
  obtain ⟨a, dx, vs, e, n, r, z, l⟩ := h
  exact ⟨a, dx, vs, e, fun z => (k a z).elim n (by rw [r]; exact fun ⟨_, z⟩ => by cases z), r, z, RepL.frz hf k l⟩
 | .dct ks xs, v, hf, k, h => by cases hf
 | .dtt ks xs, v, hf, k, h => by cases hf
theorem RepL.frz {av av' : Addr -> Prop} {H : Hp} : ∀ {xs : List D} {vs : List V}, frzL xs = true -> (∀ b, av' b -> av b \/ ∃ vs, H b = some (.lst vs)) -> RepL cA av H xs vs -> RepL cA av' H xs vs
 | [], _, _, _, h => h
 | x :: xs, vs, hf, k, h => by
  unfold DL.frzL at hf
  rw [Bool.and_eq_true] at hf
  unfold RepL at h ⊢
  obtain ⟨v, r, e, h1, h2⟩ := h
  exact ⟨v, r, e, Rep.frz hf.1 k h1, RepL.frz hf.2 k h2⟩
end
end
end DL
namespace PySem
open Sem (wp)
section
variable {prog : Program} {w : World} {A : Around} {E : Value -> Shared -> Prop} {s : Shared}
end
def IsQI (k : Bool) (h : Heap) (a l : Addr) (i : Nat) : Prop := match k with
 | true => h.IsTupleIter a l i
 | false => h.IsListIter a l i
def IsQ (k : Bool) (h : Heap) (l : Addr) (xs : Array Value) : Prop := match k with
 | true => h.IsTuple l xs
 | false => h.IsList l xs
theorem IsQI.get {k : Bool} {h : Heap} {a l : Addr} {i : Nat} (x : IsQI k h a l i) : ∃ o, h.get? a = some o /\ o.data = .fields #[.ref l, .int i 0] := by
 cases k with
 | true => obtain ⟨o, e, _, d⟩ := x; exact ⟨o, e, d⟩
 | false => obtain ⟨o, e, _, d⟩ := x; exact ⟨o, e, d⟩
theorem IsQI.at {k : Bool} {h h' : Heap} {a l : Addr} {i : Nat} (x : IsQI k h a l i) (f : ∀ o, h.get? a = some o -> h'.get? a = some o) : IsQI k h' a l i := by
 cases k with
 | true => obtain ⟨o, e, r⟩ := x; exact ⟨o, f o e, r⟩
 | false => obtain ⟨o, e, r⟩ := x; exact ⟨o, f o e, r⟩
theorem IsQI.ext {k : Bool} {h h' : Heap} {a b l : Addr} {i : Nat} (x : IsQI k h a l i) (hs : Heap.ExtBut b h h') (n : a ≠ b) : IsQI k h' a l i := x.at fun o e => hs a o n e
theorem IsQ.at {k : Bool} {h h' : Heap} {l : Addr} {xs : Array Value} (x : IsQ k h l xs) (f : ∀ o, h.get? l = some o -> h'.get? l = some o) : IsQ k h' l xs := by
 cases k with
 | true => obtain ⟨o, e, r⟩ := x; exact ⟨o, f o e, r⟩
 | false => obtain ⟨o, e, r⟩ := x; exact ⟨o, f o e, r⟩
theorem IsQ.ext {k : Bool} {h h' : Heap} {b l : Addr} {xs : Array Value} (x : IsQ k h l xs) (hs : Heap.ExtBut b h h') (n : l ≠ b) : IsQ k h' l xs := x.at fun o e => hs l o n e
theorem IsQ.lt {k : Bool} {h : Heap} {l : Addr} {xs : Array Value} (x : IsQ k h l xs) : l < h.objs.size := by
 cases k with
 | true => obtain ⟨o, e, _⟩ := x; exact Heap.lt_size e
 | false => obtain ⟨o, e, _⟩ := x; exact Heap.lt_size e
section
variable {prog : Program} {w : World} {A : Around} {E : Value -> Shared -> Prop} {s : Shared}
end
section
variable {prog : Program} {w : World} {A : Around} {E : Value -> Shared -> Prop} {s : Shared}
end
end PySem
namespace L2
open PySem PySem.Spec PyProof.Rows
section
variable {X : Cx} {elts : List Expr} {x1 : Nat} {tpos : Pos}
def ZdE (K : PySem.W.Frag) (ta : TA) : TI := fun σ H R => ta σ H fun vs H1 => ∃ l xs, vs = [.ref l] /\ SqL K H1 l xs /\ R (Ja K 0 l) H1
theorem Zc7 {K : PySem.W.Frag} {a : Expr} {ta : TE} {po pos : Pos} (hg : Gl X "enumerate") (hm : X.mg "enumerate" = none) (ha : PE X a ta) (hs : starEach [a] X.env = [(false, eval a X.env)] := by rfl) (hK : X.K = K := by rfl) :
 PI X (.Tuple elts x1 tpos) (.Call (.Name "enumerate" po) [a] [] pos) (ZdE K (Xj ta tNil)) := by
 subst hK
 intro pins s σ H R I h
 refine Call_ (VZ I hg hm boot_enumerate (PyProof.Rows.callWith_type1 (thn ((Ze ha Zk hs) pos pins s σ H _ I h) fun us s1 ⟨vs, H1, I1, r1, q1⟩ => ?_) (by rw [hs]; rfl) (by rfl)))
 obtain ⟨l, xs, ev, hq, q⟩ := q1
 subst ev
 obtain ⟨w1, rfl, rx⟩ := YD r1
 cases rx
 obtain ⟨its, rv, pl, hz⟩ := I1.list hq
 refine call_enumerate_list pl.isList fun h' he st _ k => ?_
 refine wpAny_pyIter_enum he ?_
 have I3 : Inv X pins σ H1 { s1 with heap := h' } := I1.kept (t' := s1.toks) k
 refine ⟨s1.heap.objs.size + 1, [s1.heap.objs.size + 1, s1.heap.objs.size], _, _, H1, rfl, I3, ZbC (s1.heap.objs.size + 1) s1.heap.objs.size l (Nat.succ_ne_self _) 0, ⟨⟨_, he⟩, st⟩, fun b hb => ?_, q⟩
 have hb' : s1.heap.objs.size <= b := by
  simp at hb
  rcases hb with rfl | rfl
  · exact Nat.le_succ _
  · exact Nat.le_refl _
 exact I1.fpOk hb' (I1.hok.fresh hb')
end
end L2
namespace DL
open PySem PySem.Spec L2
section
variable {cA : Kn} {G : Cn} {ow : List Nat}
theorem Zc8 {ta : TE} {ε : Env -> Option D} (h : VE G ow ta .cl ε) : VI G ow (ZdE G.1.K (Xj ta tNil)) (Ui 0 ε) := fun H0 av A σ H δ E xs e R k => by
 unfold Ui at e
 cases he : ε δ with
 | none => rw [he] at e; cases e
 | some d =>
  rw [he] at e
  cases d <;> first | (cases e; done) | skip
  cases e
  refine h H0 av A σ H δ E _ he _ fun v H1 s r => ?_
  obtain ⟨a, vs, rfl, na, rd, l⟩ := r
  exact ⟨a, vs, rfl, rd, k _ H1 s (ZaV (UT na rd fun b o n e => by rw [Y3 fun ⟨i, z⟩ => n (.inr ⟨i, z⟩)]; exact e) l.cut)⟩
end
end DL
namespace DL
open PySem PySem.Spec PyProof.Rows L2
def YN : List Int -> Int
 | [] => 0
 | n :: ns => ns.foldl min n
theorem Zaa : ∀ (ns : List Int) (n : Int), (ns.foldl min n = n \/ ns.foldl min n ∈ ns) /\ ns.foldl min n <= n /\ ∀ a ∈ ns, ns.foldl min n <= a
 | [], n => ⟨.inl rfl, Int.le_refl _, fun _ z => nomatch z⟩
 | m :: ns, n => by
  obtain ⟨h1, h2, h3⟩ := Zaa ns (min n m)
  rw [List.foldl_cons]
  refine ⟨?_, by omega, fun a ha => ?_⟩
  · rcases h1 with h | h
    · by_cases hm : n <= m
      · exact .inl (by rw [h, Int.min_eq_left hm])
      · exact .inr (by rw [h, Int.min_eq_right (by omega)]; exact List.mem_cons_self)
    · exact .inr (List.mem_cons_of_mem _ h)
  · rcases List.mem_cons.mp ha with rfl | ha
    · omega
    · exact h3 a ha
theorem ZcJ {ns : List Int} (h : 0 < ns.length) : YN ns ∈ ns /\ ∀ a ∈ ns, YN ns <= a := by
 cases ns with
 | nil => cases h
 | cons n ns =>
  obtain ⟨h1, h2, h3⟩ := Zaa ns n
  refine ⟨?_, fun a ha => ?_⟩
  · rcases h1 with h | h
    · show ns.foldl min n ∈ _
      rw [h]; exact List.mem_cons_self
    · exact List.mem_cons_of_mem _ h
  · rcases List.mem_cons.mp ha with rfl | ha
    · exact h2
    · exact h3 a ha
theorem ZcK {ns : List Int} {M : Int} (h1 : M ∈ ns) (h2 : ∀ a ∈ ns, M <= a) : M = YN ns := by
 obtain ⟨h3, h4⟩ := ZcJ (List.length_pos_of_mem h1)
 exact Int.le_antisymm (h2 _ h3) (h4 M h1)
def Ji (K : PySem.W.Frag) : List V -> Hp -> VK -> Prop := fun xs H Q => ∃ (p : Addr) (ns : List Int), xs = [.ref p] /\ SqL K H p (ns.map V.int) /\ 0 < ns.length /\ Q (.int (YN ns)) H
def Xq (ns : List Int) : List Int := ns.mergeSort fun a b => decide (a <= b)
theorem Zc9 (ns : List Int) : (Xq ns).Pairwise (· <= ·) := by
 have := List.pairwise_mergeSort (le := fun a b : Int => decide (a <= b)) (fun a b c h1 h2 => by simp at h1 h2 ⊢; omega) (fun a b => by simp; omega) ns
 exact this.imp fun h => by simpa using h
theorem Zao {ns ms : List Int} (hp : ms.Perm ns) (hs : ms.Pairwise (· <= ·)) : ms = Xq ns :=
 List.Perm.eq_of_pairwise (fun a b _ _ h1 h2 => Int.le_antisymm h1 h2) hs (Zc9 ns) (hp.trans (List.mergeSort_perm ns _).symm)
theorem ZcL (ns : List Int) : (Xq ns).length = ns.length := (List.mergeSort_perm ns _).length_eq
def Jj (K : PySem.W.Frag) : List V -> Hp -> VK -> Prop := fun xs H Q => ∃ (p : Addr) (ns : List Int), xs = [.ref p] /\ SqL K H p (ns.map V.int) /\ ns.length < 64 /\ ∀ r, H r = none -> Q (.ref r) (upd H r (.lst ((Xq ns).map V.int)))
theorem ZaX : ∀ {its : List Value} {ns : List Int}, IntsAre its ns -> Vals (ns.map V.int) its := by
 intro its ns h
 induction h with
 | nil => exact .nil
 | cons n t _ ih => exact .cons ⟨t, rfl⟩ ih
section
variable {X : Cx} {K : PySem.W.Frag} {cA : Kn}
theorem ZcM (hc : X.calm = true) : ZZ X (.builtin "min") (Ji X.K) := by
 intro pins s σ H xs us Q I rs h
 obtain ⟨p, ns, rfl, hq, hne, q⟩ := h
 obtain ⟨u, rfl, rx⟩ := YD rs
 cases rx
 obtain ⟨its, rv, pl, hz⟩ := I.list hq
 have hi := U6 ns its rv
 obtain ⟨ys, e⟩ := hi.allInts.items
 have hns : ns = ys.toList.map (·.1) := by
  rw [<- hi.numsOf, <- nums_intItems, <- e]
 have hsz : 0 < ys.size := by
  have h3 := hne; rw [hns, List.length_map, Array.length_toList] at h3; exact h3
 have hl := pl.isList
 rw [e] at hl
 refine min_intList (I.ok.hd hc) hl hsz fun v h' tk hv hk => ?_
 obtain ⟨t, rfl⟩ := intItems_at hv
 obtain ⟨h1, h2⟩ := argBest_lt (numAt ys) (ys.size - 1)
 have hM := ZcK (ns := ns) (M := numAt ys (argBest (fun i j => decide (numAt ys i < numAt ys j)) (ys.size - 1))) (by
  rw [hns, numAt_eq]; exact getD_mem (by rw [List.length_map, Array.length_toList]; omega)) (fun a ha => by
  rw [hns] at ha
  obtain ⟨j, hj, rfl⟩ := mem_getD ha
  rw [List.length_map, Array.length_toList] at hj
  rw [<- numAt_eq]; exact h2 j (by omega))
 exact ⟨.int (YN ns), H, I.kept hk, ⟨t, by rw [hM]⟩, q⟩
theorem Zf1 (hc : X.calm = true := by rfl) (hK : X.K = K := by rfl) : ZZ X (.builtin "min") (Ji K) := hK ▸ ZcM hc
theorem ZbF : ZZ X (.builtin "sorted") (Jj X.K) := by
 intro pins s σ H xs us Q I rs h
 obtain ⟨p, ns, rfl, hq, h64, q⟩ := h
 obtain ⟨u, rfl, rx⟩ := YD rs
 cases rx
 obtain ⟨its, rv, pl, hz⟩ := I.list hq
 have hi := U6 ns its rv
 have hlen : its.length = ns.length := by have := rv.length; rw [List.length_map] at this; omega
 refine sorted_ints pl.isList hi (by omega) fun out ns' hi' hp hs => ?_
 have e := Zao hp hs
 subst e
 obtain ⟨n0, ho⟩ := sortedAll_at s.heap its out
 have hv : Vals ((Xq ns).map V.int) out.toList := ZaX hi'
 refine ⟨.ref (s.heap.objs.size + 1), _, I.laid (a := s.heap.objs.size + 1) (o := .lst ((Xq ns).map V.int)) (t' := s.toks) (fun b o hb => sortedAll_old hb) (Nat.le_succ _) ?_, rfl, q _ (I.hok.fresh (Nat.le_succ _))⟩
 show ObjOk X.prog X.w _ _ _ (.lst _)
 refine ⟨?_, out.toList, n0, hv, ?_⟩
 · rw [List.length_map, ZcL, PySem.sizeLine_eq]; omega
 · exact ho
theorem Zer (hK : X.K = K := by rfl) : ZZ X (.builtin "sorted") (Jj K) := hK ▸ ZbF
def minLD : List D -> Option D
 | [.lst xs] => match Yr xs with
  | some ns => if 0 < ns.length then some (.int (YN ns)) else none
  | none => none
 | _ => none
theorem Zes : Vy cA (Ji cA.K) minLD := fun i H ds vs d _ h e Q k => by
 unfold minLD at e
 split at e
 · rename_i xs
   cases hb : Yr xs with
   | none => rw [hb] at e; cases e
   | some bs =>
    rw [hb] at e
    dsimp only at e
    by_cases hz : 0 < bs.length
    · rw [if_pos hz] at e
      cases e
      obtain ⟨v, t, rfl, a, ws, rfl, _, rd, l⟩ := il1 h
      have ex := U5 hb
      subst ex
      have ev := l.vals (by rw [List.all_map]; exact List.all_eq_true.mpr fun _ _ => rfl)
      rw [List.map_map] at ev
      subst ev
      exact ⟨a, bs, rfl, rd, hz, k _ H (Same.refl H) rfl⟩
    · rw [if_neg hz] at e; cases e
 · cases e
def VD : List D -> Option D
 | [.lst xs] => match Yr xs with
  | some ns => if ns.length < 64 then some (.lst ((Xq ns).map D.int)) else none
  | none => none
 | _ => none
variable {G : Cn} {ow : List Nat}
theorem Zet {t : TA} {q : Ql} {α : Env -> Option (List D)} (hq : q = .cl \/ q = .tp) (h : VA G ow t q α) : VF G ow (tCB (Jj G.1.K) t) (eCB VD α) := fun H0 av A σ H δ E d e Q k => by
 unfold eCB at e
 cases he : α δ with
 | none => rw [he] at e; cases e
 | some ds =>
  rw [he] at e
  replace e : VD ds = some d := e
  unfold VD at e
  split at e
  · rename_i xs
    cases hb : Yr xs with
    | none => rw [hb] at e; cases e
    | some ns =>
     rw [hb] at e
     dsimp only at e
     by_cases hz : ns.length < 64
     · rw [if_pos hz] at e
       cases e
       refine h H0 av A σ H δ E _ he _ fun vs H1 s1 r1 => ?_
       have il : X8 G.1 (AV av A) H1 [.lst xs] vs := by
        rcases hq with rfl | rfl <;> exact r1.il
       obtain ⟨v, t, rfl, a, ws, rfl, _, rd, l⟩ := il1 il
       have ex := U5 hb
       subst ex
       have ev := l.vals (by rw [List.all_map]; exact List.all_eq_true.mpr fun _ _ => rfl)
       rw [List.map_map] at ev
       subst ev
       refine ⟨a, ns, rfl, rd, hz, fun p hp => k p _ _ H1 s1 hp ?_ rfl⟩
       have := RepL.of_vals (cA := G.1) (av := AV av A) (H := H1) (xs := (Xq ns).map D.int) (by rw [List.all_map]; exact List.all_eq_true.mpr fun _ _ => rfl)
       rw [List.map_map] at this
       exact this
     · rw [if_neg hz] at e; cases e
  · cases e
def Qa (κ ε : Env -> Option D) (δ : Env) : Option D := match κ δ, Y0 ε δ with
 | some x, some d => match YL x with
  | some k => some (.dct [k] [d])
  | none => none
 | _, _ => none
open Classical in
theorem Zda {tk tv : TE} {q1 q2 : Ql} {κ ε : Env -> Option D} (h1 : VE G ow tk q1 κ) (h2 : VE G ow tv q2 ε) : VFD G ow (Ze5 [(tk, tv)]) (Qa κ ε) := fun H0 av A σ H δ E d e Q k => fun p hp => by
 unfold Qa at e
 cases hx : κ δ with
 | none => rw [hx] at e; cases e
 | some x =>
  cases hy : Y0 ε δ with
  | none => rw [hx, hy] at e; cases e
  | some y =>
   rw [hx, hy] at e
   dsimp only at e
   cases hk : YL x with
   | none => rw [hk] at e; cases e
   | some kk =>
    rw [hk] at e
    cases e
    have sp : Same H (upd H p (.dK [])) := Yb hp
    refine h1 H0 av A σ _ δ (E.mono sp) x hx _ fun v H1 s1 r1 => ?_
    refine h2.scal H0 av A σ _ δ ((E.mono sp).mono s1) y hy _ fun u H2 s2 r2 => ?_
    obtain ⟨ek, sk⟩ := Ul hk
    have ev : v = kV kk := by rw [<- ek]; exact r1.any.val sk
    have sy : Zh y = true := ZbZ hy
    have eu : u = val y := (RepT.r r2).val sy
    subst ev eu
    have hp2 : H2 p = some (.dK []) := s2 _ _ (s1 _ _ ZB)
    refine ⟨hp2, [(kk, val y)], rfl, by show 1 <= 15; decide, ?_⟩
    have eu2 : upd H2 p (.dK (Vt [] [(kk, val y)])) = upd (fun b => if b = p then none else H2 b) p (.dK (([kk] : List Key).zip [val y])) := by
     funext b
     by_cases hb : b = p
     · rw [hb, ZB, ZB]
       rfl
     · rw [Zj hb, Zj hb, if_neg hb]
    rw [eu2]
    refine k p [kk] [val y] [y] (fun b => if b = p then none else H2 b) (fun b o hb => ?_) (if_pos rfl) rfl (.cons (.of_val sy) .nil) rfl
    have hbp : b ≠ p := fun z => by rw [z, hp] at hb; cases hb
    show (if b = p then none else H2 b) = some o
    rw [if_neg hbp]
    exact s2 _ _ (s1 _ _ (sp _ _ hb))
end
end DL
namespace DL
open PySem PySem.Spec L2
section
variable {cA : Kn} {av : Addr -> Prop} {H : Hp}
end
section
variable {G : Cn} {ow owN owB owC ow1 : List Nat} {H0 H : Hp} {av : Addr -> Prop} {A : Nat -> Option Addr} {σ : L2.St} {δ : Env}
end
end DL
namespace L2
open PySem PySem.Spec PyProof.Rows
section
variable {X : Cx}
end
end L2
namespace DL
open PySem PySem.Spec L2
section
variable {G : Cn} {ow owN owB owC ow1 : List Nat}
open Classical in
end
end DL
namespace L2
open PySem PySem.Spec PyProof.Rows
section
variable {X : Cx}
end
end L2
namespace DL
open PySem PySem.Spec L2
section
variable {G : Cn} {ow owN owB owC ow1 : List Nat}
end
end DL
namespace DL
open PySem PySem.Spec L2
section
variable {cA : Kn} {G : Cn} {ow owN owB owC : List Nat}
theorem RepL.dropLast {av : Addr -> Prop} {H : Hp} : ∀ {xs : List D} {vs : List V}, RepL cA av H xs vs -> RepL cA av H xs.dropLast vs.dropLast
 | [], vs, h => by rw [h.nil_of]; exact .nil
 | [x], vs, h => by
  obtain ⟨v, r, rfl, _, t⟩ := h.uncons
  rw [t.nil_of]
  exact .nil
 | x :: y :: xs, vs, h => by
  obtain ⟨v, r, rfl, h1, t⟩ := h.uncons
  obtain ⟨w, r', rfl, h2, t2⟩ := t.uncons
  exact .cons h1 (RepL.dropLast (xs := y :: xs) (vs := w :: r') t)
def Vd (i j : Nat) (α : Env -> Option D) (δ : Env) : Option Out := match α δ, Za j δ with
 | some x, some (.lst xs) => match xs[xs.length - 1]? with
  | some y => match ixD x y with
   | some d => some (.nx ((δ.set j (some (.lst xs.dropLast))).set i (some d)))
   | none => none
  | none => none
 | _, _ => none
theorem Zdb {ta : TE} {α : Env -> Option D} (i j : Nat) (hj : ow.contains j = true) (h : VE G ow ta .cl α) (hn : G.2 i = none) (h1 : sub owN ow = true) (h2 : owN.contains i = false) (h3 : sub ow (i :: owN) = true) :
 VS G ow owN owB owC (YW (tOp (Vr G.1.K) ta (QH G.1.K "list" rPop (Ym j))) (Yn i)) (Vd i j α) := fun H0 av A σ H δ E o e De k => by
 unfold Vd at e
 split at e
 · rename_i x xs ex ev
   cases hy : xs[xs.length - 1]? with
   | none => rw [hy] at e; cases e
   | some y =>
    rw [hy] at e
    dsimp only at e
    cases hd : ixD x y with
    | none => rw [hd] at e; cases e
    | some d =>
     rw [hd] at e
     cases e
     have hj' : j ∈ ow := by simpa using hj
     cases hA : A j with
     | none => exact absurd hA (E.dom' j hj')
     | some a =>
      refine h H0 av A σ H δ E x ex _ fun vx H1 s1 r1 => ?_
      have E1 := E.mono s1
      obtain ⟨v0, g1, _, g3⟩ := E1.var j _ (YH ev)
      obtain ⟨rfl, vs, q1, q2⟩ := g3 a hA
      obtain ⟨vy, hvy, ry⟩ := q2.get hy
      have xt : ∀ b o, ¬ AV av A b -> H1 b = some o -> upd H1 a (.lst vs.dropLast) b = some o := fun b o nb e => by
       rw [Zj fun z => nb (.inr ⟨j, by rw [z]; exact hA⟩)]
       exact e
      have E2 := E1.put hA (YH ev) (H' := upd H1 a (.lst vs.dropLast)) (d' := .lst xs.dropLast) (fun b o hb e => by rw [Zj hb]; exact e) (by rw [ZB]; exact fun z => by cases z) ⟨_, ZB, (RepL.dropLast q2).ext xt⟩
      refine ⟨_, g1, .inl ⟨rfl, vs, SqL.of q1⟩, a, vs, vy, rfl, rfl, q1, by rw [<- q2.length]; exact hvy, ?_⟩
      refine Z7 (AV av A) (AV av A) (AV av A) _ x y vx vy d E2.avl ((RepT.r r1).ext xt).t (ry.ext xt).t hd _ fun v H' s r => ?_
      exact k _ _ H' ((E2.mono s).set r (XE h1 h2 h3) hn)
 · cases e
end
end DL
namespace DL
open PySem PySem.Spec L2
section
variable {X : Cx} {cA : Kn}
open Classical in
end
end DL
namespace DL
open PySem PySem.Spec L2
section
variable {cA : Kn} {G : Cn} {ow owN owB owC ow1 : List Nat} {i : Nat} {H0 H H' : Hp} {av : Addr -> Prop} {A : Nat -> Option Addr} {σ : L2.St} {δ : Env}
theorem ER.less {H1 : Hp} (s : Same H0 H1) (ha : ∀ a, av a -> H0 a ≠ Option.none) (E : ER G ow H1 av A σ H δ) : ER G ow H0 av A σ H δ :=
 ⟨s.trans E.same, ha, fun i a e => s.free (E.fr i a e), E.inj, E.live, E.dom, E.dom', E.len, E.pin, E.kept, E.var⟩
theorem MR.less {H1 : Hp} (s : Same H0 H1) (ha : ∀ a, av a -> H0 a ≠ none) (R : MR G ow i H1 av A σ H δ) : MR G ow i H0 av A σ H δ := by
 obtain ⟨a, bs, rows, hd, M, h0, E⟩ := R.ex
 refine ⟨R.ni, R.nn, ha, a, bs, rows, hd, M, fun x hx => s.free (h0 x hx), ER.less (fun x o e => ?_) (fun x z => ?_) E⟩
 · by_cases h : x ∈ a :: bs
   · rw [ZQ h] at e ⊢; exact e
   · rw [ZH h] at e ⊢; exact s x o e
 · by_cases h : x ∈ a :: bs
   · rw [ZQ h]
     obtain ⟨vs, q⟩ := M.there h
     rw [q]; exact fun z => by cases z
   · rw [ZH h]
     exact ha x (z.resolve_right h)
def Um (i k : Nat) (ε : Env -> Option D) (φ : Env -> Option Out) (δ : Env) : Option Out := match ε (δ.set i none) with
 | some (.lst xs) => if xs.all Zh = true then Zt (Zf k) φ xs δ else none
 | _ => none
open Classical in
theorem Zeu {te : TE} {tb : TS} {ε : Env -> Option D} {φ : Env -> Option Out} (k' : Nat) (hk : k' ≠ i) (hko : ow.contains k' = false) (hn : G.2 k' = none) (hi : ∀ v, VE (G.keep i v) ow te .cl ε) (hb : VM G ow ow ow ow i tb φ) : VM G ow ow owB owC i (V1 (Vp G.1.K te) (Yn k') tb) (Um i k' ε φ) := fun H0 av A σ H δ R o e De k => by
 obtain ⟨a, bs, rows, hd, M, h0, E⟩ := R.ex
 unfold Um at e
 split at e
 · rename_i xs he
   by_cases hsc : xs.all Zh = true
   · rw [if_pos hsc] at e
     refine hi (.ref a) _ _ A σ H _ E _ he _ fun v H1 s1 r => ?_
     obtain ⟨p, vs, rfl, na, rd, l⟩ := r
     have E1 := E.mono s1
     have M1 := M.mono s1
     have nF : ∀ j x, A j = some x -> x ∉ a :: bs := fun j x e z => by
      have := E.fr j x e
      rw [ZQ z] at this
      obtain ⟨vs, q⟩ := M.there z
      rw [q] at this; cases this
     let H2 : Hp := fun x => if x ∈ a :: bs then none else DL.cut A H1 x
     have h2o : ∀ x, x ∉ a :: bs -> H2 x = DL.cut A H1 x := fun x hx => if_neg hx
     have eo : ovl H2 H1 (a :: bs) = DL.cut A H1 := by
      funext x
      by_cases hx : x ∈ a :: bs
      · rw [ZQ hx, Y3 fun ⟨j, z⟩ => nF j x z hx]
      · rw [ZH hx, h2o x hx]
     have s02 : Same H0 H2 := fun x o e => by
      have hx : x ∉ a :: bs := fun z => by rw [h0 x z] at e; cases e
      have hc : ¬ ∃ j, A j = some x := fun ⟨j, z⟩ => by
       have := E.fr j x z
       rw [ZH hx, e] at this
       cases this
      rw [h2o x hx, Y3 hc]
      exact E1.same x o (by rw [ZH hx, e])
     have hav2 : ∀ x, av x -> H2 x ≠ none := fun x z => by
      cases q : H0 x with
      | none => exact absurd q (R.avd x z)
      | some o => rw [s02 x o q]; exact fun z => by cases z
     have R2 : MR G ow i H2 av A σ H1 δ := ⟨R.ni, R.nn, hav2, a, bs, rows, hd, M1, fun x hx => if_pos hx, by rw [eo]; exact E1.cut⟩
     have xt : ∀ b o, ¬ AV (avF av (a :: bs)) A b -> H1 b = some o -> H2 b = some o := fun b o n e => by
      rw [h2o b fun z => n (.inl (.inr z)), Y3 fun ⟨j, z⟩ => n (.inr ⟨j, z⟩)]
      exact e
     have W : XG G.1 (AV (avF av (a :: bs)) A) (Itl G.1.K p) xs H2 := Zak (UT na rd xt) (l.ext xt)
     refine .inl ⟨p, vs, rfl, rd, ?_⟩
     refine ⟨fun j m σ' H' => m = xs.length - j /\ j <= xs.length /\ ∃ A' δ', MR G ow i H2 av A' σ' H' δ' /\ Zt (Zf k') φ (xs.drop j) δ' = some o, ⟨xs.length, by simp, Nat.zero_le _, A, δ, R2, e⟩, ?_⟩
     rintro j m σ' H' ⟨rfl, hle, A', δ', R', e'⟩
     obtain ⟨w1, w2, w3⟩ := W H' R'.view.same
     by_cases hlt : j < xs.length
     · refine .inr ⟨w1 j hlt, fun σ2 H3 => ∃ A2 δ2, MR G ow i H2 av A2 σ2 H3 δ2 /\ Zt (Zf k') φ (xs.drop (j + 1)) δ2 = some o, fun σ2 H3 ⟨A2, δ2, E2, e2⟩ => ⟨xs.length - (j + 1), by omega, rfl, hlt, A2, δ2, E2, e2⟩, fun v H3 y => ?_⟩
       have hx : xs[j]? = some xs[j] := List.getElem?_eq_getElem hlt
       obtain ⟨s2, rep⟩ := w2 j _ v H3 hx y
       have hs := List.all_eq_true.mp hsc xs[j] (List.getElem_mem hlt)
       have ev : v = val xs[j] := (rep (fun _ => False) (fun _ z => z.elim) (fun _ z => z.elim)).val hs
       subst ev
       rw [List.drop_eq_getElem_cons hlt] at e'
       unfold Zt at e'
       have e' : (match φ (δ'.set k' (some xs[j])) with
        | none => none
        | some (.nx δ2) => Zt (Zf k') φ (xs.drop (j + 1)) δ2
        | some (.ct δ2) => Zt (Zf k') φ (xs.drop (j + 1)) δ2
        | some (.bk δ2) => some (.nx δ2)
        | some (.rt d) => some (.rt d)) = some o := e'
       have R3 := (R'.mono s2).set (owN := ow) hs hk (fun j => by
        have : k' ∉ ow := by simpa using hko
        exact ⟨fun h => ⟨h, fun z => this (z ▸ h)⟩, fun h => h.1⟩) hn
       cases hφ : φ (δ'.set k' (some xs[j])) with
       | none => rw [hφ] at e'; cases e'
       | some o1 =>
        rw [hφ] at e'
        refine hb _ av _ _ H3 _ R3 o1 hφ _ ?_
        cases o1 with
        | nx δ2 => exact fun A4 σ4 H4 E4 => ⟨A4, δ2, E4, e'⟩
        | ct δ2 => exact fun A4 σ4 H4 E4 => ⟨A4, δ2, E4, e'⟩
        | bk δ2 => cases e'; exact fun A4 σ4 H4 E4 => k A4 σ4 H4 (E4.less s02 R.avd)
        | rt d => cases e'; exact fun v H4 s4 r4 => k v H4 (s02.trans s4) r4
     · have ei : j = xs.length := by omega
       subst ei
       rw [List.drop_length] at e'
       cases e'
       exact .inl ⟨w3 _ (Nat.le_refl _), k A' σ' H' (R'.less s02 R.avd)⟩
   · rw [if_neg hsc] at e; cases e
 · cases e
theorem Zdc {α : Type} {l : List α} {i : Nat} {x : α} (h : l[i]? = some x) : l.set i x = l := by
 have hl := (List.getElem?_eq_some_iff.mp h).1
 apply List.ext_getElem?
 intro j
 by_cases hj : j = i
 · subst hj; rw [List.getElem?_set_self hl, h]
 · rw [List.getElem?_set_ne (Ne.symm hj)]
end
end DL
namespace DL
open PySem PySem.Spec L2
section
variable {cA : Kn} {G : Cn} {ow owN owB owC ow1 : List Nat} {i : Nat} {H0 H H' : Hp} {av : Addr -> Prop} {A A' : Nat -> Option Addr} {σ σ' : L2.St} {δ δ1 : Env}
theorem Zev {a : Addr} {bs : List Addr} {rows : List (List D)} (nn : PinOk G i σ) (havd : ∀ x, av x -> H0 x ≠ none) (hs : σ[i]? = some (some (.ref a))) (M : Mx H a bs rows) (h0 : ∀ x ∈ a :: bs, H0 x = none)
 (E' : ER (G.keep i (.ref a)) owN (ovl H0 H (a :: bs)) (avF av (a :: bs)) A' σ' H' δ1) (hi : δ1[i]? = some none) (ho : i ∉ owN) : MR G owN i H0 av A' σ' H' (δ1.set i (some (mat rows))) := by
 have hF : ∀ x ∈ a :: bs, H' x = H x := fun x hx => by
  obtain ⟨vs, q⟩ := M.there hx
  rw [q]
  exact E'.same x _ (by rw [ZQ hx]; exact q)
 have hil : i < δ1.length := (List.getElem?_eq_some_iff.mp hi).1
 have M' : Mx H' a bs rows := ⟨(hF a List.mem_cons_self).trans M.top, M.len, M.nd, M.na, fun k b r h1 h2 => (hF b (List.mem_cons_of_mem _ (List.mem_of_getElem? h1))).trans (M.row k b r h1 h2), M.sc⟩
 have eo : ovl H0 H' (a :: bs) = ovl H0 H (a :: bs) := by
  funext x
  by_cases hx : x ∈ a :: bs
  · rw [ZQ hx, ZQ hx, hF x hx]
  · rw [ZH hx, ZH hx]
 have es : (δ1.set i (some (mat rows))).set i none = δ1 := by rw [List.set_set]; exact Zdc hi
 exact ⟨ho, (fun z e => by
  obtain ⟨v, h1, h2⟩ := nn z e
  rw [hs] at h2
  cases h2
  exact ⟨_, h1, E'.kept i _ YB⟩), havd, a, bs, rows, List.getElem?_set_self hil, M', h0, by rw [eo, es]; exact E'⟩
theorem ER.pinK {k : Nat} {v : V} (E : ER G ow H0 av A σ H δ) (h : σ[k]? = some (some v)) : ER (G.keep k v) ow H0 av A σ H δ := by
 refine ⟨E.same, E.avd, E.fr, E.inj, E.live, E.dom, E.dom', E.len, fun j x e => ?_, fun j w e => ?_, E.var⟩
 · have q : j ≠ k := fun z => by rw [z, YB] at e; cases e
   exact E.pin j x (by rw [Yu q] at e; exact e)
 · by_cases q : j = k
   · subst q
     rw [YB] at e
     cases e
     exact h
   · exact E.kept j w (by rw [Yu q] at e; exact e)
theorem ER.unpin {k : Nat} {v : V} (E : ER (G.keep k v) ow H0 av A σ H δ) (hn : G.2 k = Option.none) : ER G ow H0 av A σ H δ := by
 refine ⟨E.same, E.avd, E.fr, E.inj, E.live, E.dom, E.dom', E.len, fun j x e => ?_, fun j w e => ?_, E.var⟩
 · have q : j ≠ k := fun z => by rw [z, hn] at e; cases e
   exact E.pin j x (by rw [Yu q]; exact e)
 · have q : j ≠ k := fun z => by rw [z, hn] at e; cases e
   exact E.kept j w (by rw [Yu q]; exact e)
def Ve (i k x : Nat) (φ : Env -> Option Out) (δ : Env) : Option Out := match Y7 i k δ, Za k δ with
 | some (.nx δ1), some (.lst r) => match Zt (Zf x) φ r (δ1.set i none) with
  | some (.nx δ2) => match δ2[i]? with
   | some none => some (.nx (δ2.set i ((δ1[i]?).getD none)))
   | _ => none
  | _ => none
 | _, _ => none
theorem ZbG {tb : TS} {φ : Env -> Option Out} (k' x : Nat) (hk : k' ≠ i) (hx : x ≠ i) (hxk : x ≠ k') (hi : ow.contains k' = true) (hn : G.2 k' = none) (hnx : G.2 x = none) (hxo : owN.contains x = false) (h1 : sub owN ow = true) (h2 : owN.contains k' = false) (h3 : sub ow (k' :: owN) = true) (hb : ∀ v w, VS ((G.keep i v).keep k' w) owN owN owN owN tb φ) :
 VM G ow owN owB owC i (Xg (UJ (tBM G.1.K "list" rAppend (Ym i) (Xj (Ym k') tNil))) (V1 (Vp G.1.K (Ym k')) (Yn x) tb)) (Ve i k' x φ) := fun H0 av A σ H δ R o e De k => by
 unfold Ve at e
 split at e
 · rename_i δ1 r e1 e2
   cases hf : Zt (Zf x) φ r (δ1.set i none) with
   | none => rw [hf] at e; cases e
   | some o2 =>
    rw [hf] at e
    cases o2 with
    | rt d => cases e
    | bk d => cases e
    | ct d => cases e
    | nx δ2 =>
     dsimp only at e
     split at e
     · rename_i hi2
       cases e
       have P := Zb0 (owB := []) (owC := []) (owN := owN) k' hk hi hn h1 h2 h3 H0 av A σ H δ R _ e1 { nx := fun σ' H' => ∃ A', MR G owN i H0 av A' σ' H' δ1, rt := fun _ _ => False } (fun A' σ' H' R' => ⟨A', R'⟩)
       obtain ⟨va, hva, hty, vb, hvb, l, xs, y, e3, e4, hl, hlen, A', R'⟩ := P
       refine ⟨va, hva, hty, vb, hvb, l, xs, y, e3, e4, hl, hlen, ?_⟩
       cases e3
       cases e4
       obtain ⟨a, bs, rows, hd, M, h0, E⟩ := R'.ex
       have ea := E.kept i _ YB
       rw [hva] at ea
       cases ea
       have et := M.top
       rw [ZB] at et
       have et := HO.lst.inj (Option.some.inj et)
       have lb : bs.length = xs.length + 1 := by
        have := congrArg List.length et
        rw [List.length_append, List.length_map] at this
        exact this.symm
       have hnl : xs.length < bs.length := by omega
       have hb1 : bs[xs.length]? = some bs[xs.length] := List.getElem?_eq_getElem hnl
       have evb : vb = .ref bs[xs.length] := by
        have := congrArg (fun z : List V => z[xs.length]?) et
        rw [List.getElem?_map, hb1, List.getElem?_append_right (Nat.le_refl _), Nat.sub_self] at this
        exact Option.some.inj this
       have hr1 : rows[xs.length]? = some r := by
        unfold Y7 at e1
        split at e1
        · rename_i ys r' g1 g2
          rw [g2] at e2
          cases e2
          by_cases hz : ys.length < sizeLine /\ r.all Zh = true
          · rw [if_pos hz] at e1
            cases e1
            have hil : i < (δ.set k' none).length := by
             have := (List.getElem?_eq_some_iff.mp hd).1
             rw [List.length_set] at this
             exact this
            rw [List.getElem?_set_self hil] at hd
            have hd := D.lst.inj (Option.some.inj (Option.some.inj hd))
            have ly : ys.length = xs.length := by
             have := congrArg List.length hd
             rw [List.length_append, List.length_map, <- M.len, lb] at this
             simpa using this
            have := congrArg (fun z : List D => z[xs.length]?) hd
            rw [<- ly, List.getElem?_append_right (Nat.le_refl _), Nat.sub_self] at this
            obtain ⟨r2, q1, q2⟩ := ZbY this.symm
            cases q2
            rw [<- ly]
            exact q1
          · rw [if_neg hz] at e1; cases e1
        · cases e1
       subst evb
       have hrow := M.row _ _ _ hb1 hr1
       have hsc : r.all Zh = true := M.sc r (List.mem_of_getElem? hr1)
       have hbF : bs[xs.length] ∈ l :: bs := List.mem_cons_of_mem _ (List.mem_of_getElem? hb1)
       have hkn : (G.keep i (.ref l)).2 k' = none := by rw [Yu hk]; exact hn
       have Ek := E.pinK (k := k') hvb
       have fin : ∀ A4 σ4 H4, ER ((G.keep i (.ref l)).keep k' (.ref bs[xs.length])) owN (ovl H0 (upd H l (.lst (xs ++ [.ref bs[xs.length]]))) (l :: bs)) (avF av (l :: bs)) A4 σ4 H4 δ2 -> De.nx σ4 H4 := fun A4 σ4 H4 E4 => by
        have := Zev R'.nn R'.avd (E.kept i _ YB) M h0 (E4.unpin hkn) hi2 R'.ni
        rw [hd] at k
        exact k A4 σ4 H4 this
       refine ⟨_, hvb, .inl ⟨_, r.map val, rfl, SqL.of hrow, ?_⟩⟩
       refine ⟨fun j m σ' H' => m = r.length - j /\ j <= r.length /\ ∃ A' δ', ER ((G.keep i (.ref l)).keep k' (.ref bs[xs.length])) owN (ovl H0 (upd H l (.lst (xs ++ [.ref bs[xs.length]]))) (l :: bs)) (avF av (l :: bs)) A' σ' H' δ' /\ Zt (Zf x) φ (r.drop j) δ' = some (.nx δ2), ⟨r.length, by simp, Nat.zero_le _, A', _, Ek, hf⟩, ?_⟩
       rintro j m σ' H' ⟨rfl, hle, A2, δ', E', e'⟩
       have hb' : H' bs[xs.length] = some (.lst (r.map val)) := E'.same _ _ (by rw [ZQ hbF]; exact hrow)
       by_cases hlt : j < r.length
       · have hx1 : r[j]? = some r[j] := List.getElem?_eq_getElem hlt
         have hxv : (r.map val)[j]? = some (val r[j]) := by rw [List.getElem?_map, hx1]; rfl
         refine .inr ⟨⟨_, _, SqL.of hb', hxv⟩, fun σ2 H3 => ∃ A' δ', ER ((G.keep i (.ref l)).keep k' (.ref bs[xs.length])) owN (ovl H0 (upd H l (.lst (xs ++ [.ref bs[xs.length]]))) (l :: bs)) (avF av (l :: bs)) A' σ2 H3 δ' /\ Zt (Zf x) φ (r.drop (j + 1)) δ' = some (.nx δ2), fun σ2 H3 ⟨A3, δ3, E3, e3⟩ => ⟨r.length - (j + 1), by omega, rfl, hlt, A3, δ3, E3, e3⟩, fun v H3 y => ?_⟩
         obtain ⟨rfl, y⟩ := y
         have hv := y _ (SqL.of hb')
         rw [hxv] at hv
         cases hv
         have hs := List.all_eq_true.mp hsc r[j] (List.getElem_mem hlt)
         have E2 := E'.set (i := x) (ow1 := owN) (d := r[j]) (.of_val hs) (fun j => by
          have : x ∉ owN := by simpa using hxo
          exact ⟨fun h => ⟨h, fun z => this (z ▸ h)⟩, fun h => h.1⟩) (by rw [Yu hxk, Yu hx]; exact hnx)
         rw [List.drop_eq_getElem_cons hlt] at e'
         unfold Zt at e'
         have e' : (match φ (δ'.set x (some r[j])) with
          | none => none
          | some (.nx δ2) => Zt (Zf x) φ (r.drop (j + 1)) δ2
          | some (.ct δ2) => Zt (Zf x) φ (r.drop (j + 1)) δ2
          | some (.bk δ2) => some (.nx δ2)
          | some (.rt d) => some (.rt d)) = some (.nx δ2) := e'
         cases hφ : φ (δ'.set x (some r[j])) with
         | none => rw [hφ] at e'; cases e'
         | some o1 =>
          rw [hφ] at e'
          refine hb _ _ _ _ _ _ H3 _ E2 o1 hφ _ ?_
          cases o1 with
          | nx δ3 => exact fun A4 σ4 H4 E4 => ⟨A4, δ3, E4, e'⟩
          | ct δ3 => exact fun A4 σ4 H4 E4 => ⟨A4, δ3, E4, e'⟩
          | bk δ3 => cases e'; exact fin
          | rt d => cases e'
       · have ei : j = r.length := by omega
         subst ei
         rw [List.drop_length] at e'
         cases e'
         exact .inl ⟨⟨_, SqL.of hb', by rw [List.length_map]; exact Nat.le_refl _⟩, fin A2 σ' H' E'⟩
     · cases e
 · cases e
end
end DL
namespace DL
open PySem PySem.Spec L2
section
variable {cA : Kn} {G : Cn} {ow owN owB owC ow1 : List Nat} {i : Nat}
def XM (ψ : Env -> Option Out) (δ : Env) : Option Out := match ψ δ with
 | some (.rt d) => some (.rt d)
 | _ => none
theorem Zf2 {u : TS} {ψ : Env -> Option Out} (h : VS G ow ow1 [] [] u ψ) : VM G ow owN owB owC i u (XM ψ) := fun H0 av A σ H δ R o e De k => by
 unfold XM at e
 split at e
 · rename_i d hp
   cases e
   exact h H0 av A σ H δ R.view _ hp De k
 · cases e
def VH (μ : Env -> Option D) (τ : Env -> Option Bool) (n : Nat) (js : List Nat) (δ : Env) : Option D := match μ δ with
 | some (.lst xs) => match Zx (Zf 0) τ (Za 0) (ZW (n + 1) δ js) xs with
  | some (y :: ys) => if xs.length <= sizeLine then some y else none
  | _ => none
 | _ => none
theorem Jk {γ : D -> Env -> Option Env} {τ : Env -> Option Bool} {ε : Env -> Option D} {δ0 : Env} : ∀ {xs ys : List D}, Zx γ τ ε δ0 xs = some ys -> ys.length <= xs.length
 | [], ys, h => by cases h; exact Nat.le_refl _
 | x :: xs, ys, h => by
  unfold Zx at h
  cases hg : γ x δ0 with
  | none => rw [hg] at h; cases h
  | some δ1 =>
   rw [hg] at h
   dsimp only at h
   cases ht : τ δ1 with
   | none => rw [ht] at h; cases h
   | some b =>
    rw [ht] at h
    cases b with
    | false =>
     have := Jk (xs := xs) h
     rw [List.length_cons]; omega
    | true =>
     dsimp only at h
     cases he : ε δ1 with
     | none => rw [he] at h; cases h
     | some y =>
      rw [he] at h
      dsimp only at h
      cases hc : Zx γ τ ε δ0 xs with
      | none => rw [hc] at h; cases h
      | some ys' =>
       rw [hc] at h
       cases h
       have := Jk (xs := xs) hc
       rw [List.length_cons, List.length_cons]; omega
open Classical in
theorem Zew {tm : TE} {tt : TT} {n : Nat} {js : List Nat} {μ : Env -> Option D} {τ : Env -> Option Bool} (hjs : js.all (fun j => !ow.contains j) = true) (hm : VFM G ow tm μ) (ht : VT ⟨G.1, fun _ => none⟩ [] tt τ) :
 VF G ow (tOp (Vr G.1.K) (V9 (Vp G.1.K tm) (Yn 0) tt (Ym 0) (n + 1) js) (tC (.int 0))) (VH μ τ n js) := fun H0 av A σ H δ E d e Q k => by
 unfold VH at e
 split at e
 · rename_i xs hμ
   split at e
   · rename_i y0 ys0 hc
     by_cases hz : xs.length <= sizeLine
     · rw [if_pos hz] at e
       have e : y0 = d := Option.some.inj e
       subst e
       refine hm H0 av A σ H δ E _ hμ _ fun a bs rows H1 s1 hf M hd => ?_
       have hd := D.lst.inj hd
       subst hd
       refine .inl ⟨a, bs.map V.ref, rfl, SqL.of M.top, ?_⟩
       have E1 := E.mono s1
       have len0 : (rows.map D.lst).length = bs.length := by rw [List.length_map, M.len]
       have hfl := Jk hc
       refine ⟨fun i m ys H' => m = bs.length - i /\ i <= bs.length /\ Same H1 H' /\ ys.length <= i /\ ∃ done rest, Zx (Zf 0) τ (Za 0) (ZW (n + 1) δ js) ((rows.map D.lst).drop i) = some rest /\ done ++ rest = y0 :: ys0 /\ ys.length = done.length /\ ∀ (j : Nat) (v : V) (d : D), ys[j]? = some v -> done[j]? = some d -> ∃ (l : Nat) (b : Addr) (r : List D), bs[l]? = some b /\ rows[l]? = some r /\ v = .ref b /\ d = .lst r,
        ⟨bs.length, by simp, Nat.zero_le _, Same.refl _, Nat.le_refl _, [], y0 :: ys0, hc, rfl, rfl, fun j v d h => by simp at h⟩, ?_⟩
       rintro i m ys H' ⟨rfl, hle, s', hyl, done, rest, hr, hfu, hlen, hyd⟩
       have E' := E1.mono s'
       have htop : H' a = some (.lst (bs.map V.ref)) := s' _ _ M.top
       by_cases hlt : i < bs.length
       · have hlr : i < rows.length := by rw [<- M.len]; exact hlt
         have hlm : i < (rows.map D.lst).length := by rw [List.length_map]; exact hlr
         refine .inr ⟨⟨bs.map V.ref, .ref bs[i], SqL.of htop, by rw [List.getElem?_map, List.getElem?_eq_getElem hlt]; rfl⟩, fun v H2 y => ?_⟩
         obtain ⟨rfl, y⟩ := y
         have hv := y _ (SqL.of htop)
         rw [List.getElem?_map, List.getElem?_eq_getElem hlt] at hv
         cases hv
         have M2 : Mx H2 a bs rows := M.mono s'
         have hnav : ∀ x ∈ a :: bs, ¬ AV av A x := fun x hx z => E.avl x z (hf x hx)
         have hrow := M2.row i _ _ (List.getElem?_eq_getElem hlt) (List.getElem?_eq_getElem hlr)
         have hrep : Rep G.1 (AV av A) H2 (.lst rows[i]) (.ref bs[i]) := by
          unfold Rep
          exact ⟨bs[i], rows[i].map val, rfl, fun z => (hnav _ (List.mem_cons_of_mem _ (List.getElem_mem hlt)) z).elim, SqL.of hrow, .of_vals (M.sc _ (List.getElem_mem hlr))⟩
         have EB : ER ⟨G.1, fun _ => none⟩ [] H2 (AV av A) (fun _ => none) (L2.blk (n + 1) σ js) H2 (ZW (n + 1) δ js) := E'.blk (n + 1) js hjs
         have triv : ∀ b, AV (AV av A) (fun _ : Nat => (none : Option Addr)) b -> AV av A b := fun b z => by
          rcases z with z | ⟨j, z⟩
          · exact z
          · cases z
         have E3 := EB.set (i := 0) (ow1 := []) (d := .lst rows[i]) (hrep.av fun b z => .inl (triv b z)) (fun j => ⟨fun z => (nomatch z), fun z => z.1⟩) rfl
         rw [List.drop_eq_getElem_cons hlm, List.getElem_map] at hr
         unfold Zx at hr
         have hr : (match τ ((ZW (n + 1) δ js).set 0 (some (.lst rows[i]))) with
          | none => none
          | some false => Zx (Zf 0) τ (Za 0) (ZW (n + 1) δ js) ((rows.map D.lst).drop (i + 1))
          | some true => match Za 0 ((ZW (n + 1) δ js).set 0 (some (.lst rows[i]))) with
           | none => none
           | some y => match Zx (Zf 0) τ (Za 0) (ZW (n + 1) δ js) ((rows.map D.lst).drop (i + 1)) with
            | none => none
            | some ys => some (y :: ys)) = some rest := hr
         cases hτ : τ ((ZW (n + 1) δ js).set 0 (some (.lst rows[i]))) with
         | none => rw [hτ] at hr; cases hr
         | some c =>
          rw [hτ] at hr
          refine ht _ _ _ _ H2 _ E3 c hτ _ fun H4 s4 => ?_
          cases c with
          | false =>
           dsimp only at hr
           exact Xv ⟨bs.length - (i + 1), by omega, rfl, hlt, s'.trans s4, by omega, done, rest, hr, hfu, hlen, hyd⟩
          | true =>
           dsimp only at hr
           have hv0 : Za 0 ((ZW (n + 1) δ js).set 0 (some (.lst rows[i]))) = some (.lst rows[i]) := rfl
           rw [hv0] at hr
           dsimp only at hr
           cases hr' : Zx (Zf 0) τ (Za 0) (ZW (n + 1) δ js) ((rows.map D.lst).drop (i + 1)) with
           | none => rw [hr'] at hr; cases hr
           | some rest' =>
            rw [hr'] at hr
            have hrr : D.lst rows[i] :: rest' = rest := Option.some.inj hr
            subst hrr
            refine Xw ⟨.ref bs[i], rfl, ?_⟩
            refine ⟨?_, bs.length - (i + 1), by omega, rfl, hlt, s'.trans s4, by rw [List.length_append, List.length_singleton]; omega, done ++ [.lst rows[i]], rest', hr', by rw [List.append_assoc]; exact hfu, by rw [List.length_append, List.length_append, hlen]; rfl, fun j v d h1 h2 => ?_⟩
            · rw [List.length_map] at hz
              have := M.len
              omega
            · by_cases hj : j < ys.length
              · rw [List.getElem?_append_left hj] at h1
                rw [List.getElem?_append_left (by omega)] at h2
                exact hyd j v d h1 h2
              · rw [List.getElem?_append_right (by omega)] at h1
                rw [List.getElem?_append_right (by omega), <- hlen] at h2
                have hj0 : j - ys.length = 0 := by
                 by_cases z : j - ys.length = 0
                 · exact z
                 · rw [List.getElem?_eq_none (by simp; omega)] at h1; cases h1
                rw [hj0] at h1 h2
                cases h1
                cases h2
                exact ⟨i, bs[i], rows[i], List.getElem?_eq_getElem hlt, List.getElem?_eq_getElem hlr, rfl, rfl⟩
       · have ei : i = bs.length := by omega
         subst ei
         rw [<- len0, List.drop_length] at hr
         cases hr
         rw [List.append_nil] at hfu
         subst hfu
         refine .inl ⟨⟨_, SqL.of htop, by rw [List.length_map]; exact Nat.le_refl _⟩, fun p hp => ?_⟩
         obtain ⟨v0, vr, hys⟩ : ∃ v0 vr, ys = v0 :: vr := by
          cases ys with
          | nil => simp at hlen
          | cons v vr => exact ⟨v, vr, rfl⟩
         subst hys
         obtain ⟨l, b, r, hb, hrr, rfl, rfl⟩ := hyd 0 v0 y0 rfl rfl
         have hbm : b ∈ a :: bs := List.mem_cons_of_mem _ (List.mem_of_getElem? hb)
         have hHb : H' b = some (.lst (r.map val)) := s' _ _ (M.row l b r hb hrr)
         have hbp : b ≠ p := fun z => by rw [z, hp] at hHb; cases hHb
         refine .inl ⟨p, .ref b :: vr, 0, .ref b, rfl, rfl, SqL.of ZB, QG (j := 0) rfl, ?_⟩
         have eH : upd (fun x => if x = b then none else upd H' p (.lst (V.ref b :: vr)) x) b (.lst (r.map val)) = upd H' p (.lst (V.ref b :: vr)) := by
          funext x
          by_cases hx : x = b
          · rw [hx, ZB, Zj hbp, hHb]
          · rw [Zj hx, if_neg hx]
         rw [<- eH]
         refine k b (r.map val) r _ (fun x o hx => ?_) (if_pos rfl) (.of_vals (M.sc r (List.mem_of_getElem? hrr))) rfl
         have hxb : x ≠ b := fun z => by rw [z, hf b hbm] at hx; cases hx
         rw [if_neg hxb]
         have h1 := s' _ _ (s1 _ _ hx)
         rw [Zj fun z => by rw [z, hp] at h1; cases h1]
         exact h1
     · rw [if_neg hz] at e; cases e
   · cases e
 · cases e
end
end DL
namespace DL
open PySem PySem.Spec L2
section
variable {G : Cn} {ow ow1 : List Nat}
theorem Zex {tt : TT} {τ : Env -> Option Bool} (i : Nat) (h : VT G ow1 tt τ) (hn : G.2 i = none) (h1 : sub ow1 ow = true) (h2 : ow1.contains i = false) (h3 : sub ow (i :: ow1) = true) : VT G ow tt τ := fun H0 av A σ H δ E b e Q k =>
 h H0 av _ σ H δ (E.freeze i (XE h1 h2 h3) hn) b e Q k
theorem Zey {te : TE} {ε : Env -> Option D} (i : Nat) (h : VF G ow1 te ε) (hn : G.2 i = none) (h1 : sub ow1 ow = true) (h2 : ow1.contains i = false) (h3 : sub ow (i :: ow1) = true) : VF G ow te (Vb ε) := fun H0 av A σ H δ E d e Q k => by
 unfold Vb at e
 split at e
 · rename_i xs hx
   by_cases hs : xs.all Zh = true
   · rw [if_pos hs] at e
     cases e
     refine h H0 av _ σ H δ (E.freeze i (XE h1 h2 h3) hn) _ hx _ fun p vs xs' H1 s hp r hd => ?_
     cases hd
     have ev := r.vals hs
     subst ev
     exact k p _ xs H1 s hp (.of_vals hs) rfl
   · rw [if_neg hs] at e; cases e
 · cases e
end
end DL
namespace L2
open PySem PySem.Spec PyProof.Rows
theorem Uo {x : Str} {c : Addr} : ∀ (names : List (Str × NameKind)) (n : Nat) (acc : List (Str × Addr)), (cellsFrom n names acc).lookup x = some c -> (n <= c /\ (x, NameKind.cell) ∈ names) \/ acc.lookup x = some c
 | [], n, acc, h => .inr h
 | (y, k) :: r, n, acc, h => by
  unfold cellsFrom at h
  by_cases hk : (k == .cell) = true
  · rw [if_pos hk] at h
    have hk' : k = .cell := by simpa using hk
    subst hk'
    rcases Uo r (n + 1) _ h with ⟨h1, h2⟩ | h1
    · exact .inl ⟨by omega, List.mem_cons_of_mem _ h2⟩
    · rw [List.lookup_cons] at h1
      cases hx : x == y with
      | true =>
       rw [hx] at h1
       have e : n = c := Option.some.inj h1
       have e2 : x = y := eq_of_beq hx
       subst e2
       exact .inl ⟨by omega, List.mem_cons_self⟩
      | false => rw [hx] at h1; exact .inr h1
  · rw [if_neg hk] at h
    rcases Uo r n acc h with ⟨h1, h2⟩ | h1
    · exact .inl ⟨h1, List.mem_cons_of_mem _ h2⟩
    · exact .inr h1
theorem Jl {x : Str} {c : Addr} : ∀ (names : List (Str × NameKind)) (n : Nat) (acc : List (Str × Addr)), (x, NameKind.cell) ∈ names -> (cellsFrom n names acc).lookup x = some c -> n <= c
 | (y, k) :: r, n, acc, hm, h => by
  unfold cellsFrom at h
  by_cases hk : (k == .cell) = true
  · rw [if_pos hk] at h
    rcases List.mem_cons.mp hm with e | e
    · cases e
      rcases Uo r (n + 1) _ h with ⟨h1, _⟩ | h1
      · omega
      · rw [List.lookup_cons] at h1
        simp at h1
        exact Nat.le_of_eq h1
    · have := Jl r (n + 1) _ e h
      omega
  · rw [if_neg hk] at h
    rcases List.mem_cons.mp hm with e | e
    · cases e
      exact absurd rfl hk
    · exact Jl r n acc e h
theorem cellsFrom_some {x : Str} : ∀ (names : List (Str × NameKind)) (n : Nat) (acc : List (Str × Addr)), ((x, NameKind.cell) ∈ names \/ ∃ c, acc.lookup x = some c) -> ∃ c, (cellsFrom n names acc).lookup x = some c
 | [], n, acc, h => h.elim (fun z => nomatch z) id
 | (y, k) :: r, n, acc, h => by
  unfold cellsFrom
  by_cases hk : (k == .cell) = true
  · rw [if_pos hk]
    refine cellsFrom_some r (n + 1) _ ?_
    cases hx : x == y with
    | true => exact .inr ⟨n, by rw [List.lookup_cons, hx]⟩
    | false =>
     rcases h with h | ⟨c, h⟩
     · rcases List.mem_cons.mp h with e | e
       · cases e
         simp at hx
       · exact .inl e
     · exact .inr ⟨c, by rw [List.lookup_cons, hx]; exact h⟩
  · rw [if_neg hk]
    refine cellsFrom_some r n acc ?_
    rcases h with h | h
    · rcases List.mem_cons.mp h with e | e
      · cases e
        exact absurd rfl hk
      · exact .inl e
    · exact .inr h
theorem Jm {x : Str} : ∀ (names : List (Str × NameKind)) (n : Nat) (acc : List (Str × Addr)), (x, NameKind.cell) ∉ names -> (cellsFrom n names acc).lookup x = acc.lookup x
 | [], _, _, _ => rfl
 | (y, k) :: r, n, acc, h => by
  unfold cellsFrom
  have hr : (x, NameKind.cell) ∉ r := fun z => h (List.mem_cons_of_mem _ z)
  by_cases hk : (k == .cell) = true
  · rw [if_pos hk, Jm r (n + 1) _ hr, List.lookup_cons]
    have hk' : k = .cell := by simpa using hk
    cases hx : x == y with
    | true =>
     have e2 : x = y := eq_of_beq hx
     exact absurd (by rw [e2, hk']; exact List.mem_cons_self) h
    | false => rfl
  · rw [if_neg hk]
    exact Jm r n acc hr
theorem Jn {x y : Str} {c : Nat} : ∀ (names : List (Str × NameKind)) (n : Nat) (acc : List (Str × Addr)), (∀ (z : Str) (d : Nat), acc.lookup z = some d -> d < n) -> n <= c -> (cellsFrom n names acc).lookup x = some c -> (cellsFrom n names acc).lookup y = some c -> x = y
 | [], n, acc, ha, hn, h1, h2 => by
  have := ha x c h1
  omega
 | (z, k) :: r, n, acc, ha, hn, h1, h2 => by
  unfold cellsFrom at h1 h2
  by_cases hk : (k == .cell) = true
  · rw [if_pos hk] at h1 h2
    by_cases hc : c = n
    · subst hc
      have one : ∀ {w : Str}, (cellsFrom (c + 1) r ((z, c) :: acc)).lookup w = some c -> w = z := fun {w} hw => by
       rcases Uo r (c + 1) _ hw with ⟨q, _⟩ | q
       · omega
       · rw [List.lookup_cons] at q
         cases hx : w == z with
         | true => exact eq_of_beq hx
         | false =>
          rw [hx] at q
          have := ha w c q
          omega
      rw [one h1, one h2]
    · refine Jn r (n + 1) _ (fun w d hw => ?_) (by omega) h1 h2
      rw [List.lookup_cons] at hw
      cases hx : w == z with
      | true => rw [hx] at hw; have e : n = d := Option.some.inj hw; exact Nat.lt_succ_of_le (Nat.le_of_eq e.symm)
      | false => rw [hx] at hw; exact Nat.lt_succ_of_lt (ha w d hw)
  · rw [if_neg hk] at h1 h2
    exact Jn r n acc ha hn h1 h2
theorem Jo {lo : Nat} : ∀ (names : List (Str × NameKind)) (h : Heap) (acc : List (Str × Addr)), (∀ z d, acc.lookup z = some d -> lo <= d -> h.IsCell d none) -> ∀ {x : Str} {c : Addr}, (cellsFrom h.objs.size names acc).lookup x = some c -> lo <= c -> (pushCells h names).IsCell c none
 | [], h, acc, ha, x, c, h1, h2 => ha x c h1 h2
 | (z, k) :: r, h, acc, ha, x, c, h1, h2 => by
  unfold cellsFrom at h1
  unfold pushCells
  by_cases hk : (k == .cell) = true
  · rw [if_pos hk] at h1 ⊢
    have e : h.objs.size + 1 = (h.push { cls := .type "cell", data := .cell none }).objs.size := (Heap.size_push ..).symm
    rw [e] at h1
    refine Jo r _ _ (fun w d hw hd => ?_) h1 h2
    rw [List.lookup_cons] at hw
    cases hx : w == z with
    | true =>
     rw [hx] at hw
     have q : h.objs.size = d := Option.some.inj hw
     rw [<- q]
     exact ⟨_, Heap.get?_push_size _ rfl, rfl⟩
    | false =>
     rw [hx] at hw
     exact (ha w d hw hd).keeps fun b o e => Heap.get?_push_of_some _ e
  · rw [if_neg hk] at h1 ⊢
    exact Jo r h acc ha h1 h2
theorem Zad {M : Model} {A : Around} {E : Value -> Shared -> Prop} {s : Shared} {scope : Scope} {globals : Addr} {closure : List (Str × Addr)} {qual : Str} {func : Option Addr} {code : Value} {outer : Env} {builtins : Addr} {Q : Env -> Shared -> Prop}
 (hQ : Q (newEnv scope s.heap.objs.size globals (cellsFrom (s.heap.objs.size + 1) scope.names closure) qual func code (some outer) builtins) { s with heap := pushCells (s.heap.push { cls := .type "dict", data := .dict #[] }) scope.names }) :
 wpAny M A (newFunctionEnv scope globals closure [] qual func code (some outer) builtins) Q E s := by
 simp only [newFunctionEnv, Option.isSome_some, if_true]
 refine wpAny_bind (wpAny_alloc ?_)
 refine wpAny_bind (wpAny_layCells _ (fun name kind cells => by cases hkc : kind == NameKind.cell <;> simp [hkc]) _ _ _ _ ?_)
 rw [show ({ s with heap := s.heap.push { cls := .type "dict", data := .dict #[] } } : Shared).heap.objs.size = s.heap.objs.size + 1 from Heap.size_push ..]
 simp only [List.forIn_nil]
 exact wpAny_bind (wpAny_pure (wpAny_pure hQ))
structure CompSd (X : Cx) (scope : Scope) (tn cn : List Str) (js : List Nat) : Prop where
 kind : scope.kind = .function
 own : ∀ y ∈ scope.names, y.2 = .cell -> scope.names.lookup y.1 = some .cell
 names : ∀ y ∈ scope.names, y.2 = .local -> scope.names.lookup y.1 = some .local
 free : ∀ y ∈ scope.names, y.2 = .free -> X.env.kindOf y.1 = some .cell \/ X.env.kindOf y.1 = some .free
 cap : ∀ (k : Nat) (x : Str), cn[k]? = some x -> ∃ j, js[k]? = some j /\ X.N[j]? = some x /\ (X.env.kindOf x = some .cell \/ X.env.kindOf x = some .free) /\ scope.names.lookup x = some .free
 len : cn.length = js.length
def Zb8 (onames : List (Str × NameKind)) (oN : List Str) (names : List (Str × NameKind)) (cn : List Str) (js : List Nat) : Bool :=
 names.all (fun y => !(y.2 == .cell) || (names.lookup y.1 == some .cell)) && names.all (fun y => !(y.2 == .local) || (names.lookup y.1 == some .local)) &&
 names.all (fun y => !(y.2 == .free) || (onames.lookup y.1 == some .cell || onames.lookup y.1 == some .free)) &&
 ((cn.zip js).all fun p => oN[p.2]? == some p.1 && (onames.lookup p.1 == some .cell || onames.lookup p.1 == some .free) && names.lookup p.1 == some .free) && (cn.length == js.length)
theorem CompSd.mk' {X : Cx} {scope : Scope} {tn cn : List Str} {js : List Nat} {osc : Scope} {oN : List Str} (hk : scope.kind = .function) (ho : X.env.scope = osc) (hN : X.N = oN) (h : Zb8 osc.names oN scope.names cn js = true) : CompSd X scope tn cn js := by
 unfold Zb8 at h
 simp only [Bool.and_eq_true] at h
 obtain ⟨⟨⟨⟨h1, h2⟩, h3⟩, h4⟩, h5⟩ := h
 rw [List.all_eq_true] at h1 h2 h3 h4
 have hlen : cn.length = js.length := by simpa using h5
 refine ⟨hk, fun y hy e => ?_, fun y hy e => ?_, fun y hy e => ?_, fun k x e => ?_, hlen⟩
 · have := h1 y hy
   simpa [e] using this
 · have := h2 y hy
   simpa [e] using this
 · have := h3 y hy
   unfold Env.kindOf
   rw [ho]
   simpa [e] using this
 · have hkl : k < cn.length := (List.getElem?_eq_some_iff.mp e).1
   have hkj : k < js.length := by omega
   refine ⟨js[k], by simp [hkj], ?_⟩
   have hz : (x, js[k]) ∈ cn.zip js := by
    have e2 : (cn.zip js)[k]? = some (x, js[k]) := by
     rw [List.getElem?_zip_eq_some]
     exact ⟨e, by simp [hkj]⟩
    exact List.mem_of_getElem? e2
   have := h4 _ hz
   unfold Env.kindOf
   rw [ho, hN]
   simp only [Bool.and_eq_true, Bool.or_eq_true, beq_iff_eq] at this
   exact ⟨this.1.1, this.1.2, this.2⟩
def Vf (X : Cx) (scope : Scope) (C : Addr) : List (Str × Addr) := cellsFrom (C + 1) scope.names (Z3 X.env.cells scope.names [])
def VL (X : Cx) (scope : Scope) (N' : List Str) (C : Addr) (s₂ : Shared) (H₂ : Hp) (fp : List Addr) (xe : Value -> Shared -> Prop) : Cx :=
 { X with N := N', s₀ := s₂, H₀ := H₂, env := compEnvC scope (Vf X scope C) C X.env, outer := X.stack, ex := fp, fn := fun x => scope.names.lookup x == some .cell, pn := [], xe := xe }
section
variable {X : Cx} {pins : List (Addr × Obj)} {σ : St} {H₂ : Hp} {s₂ : Shared} {scope : Scope} {tn cn : List Str} {js : List Nat}
theorem CompSd.clos (S : CompSd X scope tn cn js) (ok : X.Ok) : ∀ y ∈ scope.names, y.2 = .free -> ∃ c, X.env.cells.lookup y.1 = some c := fun y hy e => ok.has y.1 (S.free y hy e)
theorem Vg {C : Addr} (S : CompSd X scope tn cn js) (ok : X.Ok) {x : Str} {c : Addr} (h : (Vf X scope C).lookup x = some c) : (C + 1 <= c /\ (x, NameKind.cell) ∈ scope.names) \/ X.env.cells.lookup x = some c := by
 rcases Uo _ _ _ h with q | q
 · exact .inl q
 · exact .inr (Yy _ [] (S.clos ok) (fun _ z => by cases z) q)
theorem Jp {env : Env} : ∀ {names : List (Str × NameKind)} {x : Str} {k : NameKind}, (names.map fun (n, k) => if (k == NameKind.free && env.scope.kind == .function && env.kindOf n == some .cell) then (n, NameKind.cell) else (n, k)).lookup x = some k ->
 (k = .cell \/ k = .free) -> (x, NameKind.free) ∈ names \/ (x, NameKind.cell) ∈ names
 | [], _, _, h, _ => by simp at h
 | (n, k0) :: r, x, k, h, hk => by
  have ih := @Jp env r x k
  have more : ((x, NameKind.free) ∈ r \/ (x, NameKind.cell) ∈ r) -> (x, NameKind.free) ∈ (n, k0) :: r \/ (x, NameKind.cell) ∈ (n, k0) :: r := fun z => z.elim (fun z => .inl (List.mem_cons_of_mem _ z)) fun z => .inr (List.mem_cons_of_mem _ z)
  have h : List.lookup x ((if (k0 == NameKind.free && env.scope.kind == .function && env.kindOf n == some .cell) = true then (n, NameKind.cell) else (n, k0)) :: _) = _ := h
  by_cases hb : (k0 == NameKind.free && env.scope.kind == .function && env.kindOf n == some .cell) = true
  · rw [if_pos hb, List.lookup_cons] at h
    have e0 : k0 = .free := by
     simp only [Bool.and_eq_true] at hb
     simpa using hb.1.1
    cases hx : x == n with
    | true =>
     have e : x = n := eq_of_beq hx
     subst e; subst e0
     exact .inl List.mem_cons_self
    | false =>
     rw [hx] at h
     exact more (ih h hk)
  · rw [if_neg hb, List.lookup_cons] at h
    cases hx : x == n with
    | true =>
     rw [hx] at h
     have e : x = n := eq_of_beq hx
     have e0 : k0 = k := Option.some.inj h
     subst e; subst e0
     rcases hk with hk | hk
     · subst hk; exact .inr List.mem_cons_self
     · subst hk; exact .inl List.mem_cons_self
    | false =>
     rw [hx] at h
     exact more (ih h hk)
theorem Zdd {C : Addr} {fp : List Addr} {xe : Value -> Shared -> Prop} (S : CompSd X scope tn cn js) (I : Inv X pins σ H₂ s₂) (hC : s₂.heap.objs.size <= C) (hf : ∀ b ∈ fp, ZY X pins H₂ b) (ho : ∀ b ∈ fp, ∃ o, s₂.heap.get? b = some o /\ ∀ v, o.data ≠ .cell v) :
 (VL X scope (tn ++ cn) C s₂ H₂ fp xe).Ok where
 mod := I.ok.mod
 kind := S.kind
 glob := I.ok.glob
 blt := I.ok.blt
 above := hC
 inj := fun x y c h1 h2 => by
  have old : ∀ {x : Str} {c : Nat}, X.env.cells.lookup x = some c -> Nat.lt c C := fun {x c} h => by
   obtain ⟨v, o, q, _⟩ := I.cell x c h
   exact Nat.lt_of_lt_of_le (Heap.lt_size q) hC
  rcases Vg S I.ok h1 with ⟨q1, _⟩ | q1
  · exact Jn scope.names (C + 1) _ (fun z d hz => Nat.lt_succ_of_lt (old (Yy _ [] (S.clos I.ok) (fun _ z => by cases z) hz))) q1 h1 h2
  · rcases Vg S I.ok h2 with ⟨q2, _⟩ | q2
    · exact absurd (Nat.lt_of_lt_of_le (Nat.lt_succ_of_lt (old q1)) q2) (Nat.lt_irrefl _)
    · exact I.ok.inj x y c q1 q2
 has := fun x hx => by
  have hm : (x, NameKind.free) ∈ scope.names \/ (x, NameKind.cell) ∈ scope.names := by
   rcases hx with hx | hx
   · exact Jp (env := X.env) (k := .cell) hx (Or.inl (Eq.refl NameKind.cell))
   · exact Jp (env := X.env) (k := .free) hx (Or.inr (Eq.refl NameKind.free))
  refine cellsFrom_some _ _ _ ?_
  rcases hm with hm | hm
  · exact .inr (V6 _ _ (.inl hm))
  · exact .inl hm
 cab := fun x c h1 h2 => by
  have e : scope.names.lookup x = some .cell := by
   have q : (scope.names.lookup x == some .cell) = true := h1
   simpa using q
  exact Nat.le_trans hC (Nat.le_of_succ_le (Jl _ _ _ (PySem.mem_of_lookup e) h2))
 hd := I.ok.hd
 frames := I.ok.frames
 stk := .inl rfl
 exf := fun b hb => by
  obtain ⟨o, e, _⟩ := ho b hb
  obtain ⟨_, _, _, _, f4, _⟩ := hf b hb
  have hbC : b < C := Nat.lt_of_lt_of_le (Heap.lt_size e) hC
  refine ⟨Nat.ne_of_lt hbC, fun x c h => ?_⟩
  rcases Vg S I.ok h with ⟨q, _⟩ | q
  · exact Nat.ne_of_gt (Nat.lt_of_lt_of_le hbC (Nat.le_of_succ_le q))
  · exact f4 x c q
 bs := I.bs
 bsz := Nat.le_trans I.ok.bsz I.sz
 noex := fun b o e hb => by
  obtain ⟨_, _, _, f3, _, _⟩ := hf b hb
  rcases f3 with z | z
  · exact I.ok.noex b o e z
  · exact absurd (Nat.lt_of_lt_of_le (Heap.lt_size (I.ok.bs b o e).1) z) (Nat.lt_irrefl _)
 exfs := fun b hb z => by
  obtain ⟨_, f1, f2, _, _, _⟩ := hf b hb
  exact (List.mem_cons.mp (I.stkSub b z)).elim f1 f2
 funs := I.stack
 frf := I.stkFree
theorem Zap {C : Addr} {fp : List Addr} {s : Shared} {H : Hp} {m : Str -> Option Value} (S : CompSd X scope tn cn js) (I : Inv X pins σ H₂ s₂) (hf : ∀ b ∈ fp, ZY X pins H₂ b)
 (u : Un (frs X.stack) fp H₂ H s₂.heap s.heap) :
 ∀ (i : Nat) (x : Str) (v : V), (tn ++ cn)[i]? = some x -> (blk tn.length σ js)[i]? = some (some v) -> ∃ z, RelV v z /\ Qs (compEnvC scope (Vf X scope C) C X.env) s.heap m x z := by
 intro i x v e1 e2
 unfold blk at e2
 by_cases hi : i < tn.length
 · rw [List.getElem?_append_left (by simpa using hi), List.getElem?_replicate, if_pos hi] at e2
   cases e2
 · have hi' : tn.length <= i := by omega
   rw [List.getElem?_append_right hi'] at e1
   rw [List.getElem?_append_right (by simpa using hi'), List.length_replicate] at e2
   obtain ⟨j, hj, hN, hk, hm⟩ := S.cap _ _ e1
   unfold X5 at e2
   rw [List.getElem?_map, hj] at e2
   have e3 : (σ[j]?).getD none = some v := Option.some.inj e2
   have e4 : σ[j]? = some (some v) := by
    cases q : σ[j]? with
    | none => rw [q] at e3; cases e3
    | some z => rw [q] at e3; exact congrArg some e3
   obtain ⟨m0, _, hl⟩ := I.loc
   have hv : Vis X.env.scope x := by
    rcases hk with hk | hk
    · exact .inr (.inl hk)
    · exact .inr (.inr hk)
   obtain ⟨z, rz, l⟩ := hl j x v hN e4 hv
   refine ⟨z, rz, ?_⟩
   obtain ⟨c, hc, ob, ho, hd⟩ : ∃ c, X.env.cells.lookup x = some c /\ s₂.heap.IsCell c (some z) := by
    rcases l with ⟨k, _⟩ | ⟨_, c, hc, q⟩
    · rcases hk with hk | hk
      · rw [hk] at k; cases k
      · rw [hk] at k; cases k
    · exact ⟨c, hc, q⟩
   have hnc : (x, NameKind.cell) ∉ scope.names := fun z => by
    have q := S.own _ z rfl
    have q : scope.names.lookup x = some .cell := q
    rw [hm] at q
    cases q
   obtain ⟨c', hc'⟩ := V6 (cells := X.env.cells) (x := x) scope.names [] (.inl (PySem.mem_of_lookup hm))
   have hcY : (Vf X scope C).lookup x = some c' := (Jm _ _ _ hnc).trans hc'
   have ec : c' = c := by
    have := Yy _ [] (S.clos I.ok) (fun _ z => by cases z) hc'
    rw [hc] at this
    exact (Option.some.inj this).symm
   subst ec
   have nf : c' ∉ fp := fun hb => (hf c' hb).2.2.2.2.1 x c' hc rfl
   obtain ⟨sl, q⟩ := u.any ho (I.freeC x c' hc) nf
   exact .inr ⟨QN hm, c', hcY, ⟨_, q, hd⟩⟩
theorem Zbj (S : CompSd X scope tn cn js) : (blk tn.length σ js).length = (tn ++ cn).length := by
 unfold blk X5
 rw [List.length_append, List.length_append, List.length_replicate, List.length_map, S.len]
theorem ZaY {C : Addr} {fp : List Addr} {xe : Value -> Shared -> Prop} {s : Shared} {H : Hp} {σ' : St} {pins' : List (Addr × Obj)} (S : CompSd X scope tn cn js) (I : Inv X pins σ H₂ s₂) (hf : ∀ b ∈ fp, ZY X pins H₂ b)
 (I' : Inv (VL X scope (tn ++ cn) C s₂ H₂ fp xe) pins' σ' H s) : Inv (VL X scope (tn ++ cn) C s₂ H₂ fp xe) pins' (blk tn.length σ js) H s := by
 obtain ⟨m, hn, _⟩ := id I'.loc
 exact ⟨I'.ok, I'.os, I'.bare, I'.base, ⟨m, hn, fun i x v e1 e2 _ => Zap S I hf I'.base i x v e1 e2⟩, I'.cell, I'.free, I'.freeC, I'.pin, I'.hok, Zbj S⟩
theorem ZaZ {C D : Addr} {fp : List Addr} {xe : Value -> Shared -> Prop} {h : Heap} {tk : Nat} {ob : Obj} {m : Str -> Option Value} (S : CompSd X scope tn cn js) (I : Inv X pins σ H₂ s₂) (hC : s₂.heap.objs.size <= C) (hD : s₂.heap.objs.size <= D) (hDC : D ≠ C)
 (hf : ∀ b ∈ fp, ZY X pins H₂ b) (ho : ∀ b ∈ fp, ∃ o, s₂.heap.get? b = some o /\ ∀ v, o.data ≠ .cell v) (k : ∀ b o, s₂.heap.get? b = some o -> h.get? b = some o) (hn : h.Ns C m) (hob : h.get? D = some ob) (hcell : ∀ v, ob.data ≠ .cell v) (hcs : ∀ x c, (Vf X scope C).lookup x = some c -> C + 1 <= c -> h.IsCell c none) :
 Inv (VL X scope (tn ++ cn) C s₂ H₂ fp xe) [(D, ob)] (blk tn.length σ js) H₂ { s₂ with heap := h, toks := tk } := by
 have ok := Zdd (xe := xe) S I hC hf ho
 have u : Un (frs X.stack) fp H₂ H₂ s₂.heap h := Un.kept k
 refine ⟨ok, rfl, I.bare, u, ⟨m, hn, fun i x v e1 e2 _ => Zap (s := { s₂ with heap := h, toks := tk }) S I hf u i x v e1 e2⟩, fun x c e => ?_, I.hok.fresh hC, fun x c e => ?_, fun p hp => ?_, I.hok.kept k, Zbj S⟩
 · rcases Vg S I.ok e with ⟨z, _⟩ | z
   · exact ⟨none, hcs x c e z⟩
   · obtain ⟨v, o, q, d⟩ := I.cell x c z
     exact ⟨v, o, k c o q, d⟩
 · rcases Vg S I.ok e with ⟨z, _⟩ | z
   · exact I.hok.fresh (Nat.le_trans hC (Nat.le_of_succ_le z))
   · exact I.freeC x c z
 · have e : p = (D, ob) := by
    have : p ∈ ([] : List (Addr × Obj)) ++ [(D, ob)] := hp
    simpa using this
   subst e
   refine ⟨hob, I.hok.fresh hD, hDC, fun z => ?_, hcell⟩
   have z : D ∈ frs X.stack := z
   rcases List.mem_cons.mp (I.stkSub D z) with e | e
   · exact absurd (Nat.lt_of_lt_of_le I.lt (by rw [<- e]; exact hD)) (Nat.lt_irrefl _)
   · exact I.nofs hD e
theorem ZcN {C D : Addr} {fp : List Addr} {xe : Value -> Shared -> Prop} {s : Shared} {H : Hp} {σ' : St} {ys : List V} {its : List Value} {n : Nat} {h' : Heap} (S : CompSd X scope tn cn js) (I : Inv X pins σ H₂ s₂) (hC : s₂.heap.objs.size <= C) (hD : s₂.heap.objs.size <= D) (hDC : D ≠ C)
 (hf : ∀ b ∈ fp, ZY X pins H₂ b) (I' : Inv (VL X scope (tn ++ cn) C s₂ H₂ fp xe) [(D, { cls := .type "list", data := .seq its.toArray n })] σ' H s) (hv : Vals ys its) (hz : ys.length <= sizeLine) (hs : Heap.SameBut C s.heap h') :
 Inv X pins σ (upd H D (.lst ys)) { s with heap := h' } := by
 have pd := I'.pin (D, { cls := .type "list", data := .seq its.toArray n }) (List.mem_append_right _ List.mem_cons_self)
 have pd1 : s.heap.get? D = some { cls := .type "list", data := .seq its.toArray n } := pd.1
 have pd2 : H D = none := pd.2.1
 have hD' : h'.get? D = some { cls := .type "list", data := .seq its.toArray n } := (hs.2 D hDC).trans pd1
 have hCf : H C = none := I'.free
 have old : ∀ b o, s₂.heap.get? b = some o -> b ≠ C /\ b ≠ D := fun b o e => ⟨Nat.ne_of_lt (Nat.lt_of_lt_of_le (Heap.lt_size e) hC), Nat.ne_of_lt (Nat.lt_of_lt_of_le (Heap.lt_size e) hD)⟩
 have u := I'.base
 have u : Un (frs X.stack) fp H₂ H s₂.heap s.heap := u
 refine I.call' (s' := { s with heap := h' }) (ch := fp) (H' := upd H D (.lst ys)) I'.os ⟨fun b o e n hb hx => ?_, fun b o e n hb hx => ?_, fun b o e n hx => ?_, fun b o e hx => ?_, fun b xs e => ?_, fun b o xs e => ?_, fun b ps e => ?_⟩ (fun b o e => ?_) I'.bare (fun b hb => ?_)
 · exact (hs.2 b (old b o e).1).trans (u.keep b o e n hb hx)
 · obtain ⟨sl, q⟩ := u.slot b o e n hb hx
   exact ⟨sl, (hs.2 b (old b o e).1).trans q⟩
 · rw [Zj (old b o e).2]
   exact u.free b o e n hx
 · obtain ⟨o', q⟩ := u.there b o e hx
   exact ⟨o', (hs.2 b (old b o e).1).trans q⟩
 · have q := u.tups b xs e
   rw [Zj (ZR q pd2)]
   exact q
 · have q := u.frzs b o xs e
   rw [Zj (ZR q pd2)]
   exact q
 · obtain ⟨more, q⟩ := u.tbls b ps e
   exact ⟨more, by rw [Zj (ZR q pd2)]; exact q⟩
 · by_cases hb : b = D
   · subst hb
     rw [ZB] at e
     cases e
     exact ⟨hz, its, n, hv, hD'⟩
   · rw [Zj hb] at e
     refine (I'.hok b o e).stay (fun c v hc q => (hs.2 c ?_).trans q) (fun c q => by rw [Zj (ZR q pd2)]; exact q) fun c xs q => by rw [Zj (ZR q pd2)]; exact q
     rintro rfl
     rcases hc with rfl | hc
     · rw [hCf] at e; cases e
     · rw [hCf] at hc; cases hc
 · obtain ⟨f0, f1, f2, f3, f4, f5⟩ := hf b hb
   exact ⟨f3, f1, f4, f5⟩
end
section
variable {X : Cx} {tg iter elt : Expr} {ifs : List Expr} {scope : Scope} {pos : Pos} {wi : TI} {g : TG} {tt : TT} {te : TE} {tn cn : List Str} {js : List Nat}
abbrev Y8 (X : Cx) (scope : Scope) (N' : List Str) (C : Addr) (s₂ : Shared) (H₂ : Hp) (fp : List Addr) : Cx := VL X scope N' C s₂ H₂ fp fun _ _ => False
theorem Za0 {pins : List (Addr × Obj)} {σ : St} {H₂ : Hp} {s₂ : Shared} {it : Addr} {fp : List Addr} {tnx : Nat -> Heap -> Prop} {J : It} {E : Value -> Shared -> Prop} {RR : Value -> Addr -> Result -> Shared -> Prop} {W : Nat -> Nat -> List V -> Hp -> Prop} {m0 : Nat}
 (hc : X.calm = true) (S : CompSd X scope tn cn js)
 (hg : ∀ C s₂ H₂ fp, PG (Y8 X scope (tn ++ cn) C s₂ H₂ fp) tg g) (ht : ∀ C s₂ H₂ fp, PTs (Y8 X scope (tn ++ cn) C s₂ H₂ fp) ifs tt) (he : ∀ C s₂ H₂ fp, PE (Y8 X scope (tn ++ cn) C s₂ H₂ fp) elt te)
 (I2 : Inv X pins σ H₂ s₂) (T : Turn X.prog X.w X.K tg J fp it tnx) (st2 : tnx 0 s₂.heap) (f2 : ∀ b ∈ fp, ZY X pins H₂ b) (w0 : W 0 m0 [] H₂)
 (turn : ∀ i m ys H, W i m ys H -> (J.stop i H /\ ∀ C D s its n σ', s₂.heap.objs.size <= C -> s₂.heap.objs.size <= D -> D ≠ C -> Vals ys its -> ys.length <= sizeLine ->
   Inv (Y8 X scope (tn ++ cn) C s₂ H₂ fp) [(D, { cls := .type "list", data := .seq its.toArray n })] σ' H s -> RR (.ref D) C (.ok .next) s) \/
   (J.go i H /\ ∀ x H', J.yld i H x H' -> g x (blk tn.length σ js) H' fun σ2 H2 => tt σ2 H2 fun b H3 =>
     if b = true then te σ2 H3 fun y H4 => ys.length < sizeLine /\ ∃ m', m' < m /\ W (i + 1) m' (ys ++ [y]) H4 else ∃ m', m' < m /\ W (i + 1) m' ys H3)) :
 wpAny (model X.prog X.w) X.A (newList []) (fun acc s₃ => wpAny (model X.prog X.w) X.A (newFunctionEnv scope X.env.globals (Z3 X.env.cells scope.names []) [] X.env.qual none .none (some X.env)) (fun cenv s₄ =>
  codeAny (model X.prog X.w) X.A (.compStart (.ListComp elt [⟨tg, iter, ifs, 0⟩] scope pos) 0 (.ref it) acc { cenv with scope := relabel scope X.env }) (RR acc cenv.locals) s₄) E s₃) E s₂ := by
 refine wpAny_newObj_type (Zad ?_)
 dsimp only
 generalize hH2 : s₂.heap.push { cls := .type "list", dict := none, data := .seq ([] : List Value).toArray } = HH
 have hCs : HH.objs.size = s₂.heap.objs.size + 1 := by rw [<- hH2, Heap.size_push]
 have hDC : s₂.heap.objs.size ≠ HH.objs.size := by rw [hCs]; exact Nat.ne_of_lt (Nat.lt_succ_self _)
 have hC : s₂.heap.objs.size <= HH.objs.size := by rw [hCs]; exact Nat.le_succ _
 have hD : s₂.heap.objs.size <= s₂.heap.objs.size := Nat.le_refl _
 have hHe : HH.objs.size + 1 = (HH.push { cls := .type "dict", data := .dict #[] }).objs.size := (Heap.size_push ..).symm
 have hcs : ∀ x c, (Vf X scope HH.objs.size).lookup x = some c -> HH.objs.size + 1 <= c -> (pushCells (HH.push { cls := .type "dict", data := .dict #[] }) scope.names).IsCell c none := fun x c hx hc => by
  unfold Vf at hx
  rw [hHe] at hx
  refine Jo (lo := HH.objs.size + 1) _ _ _ (fun z d hz hd => ?_) hx hc
  obtain ⟨v, o, q, _⟩ := I2.cell z d (Yy _ [] (S.clos I2.ok) (fun _ z => by cases z) hz)
  exact absurd (Nat.lt_of_lt_of_le (Nat.lt_of_lt_of_le (Heap.lt_size q) hC) (Nat.le_of_succ_le hd)) (Nat.lt_irrefl _)
 have hns₁ : (pushCells (HH.push { cls := .type "dict", data := .dict #[] }) scope.names).Ns HH.objs.size (fun _ => none) := (Heap.Ns.new HH (.type "dict")).keeps (pushCells_keeps _ _)
 generalize hh1 : pushCells (HH.push { cls := .type "dict", data := .dict #[] }) scope.names = h₁ at hcs hns₁ ⊢
 have old : ∀ b o, s₂.heap.get? b = some o -> h₁.get? b = some o := fun b o e => by
  rw [<- hh1]
  exact pushCells_keeps _ _ b o (Heap.get?_push_of_some _ (hH2 ▸ Heap.get?_push_of_some _ e))
 have hacc : h₁.get? s₂.heap.objs.size = some { cls := .type "list", dict := none, data := .seq ([] : List Value).toArray } := by
  rw [<- hh1]
  exact pushCells_keeps _ _ _ _ (Heap.get?_push_of_some _ (hH2 ▸ Heap.get?_push_size _ rfl))
 have hob := T.obj _ _ st2
 have I3 : Inv (Y8 X scope (tn ++ cn) HH.objs.size s₂ H₂ fp) [(s₂.heap.objs.size, { cls := .type "list", dict := none, data := .seq ([] : List Value).toArray })] (blk tn.length σ js) H₂ { s₂ with heap := h₁ } :=
  ZaZ (tk := s₂.toks) S I2 hC hD hDC f2 hob old hns₁ hacc (fun v z => by cases z) hcs
 have st3 : tnx 0 h₁ := T.keep _ _ _ st2 fun b hb o e => old b o e
 generalize hX' : Y8 X scope (tn ++ cn) HH.objs.size s₂ H₂ fp = X' at I3
 generalize hs3 : ({ s₂ with heap := h₁ } : Shared) = s3 at I3 ⊢
 have st3' : tnx 0 s3.heap := by rw [<- hs3]; exact st3
 have stat : ∀ {pins' : List (Addr × Obj)} {H' : Hp}, (∀ b ∈ fp, H' b = none) -> (∀ p ∈ pins', p.1 = s₂.heap.objs.size) -> ∀ b ∈ fp, ZY X' pins' H' b := fun {pins' H'} hn hp b hb => by
  subst hX'
  obtain ⟨o, e, _⟩ := hob b hb
  obtain ⟨f0, f1, f2', f3, f4, f5⟩ := f2 b hb
  refine ⟨hn b hb, Nat.ne_of_lt (Nat.lt_of_lt_of_le (Heap.lt_size e) hC), fun z => (List.mem_cons.mp (I2.stkSub b z)).elim f1 f2', .inl hb, fun x c h => ?_, fun p hpp => ?_⟩
  · rcases Vg S I2.ok h with ⟨q, _⟩ | q
    · exact Nat.ne_of_gt (Nat.lt_of_lt_of_le (Nat.lt_of_lt_of_le (Heap.lt_size e) hC) (Nat.le_of_succ_le q))
    · exact f4 x c q
  have : p ∈ pins' := by
   have q : p ∈ ([] : List (Addr × Obj)) ++ pins' := hpp
   simpa using q
  rw [hp p this]
  exact Nat.ne_of_gt (Heap.lt_size e)
 have loop : codeAny (model X.prog X.w) X.A (.compLoop (.ListComp elt [⟨tg, iter, ifs, 0⟩] scope pos) 0 (.ref it) (.ref s₂.heap.objs.size) X'.env) (RR (.ref s₂.heap.objs.size) HH.objs.size) s3 := by
  refine Zac (fun k s' => ∃ i ys its n H', Inv X' [(s₂.heap.objs.size, { cls := .type "list", data := .seq its n })] (blk tn.length σ js) H' s' /\ Vals ys its.toList /\ ys.length <= sizeLine /\ tnx i s'.heap /\ (∀ b ∈ fp, H' b = none) /\ W i k ys H') ?_ m0
   ⟨0, [], #[], 0, H₂, I3, .nil, Nat.zero_le _, st3', fun b hb => (f2 b hb).1, w0⟩
  rintro k s4 ⟨i, ys, its, n, H4, I4, hv4, hz4, st4, fr4, w4⟩
  have eP : X'.prog = X.prog := by rw [<- hX']; rfl
  have eW : X'.w = X.w := by rw [<- hX']; rfl
  have eK : X'.K = X.K := by rw [<- hX']; rfl
  have eA : X'.A = X.A := by rw [<- hX']; rfl
  have eC : X'.calm = true := by rw [<- hX']; exact hc
  have eE : X'.xe = fun _ _ => False := by rw [<- hX']; rfl
  rcases turn i k ys H4 w4 with ⟨stop, qn⟩ | ⟨go, step⟩
  · have z := T.done X' eP eW eK eC i _ s4 (blk tn.length σ js) H4 (fun _ _ => False) I4 (stat fr4 (fun p hp => by simp at hp; rw [hp])) st4 stop
    rw [eA] at z
    refine YF (thn z fun r s5 ⟨hr, I5⟩ => ?_)
    subst hr
    subst hX'
    exact qn _ _ s5 its.toList n _ hC hD hDC hv4 hz4 (by simpa using I5)
  · have z := T.item X' eP eW eK eC i _ s4 (blk tn.length σ js) H4 (fun _ _ => False) I4 (stat fr4 (fun p hp => by simp at hp; rw [hp])) st4 go
    rw [eA] at z
    refine YF (thn z fun r s5 ⟨u, hr, h5⟩ => ?_)
    subst hr
    refine YF (thn h5 fun _ s6 ⟨x, H6, I6, r6, y6, st6, fr6⟩ => ?_)
    have I6' := I6.pinned (stat fr6 (fun p hp => by simp at hp; rw [hp])) (T.obj _ _ st6)
    have hg' : PG X' tg g := by rw [<- hX']; exact hg _ _ _ _
    have ht' : PTs X' ifs tt := by rw [<- hX']; exact ht _ _ _ _
    have he' : PE X' elt te := by rw [<- hX']; exact he _ _ _ _
    have z7 := hg' _ s6 _ H6 x u _ I6' r6 (step x H6 y6)
    rw [eP, eW, eA, eE] at z7
    refine YF (thn z7 fun _ s7 ⟨σ7, H7, I7, q7⟩ => ?_)
    have z8 := ht' _ s7 σ7 H7 _ I7 q7
    rw [eP, eW, eA, eE] at z8
    refine YF (thn z8 fun ok s8 ⟨H8, I8, q8⟩ => ?_)
    have key : ∀ {σ9 : St} {H9 : Hp} {s9 : Shared} {its' : Array Value} {n' : Nat}, Inv X' ([(s₂.heap.objs.size, { cls := .type "list", data := .seq its' n' })] ++ Yg fp s6.heap) σ9 H9 s9 ->
     Inv X' [(s₂.heap.objs.size, { cls := .type "list", data := .seq its' n' })] (blk tn.length σ js) H9 s9 /\ tnx (i + 1) s9.heap /\ ∀ b ∈ fp, H9 b = none := fun {σ9 H9 s9 its' n'} I9 => by
     refine ⟨?_, T.keep _ _ _ st6 fun b hb o e => (I9.pin (b, o) (List.mem_append_right _ (List.mem_append_right _ (Vj hb e)))).1, fun b hb => ?_⟩
     · have I9' := I9.unpinned
       subst hX'
       exact ZaY S I2 f2 I9'
     · obtain ⟨o, e, d⟩ := T.obj _ _ st6 b hb
       exact (I9.pin (b, o) (List.mem_append_right _ (List.mem_append_right _ (Vj hb e)))).2.1
    cases ok with
    | false =>
     rw [if_neg Bool.false_ne_true] at q8 ⊢
     obtain ⟨m', hm, w8⟩ := q8
     obtain ⟨I9, st9, fr9⟩ := key I8
     exact ⟨m', hm, i + 1, ys, its, n, H8, I9, hv4, hz4, st9, fr9, w8⟩
    | true =>
     rw [if_pos rfl] at q8 ⊢
     have z9 := he' _ s8 σ7 H8 _ I8 q8
     rw [eP, eW, eA, eE] at z9
     refine YF (thn z9 fun v s9 ⟨y, H9, I9, r9, hl9, m', hm, w9⟩ => ?_)
     have pd := I9.pin (s₂.heap.objs.size, { cls := .type "list", data := .seq its n }) (List.mem_append_right _ (List.mem_append_left _ List.mem_cons_self))
     have hpl : s9.heap.PlainList s₂.heap.objs.size its := ⟨n, pd.1⟩
     have hlen : its.size = ys.length := by rw [hv4.length]; simp
     refine wpAny_list_append_plain (hsz := by omega) hpl fun h10 hl10 hs10 => ?_
     obtain ⟨n10, e10⟩ := hl10
     have I10 : Inv X' (Yg fp s6.heap) σ7 H9 s9 := I9.pins_of fun p hp => I9.pin p (List.mem_append_right _ (List.mem_append_right _ hp))
     have nD : ∀ b ∈ fp, b ≠ s₂.heap.objs.size := fun b hb => by
      obtain ⟨o, e, _⟩ := hob b hb
      exact Nat.ne_of_lt (Heap.lt_size e)
     have I11 : Inv X' (Yg fp s6.heap) σ7 H9 { s9 with heap := h10 } := by
      refine I10.turned (t' := s9.toks) (it := s₂.heap.objs.size) (fun b o hb e => (hs10.2 b hb).trans e) pd.2.1 pd.2.2.1 ?_ ?_ ?_
      · subst hX'; exact .inr (Nat.le_refl _)
      · subst hX'
        intro x c h
        rcases Vg S I2.ok h with ⟨z, _⟩ | z
        · exact Nat.ne_of_gt (Nat.lt_of_lt_of_le (Nat.lt_of_lt_of_le (Nat.lt_succ_self _) (Nat.le_of_eq hCs.symm)) (Nat.le_of_succ_le z))
        · obtain ⟨v', o', q, _⟩ := I2.cell x c z
          exact Nat.ne_of_lt (Heap.lt_size q)
      · intro p hp
        have hp' : p ∈ Yg fp s6.heap := by
         subst hX'
         have q : p ∈ ([] : List (Addr × Obj)) ++ Yg fp s6.heap := hp
         simpa using q
        exact nD _ (QA hp').1
     have I12 : Inv X' ([(s₂.heap.objs.size, { cls := .type "list", data := .seq (its.push v) n10 })] ++ Yg fp s6.heap) σ7 H9 { s9 with heap := h10 } := I11.pins_of fun p hp => by
      rcases List.mem_append.mp hp with q | q
      · have e : p = (s₂.heap.objs.size, { cls := .type "list", data := .seq (its.push v) n10 }) := by simpa using q
        subst e
        exact ⟨e10, pd.2.1, pd.2.2.1, pd.2.2.2.1, fun v z => by cases z⟩
      · exact I11.pin p (List.mem_append_right _ q)
     obtain ⟨J1, J2, J3⟩ := key I12
     refine ⟨m', hm, i + 1, ys ++ [y], its.push v, n10, H9, J1, ?_, ?_, J2, J3, w9⟩
     · have : (its.push v).toList = its.toList ++ [v] := by simp
       rw [this]
       exact hv4.append (.cons r9 .nil)
     · rw [List.length_append, List.length_singleton]
       omega
 have eEnv : ({ newEnv scope HH.objs.size X.env.globals (cellsFrom (HH.objs.size + 1) scope.names (Z3 X.env.cells scope.names [])) X.env.qual none .none (some X.env) builtinsNs with scope := relabel scope X.env } : Env) = X'.env := by rw [<- hX']; rfl
 have loop2 := loop
 rw [<- eEnv] at loop loop2
 exact codeAny_compStart_list loop (T.self X.A 0 s3 _ _ st3' loop2)
theorem Zde (hc : X.calm = true) (S : CompSd X scope tn cn js) (hi : PI X tg iter wi)
 (hg : ∀ C s₂ H₂ fp, PG (Y8 X scope (tn ++ cn) C s₂ H₂ fp) tg g) (ht : ∀ C s₂ H₂ fp, PTs (Y8 X scope (tn ++ cn) C s₂ H₂ fp) ifs tt) (he : ∀ C s₂ H₂ fp, PE (Y8 X scope (tn ++ cn) C s₂ H₂ fp) elt te)
 (hs : ∀ x, foldedSetIterable iter X.env x = pure x := by intro _; rfl) :
 PE X (.ListComp elt [⟨tg, iter, ifs, 0⟩] scope pos) (V9 wi g tt te tn.length js) := by
 intro pins s σ H Q I h
 rw [eval_ListComp]
 refine wpAny_comprehension_free (use := none) (cl := Z3 X.env.cells scope.names []) rfl hs (QL (S.clos I.ok)) S.kind S.names (thn (hi pins s σ H _ I h) fun v s1 h1 => thn h1 fun itv s2 h2 => ?_)
 obtain ⟨it, fp, tnx, J, H2, e, I2, T, st2, f2, W, ⟨m0, w0⟩, turn⟩ := h2
 subst e
 refine Za0 (RR := fun acc C => compPost (model X.prog X.w) X.A X.xe none (EP X pins σ Q) acc C) (W := W) (m0 := m0) hc S hg ht he I2 T st2 f2 w0 fun i m ys H w => ?_
 rcases turn i m ys H w with ⟨stop, qn⟩ | r
 · refine .inl ⟨stop, fun C D s its n σ' hC hD hDC hv hz I' => ?_⟩
   obtain ⟨m', hn, _⟩ := id I'.loc
   refine ⟨m', hn, fun h' hs' => ?_⟩
   have pd := I'.pin (D, { cls := .type "list", data := .seq its.toArray n }) (List.mem_append_right _ List.mem_cons_self)
   exact ⟨.ref D, _, ZcN S I2 hC hD hDC f2 I' hv hz hs', rfl, qn D pd.2.1⟩
 · exact .inr r
end
theorem CompSc.mk6 {X0 : Cx} {scope0 scope : Scope} {N' : List Str} {C : Addr} {s₂ : Shared} {H₂ : Hp} {fp : List Addr} {tn cn : List Str} {js : List Nat} (hk : scope.kind = .function) (h : UP scope0.names N' scope.names cn js = true) : CompSc (Y8 X0 scope0 N' C s₂ H₂ fp) scope tn cn js := by
 unfold UP at h
 simp only [Bool.and_eq_true] at h
 obtain ⟨⟨⟨⟨h1, h2⟩, h3⟩, h4⟩, h5⟩ := h
 rw [List.all_eq_true] at h1 h2 h3 h4
 have hlen : cn.length = js.length := by simpa using h5
 refine ⟨hk, fun y hy => ?_, fun y hy e => ?_, fun y hy e => ?_, fun k x e => ?_, hlen⟩
 · have := h1 y hy
   simpa using this
 · have := h2 y hy
   simpa [e] using this
 · have := h3 y hy
   exact Jh (env := X0.env) (by simpa [e] using this)
 · have hkl : k < cn.length := (List.getElem?_eq_some_iff.mp e).1
   have hkj : k < js.length := by omega
   refine ⟨js[k], by simp [hkj], ?_⟩
   have hz : (x, js[k]) ∈ cn.zip js := by
    have e2 : (cn.zip js)[k]? = some (x, js[k]) := by
     rw [List.getElem?_zip_eq_some]
     exact ⟨e, by simp [hkj]⟩
    exact List.mem_of_getElem? e2
   have := h4 _ hz
   simp only [Bool.and_eq_true, Bool.or_eq_true, beq_iff_eq] at this
   exact ⟨this.1.1, Jh (env := X0.env) this.1.2, this.2⟩
end L2
namespace DL
open PySem PySem.Spec L2
theorem Up (i j : Int) : eqD (.int i) (.int j) = some (.bl (decide (i = j))) := by
 show (if (Zh (.int i) && Zh (.int j) && scal (V.int i) (V.int j)) = true then some (D.bl (decide (V.int i = V.int j))) else _) = _
 rw [if_pos (by rfl)]
 simp
theorem Jq (a b : List Nat) : eqD (.str a) (.str b) = some (.bl (decide (a = b))) := by
 show (if (Zh (.str a) && Zh (.str b) && scal (S a) (S b)) = true then some (D.bl (decide (S a = S b))) else _) = _
 rw [if_pos (by rfl)]
 simp only [Zgm]
theorem Zb9 (a b : Bool) : eqD (.bl a) (.bl b) = some (.bl (decide (a = b))) := by
 show (if (Zh (.bl a) && Zh (.bl b) && scal (V.bl a) (V.bl b)) = true then some (D.bl (decide (V.bl a = V.bl b))) else _) = _
 rw [if_pos (by rfl)]
 simp
theorem Jr : eqD .non .non = some (.bl true) := rfl
theorem Js (i : Int) : eqD .non (.int i) = some (.bl false) := by
 show (if (Zh .non && Zh (.int i) && scal V.non (V.int i)) = true then some (D.bl (decide (V.non = V.int i))) else _) = _
 rw [if_pos (by rfl)]
 simp
theorem Jt (i : Int) : eqD (.int i) .non = some (.bl false) := by
 show (if (Zh (.int i) && Zh .non && scal (V.int i) V.non) = true then some (D.bl (decide (V.int i = V.non))) else _) = _
 rw [if_pos (by rfl)]
 simp
theorem Ju (i j : Int) : neD (.int i) (.int j) = some (.bl (!decide (i = j))) := by unfold neD; rw [Up]
theorem Zca (i j : List Nat) : neD (.str i) (.str j) = some (.bl (!decide (i = j))) := by unfold neD; rw [Jq]
theorem ZdF : neD .non .non = some (.bl false) := by unfold neD; rw [Jr]; rfl
theorem ZdG (i : Int) : neD .non (.int i) = some (.bl true) := by unfold neD; rw [Js]; rfl
theorem ZdH (i : Int) : neD (.int i) .non = some (.bl true) := by unfold neD; rw [Jt]; rfl
theorem Uq {γ : D -> Env -> Option Env} {φ : Env -> Option Out} (I : Nat -> Env -> Prop) : ∀ (xs : List D) (k : Nat) (δ : Env), I k δ ->
 (∀ (j : Nat) x δ, xs[j]? = some x -> I (k + j) δ -> ∃ δ1, γ x δ = some δ1 /\ ∃ δ2, φ δ1 = some (.nx δ2) /\ I (k + j + 1) δ2) -> ∃ δ', Zt γ φ xs δ = some (.nx δ') /\ I (k + xs.length) δ'
 | [], k, δ, h, _ => ⟨δ, rfl, h⟩
 | x :: xs, k, δ, h, step => by
  obtain ⟨δ1, h1, δ2, h2, h3⟩ := step 0 x δ rfl h
  obtain ⟨δ', h4, h5⟩ := Uq I xs (k + 1) δ2 h3 fun j y δ hy hI => by
   have := step (j + 1) y δ (by simpa using hy) (by rwa [show k + (j + 1) = k + 1 + j by omega])
   rwa [show k + (j + 1) + 1 = k + 1 + j + 1 by omega] at this
  refine ⟨δ', ?_, by rwa [List.length_cons, show k + (xs.length + 1) = k + 1 + xs.length by omega]⟩
  unfold Zt
  rw [h1]
  dsimp only
  rw [h2]
  exact h4
theorem Qb (lo c : Int) (n : Nat) : (ZM lo c n).length = n := by simp [ZM]
end DL
namespace DL
open PySem PySem.Spec L2
end DL
namespace DL
open PySem PySem.Spec L2
theorem VN {i j : Int} (h : 0 < j) : modD (.int i) (.int j) = some (.int (i % j)) := if_pos h
theorem ZaF {i j : Int} (h : YX i j) : fdivD (.int i) (.int j) = some (.int (i / j)) := if_pos h
theorem ZbH {i j : Int} (h1 : 0 < j) (h2 : j < 1000000) : YX i j := ⟨h1, by omega⟩
end DL
namespace DL
open PySem PySem.Spec L2
theorem Zu {a b : Env -> Option Out} {δ δ' : Env} (h : a δ = some (.nx δ')) : Zd a b δ = b δ' := by
 unfold Zd; rw [h]
theorem ZdI {a b : Env -> Option Out} {δ : Env} {d : D} (h : a δ = some (.rt d)) : Zd a b δ = some (.rt d) := by
 unfold Zd; rw [h]
theorem ZI {i : Nat} {e : Env -> Option D} {δ : Env} {d : D} (h : e δ = some d) : Zi i e δ = some (.nx (δ.set i (some d))) := by
 unfold Zi; rw [h]
theorem YO {e : Env -> Option D} {δ : Env} {d : D} (h : e δ = some d) : Zs e δ = some (.rt d) := by
 unfold Zs; rw [h]
theorem VO {t : Env -> Option Bool} {a b : Env -> Option Out} {δ : Env} (h : t δ = some true) : sIf t a b δ = a δ := by
 unfold sIf; rw [h]
theorem XN {t : Env -> Option Bool} {a b : Env -> Option Out} {δ : Env} (h : t δ = some false) : sIf t a b δ = b δ := by
 unfold sIf; rw [h]
theorem ZX {e : Env -> Option D} {δ : Env} {b : Bool} (h : e δ = some (.bl b)) : xB e δ = some b := by
 unfold xB; rw [h]; rfl
theorem Zcb {t : Env -> Option Bool} {δ : Env} {b : Bool} (h : t δ = some b) : Y1 t δ = some (!b) := by
 unfold Y1; rw [h]
theorem ZdJ {a b : Env -> Option Bool} {δ : Env} {x : Bool} (h1 : a δ = some false) (h2 : b δ = some x) : xOr a b δ = some x := by
 unfold xOr; rw [h1]; exact h2
theorem Zdf {a b : Env -> Option Bool} {δ : Env} {x : Bool} (h1 : a δ = some true) (h2 : b δ = some x) : Yc a b δ = some x := by
 unfold Yc; rw [h1]; exact h2
theorem Zez {a b : Env -> Option Bool} {δ : Env} (h1 : a δ = some false) : Yc a b δ = some false := by
 unfold Yc; rw [h1]
theorem Yf {n : Nat} {m : List D -> Option D} {α : Env -> Option (List D)} {δ : Env} {ds : List D} (h : α δ = some ds) (hn : ds.length = n) : Zq n m [] α δ = m ds := by
 unfold Zq
 rw [h]
 dsimp only
 rw [List.append_nil, if_pos hn]
theorem Zl {a : Env -> Option D} {b : Env -> Option (List D)} {δ : Env} {x : D} {xs : List D} (h1 : a δ = some x) (h2 : b δ = some xs) : Zb a b δ = some (x :: xs) := by
 unfold Zb; rw [h1, h2]
theorem Zm {f : D -> D -> Option D} {a b : Env -> Option D} {δ : Env} {x y : D} (h1 : a δ = some x) (h2 : b δ = some y) : eOp f a b δ = f x y := by
 unfold eOp; rw [h1, h2]
theorem ZeA {a b : Env -> Option D} {δ : Env} {x : D} (h1 : a δ = some (.bl true)) (h2 : b δ = some x) : Xk a b δ = some x := by
 unfold Xk; rw [h1]; exact h2
theorem ZdK {α : Env -> Option (List D)} {δ : Env} {ds : List D} (h : α δ = some ds) (hl : ds.length <= 1000) : YT α δ = (some (.tup ds) : Option D) := by
 unfold YT; rw [h]
 exact if_pos (Nat.le_trans hl (by decide))
theorem Jv {α : Env -> Option (List D)} {δ : Env} {ds : List D} (h : α δ = some ds) (hl : ds.length <= 1000) : ZL α δ = (some (.lst ds) : Option D) := by
 unfold ZL; rw [h]
 exact if_pos (Nat.le_trans hl (by decide))
theorem ZaG {γ : D -> Env -> Option Env} {φ : Env -> Option Out} (I : Env -> Prop) : ∀ (xs : List D) (δ : Env), I δ ->
 (∀ x ∈ xs, ∀ δ, I δ -> ∃ δ1, γ x δ = some δ1 /\ ∃ δ2, φ δ1 = some (.nx δ2) /\ I δ2) -> ∃ δ', Zt γ φ xs δ = some (.nx δ') /\ I δ'
 | [], δ, h, _ => ⟨δ, rfl, h⟩
 | x :: xs, δ, h, step => by
  obtain ⟨δ1, h1, δ2, h2, h3⟩ := step x List.mem_cons_self δ h
  obtain ⟨δ', h4, h5⟩ := ZaG I xs δ2 h3 fun y hy => step y (List.mem_cons_of_mem _ hy)
  refine ⟨δ', ?_, h5⟩
  unfold Zt
  rw [h1]
  dsimp only
  rw [h2]
  exact h4
theorem Zbk {τ : Env -> Option Bool} {φ : Env -> Option Out} (I J : Env -> Prop) (μ : Env -> Nat)
 (step : ∀ δ, I δ -> (τ δ = some false /\ J δ) \/ (τ δ = some true /\ ∃ δ', φ δ = some (.nx δ') /\ I δ' /\ μ δ' < μ δ)) :
 ∀ (k : Nat) (δ : Env), μ δ <= k -> I δ -> ∃ n δ', Yd τ φ n δ = some (.nx δ') /\ J δ'
 | 0, δ, hk, h => by
  rcases step δ h with ⟨h1, h2⟩ | ⟨h1, δ', h2, h3, h4⟩
  · exact ⟨1, δ, by unfold Yd; rw [h1], h2⟩
  · omega
 | k + 1, δ, hk, h => by
  rcases step δ h with ⟨h1, h2⟩ | ⟨h1, δ', h2, h3, h4⟩
  · exact ⟨1, δ, by unfold Yd; rw [h1], h2⟩
  · obtain ⟨n, δ2, h5, h6⟩ := Zbk I J μ step k δ' (by omega) h3
    refine ⟨n + 1, δ2, ?_, h6⟩
    unfold Yd
    rw [h1]
    dsimp only
    rw [h2]
    exact h5
theorem Jw {τ : Env -> Option Bool} {φ : Env -> Option Out} (I J : Env -> Prop) (μ : Env -> Nat)
 (step : ∀ δ, I δ -> (τ δ = some false /\ J δ) \/ (τ δ = some true /\ ∃ δ', φ δ = some (.nx δ') /\ I δ' /\ μ δ' < μ δ)) (δ : Env) (h : I δ) : ∃ δ', YI τ φ δ = some (.nx δ') /\ J δ' := by
 obtain ⟨n, δ', h1, h2⟩ := Zbk I J μ step (μ δ) δ (Nat.le_refl _) h
 exact ⟨δ', ZcC h1, h2⟩
end DL
namespace DL
open PySem PySem.Spec L2
theorem Ur {α : Env -> Option (List D)} {δ : Env} {j : Int} (h : α δ = some [.int j]) (h1 : -1000000 <= j) (h2 : j <= 1000000) : ZV α δ = some (ZM 0 1 j.toNat) := by
 unfold ZV
 rw [h]
 dsimp only
 rw [if_pos ⟨by omega, by omega⟩]
theorem Us {i : Nat} {ε : Env -> Option D} {δ : Env} {xs : List D} {d : D} (h1 : Za i δ = some (.lst xs)) (h2 : ε δ = some d) (hl : xs.length <= 1000000) : Ya i ε δ = some (.nx (δ.set i (some (.lst (xs ++ [d]))))) := by
 unfold Ya
 rw [h1]
 dsimp only
 rw [h2]
 dsimp only
 rw [if_pos (by rw [PySem.sizeLine_eq]; omega)]
theorem Qc {n j : Nat} {x : D} (h : (ZM 0 1 n)[j]? = some x) : j < n /\ x = .int (j : Nat) := by
 have hj : j < n := by have := (List.getElem?_eq_some_iff.mp h).1; simpa [ZM] using this
 refine ⟨hj, ?_⟩
 unfold ZM at h
 rw [List.getElem?_map, List.getElem?_range hj] at h
 have := Option.some.inj h
 rw [<- this]
 show D.int (0 + (j : Int) * 1) = _
 rw [show (0 + (j : Int) * 1) = j by omega]
theorem Y9 {ι : Env -> Option (List D)} {γ : D -> Env -> Option Env} {φ : Env -> Option Out} {δ : Env} {xs : List D} {o : Out} (h1 : ι δ = some xs) (h2 : Zt γ φ xs δ = some o) : ZE ι γ φ δ = some o := by
 unfold ZE
 rw [h1]
 exact h2
theorem Xr {ι : Env -> Option (List D)} {γ : D -> Env -> Option Env} {τ : Env -> Option Bool} {ε : Env -> Option D} {n : Nat} {js : List Nat} {δ δ0 : Env} {xs ys : List D} (h1 : ι δ = some xs) (hb : ZW n δ js = δ0) (h2 : Zx γ τ ε δ0 xs = some ys) (hl : ys.length <= 1000000) : ZG ι γ τ ε n js δ = some (.lst ys) := by
 unfold ZG
 rw [h1]
 dsimp only
 rw [hb, h2]
 dsimp only
 rw [if_pos (by rw [PySem.sizeLine_eq]; omega)]
theorem YC {f : List D -> Option D} {α : Env -> Option (List D)} {δ : Env} {ds : List D} (h : α δ = some ds) : eCB f α δ = f ds := by
 unfold eCB
 rw [h]
theorem Xa {n : Nat} {f : Env -> Option Out} {vs : List D} {δ : Env} {d : D} (h1 : (vs.map some ++ List.replicate (n - vs.length) none) = δ) (h2 : f δ = some (.rt d)) : DL.run n f vs = some d := by
 unfold DL.run
 rw [h1, h2]
theorem nil_of {δ : Env} : eNil δ = some [] := rfl
theorem Zf3 {t : List (String × Bool)} {a : Env -> Option D} {δ : Env} {d : D} {b : Bool} (h1 : a δ = some d) (h2 : VC t d = some b) : Y4 t a δ = some (.bl b) := by
 unfold Y4
 rw [h1]
 dsimp only
 rw [h2]
end DL
namespace DL
open PySem PySem.Spec L2
theorem Zbl {x : D} (hs : Zh x = false) (h : SeqAt.shaped (toP x) = true) : eqD x x = some (.bl true) := by
 unfold eqD
 rw [if_neg (by simp [hs]), h, if_pos (by rfl)]
 rw [SeqAt.eqv_refl _ (SeqAt.canLay_of_shaped h)]
theorem Zbm {x : D} (hs : Zh x = false) (h : SeqAt.shaped (toP x) = true) : neD x x = some (.bl false) := by
 unfold neD
 rw [Zbl hs h]
 rfl
theorem Zae : ∀ ws : List Int, PyData.canLayAll0 (Z4 (ws.map D.int)) = true
 | [] => rfl
 | w :: ws => by rw [List.map_cons, Z4, PyData.canLayAll0, Zae ws]; rfl
theorem Zaq : ∀ ws : List Int, PyData.depthAll (Z4 (ws.map D.int)) = 0
 | [] => rfl
 | w :: ws => by rw [List.map_cons, Z4, PyData.depthAll, Zaq ws]; rfl
theorem Jx (ws : List Int) : SeqAt.shaped (toP (.lst (ws.map D.int))) = true := by
 simp [SeqAt.shaped, toP, PyData.canLay0, PyData.depth, Zae, Zaq]
end DL
namespace DL
open PySem PySem.Spec L2
theorem add_int (i j : Int) : addX (.int i) (.int j) = some (.int (i + j)) := rfl
theorem Qd {i j : Int} (h1 : -1000 <= j) (h2 : j <= 1000) : mulX (.int i) (.int j) = some (.int (i * j)) := if_pos (.inr (.inr ⟨by omega, by omega⟩))
theorem Zcc {n a : Nat} (h : a < n) : ixN n (a : Int) = some a := by
 unfold ixN
 rw [if_pos (by omega), if_pos (by omega), Int.toNat_natCast]
theorem Jy {xs : List D} {a : Nat} {x : D} (h : xs[a]? = some x) : ixD (.lst xs) (.int (a : Int)) = some x := QG h
theorem Zcd {cs : List Int} {a : Nat} (h : a < cs.length) : ixD (.lst (cs.map D.int)) (.int (a : Int)) = some (.int (cs.getD a 0)) := by
 refine Jy ?_
 rw [List.getElem?_map, List.getElem?_eq_getElem h, List.getD_eq_getElem?_getD, List.getElem?_eq_getElem h]
 rfl
theorem ZdL {i : Int} (h : 0 <= i) : ∃ a : Nat, i = (a : Int) := ⟨i.toNat, (Int.toNat_of_nonneg h).symm⟩
theorem ZeB (i : Int) {m : Nat} (h : 0 < m) : ∃ a : Nat, i % (m : Int) = (a : Int) /\ a < m := by
 obtain ⟨a, ha⟩ := ZdL (Int.emod_nonneg i (show (m : Int) ≠ 0 by omega))
 exact ⟨a, ha, by have := Int.emod_lt_of_pos i (b := (m : Int)) (by omega); omega⟩
theorem len_lst {xs : List D} : lenD [.lst xs] = some (.int (xs.length : Int)) := rfl
end DL
namespace K32
open PySem PySem.Spec L2 DL
def Jz : List (String × Bool) := [("NoneType", false), ("bool", true), ("int", false), ("str", false), ("list", false), ("tuple", false)]
def JA : List (String × Bool) := [("NoneType", false), ("bool", true), ("int", true), ("str", false), ("list", false), ("tuple", false)]
def Qe : List (String × Bool) := [("NoneType", false), ("bool", false), ("int", false), ("str", false), ("list", true), ("tuple", false)]
noncomputable def f_QB : DL.Env -> Option Out :=
 (Zd (Zi 3 (Qa (Za 2) (eC (.bl true))))
 (Zd (Zi 4 (ZL (Zb (Za 2) eNil)))
 (Zd (YI (xB (eOp (ZU fun i j => decide (j < i)) (eCB lenD (Zb (Za 4) eNil)) (eC (.int 0)))) (Zd (Vd 5 4 (Za 0))
 (ZE (ZF (Za 1)) (Zf 6) (sIf (Yc (xB (eOp (ZU fun i j => decide (j < i)) (eOp ixD (Za 5) (Za 6)) (eC (.int 0)))) (xB (eOp (inK true) (Za 6) (Za 3)))) (Zd (Yw 3 (Za 6) (eC (.bl true)))
 (Ya 4 (Za 6))) sNext))))
 (Zs (Za 3)))))
noncomputable def VP : List D -> Option D := run 7 f_QB
noncomputable def f_QJ : DL.Env -> Option Out :=
 (ZK (Zi 2 (eC (.dct [] [])))
 (ZK (ZE (ZF (Za 1)) (Zf 3) (Yw 2 (Za 3) (Zq 3 VP [] (Zb (Za 0) (Zb (Za 1) (Zb (Za 3) eNil))))))
 (ZK (YK 4 (ZL eNil))
 (ZK (Z8 4 (Zi 5 (eC (.dct [] []))))
 (ZK (Um 4 3 (Za 1) (sIf (xB (eOp (inK true) (Za 3) (Za 5))) (Zd (Z8 4 (Zi 6 (ZG (ZF (Za 1)) (Zf 0) (Yc (xB (eOp (inK false) (Za 0) (eOp XL (Za 1) (Za 2)))) (xB (eOp (inK false) (Za 2) (eOp XL (Za 1) (Za 0))))) (Za 0) 1 [2, 3])))
 (Ve 4 6 7 (Yw 5 (Za 7) (eC (.bl true))))) sNext))
 (Zs (Za 4)))))))
noncomputable def Qf : List D -> Option D := Xo 8 f_QJ
noncomputable def f_QL : DL.Env -> Option Out :=
 (Zd (Zi 3 (ZG (ZF (Za 1)) (Zf 0) (xB (eOp (inD true) (Za 0) (Za 1))) (Za 0) 1 [2]))
 (Zs (eCB (Vz fun bs => bs.all id) (Zb (ZG (ZF (Za 2)) (Zf 0) (fun _ => some true) (eOp eqD (eCB sumLD (Zb (ZG (ZF (Za 2)) (Zf 0) (fun _ => some true) (eOp ixD (eOp ixD (Za 1) (Za 2)) (Za 0)) 1 [1, 0]) eNil)) (eC (.int 0))) 1 [0, 3]) eNil))))
noncomputable def Qg : List D -> Option D := run 4 f_QL
noncomputable def f_QG : DL.Env -> Option Out :=
 (ZK (Zi 2 (ZG (Ui 0 (Za 1)) (XF 2 (YA 0 (YA 1 gsNil))) (xB (eOp (ZU fun i j => decide (j < i)) (Za 1) (eC (.int 0)))) (Za 0) 2 []))
 (Zs (VH (Zq 2 Qf [] (Zb (Za 0) (Zb (Za 2) eNil))) (xB (Zq 3 Qg [] (Zb (Za 1) (Zb (Za 2) (Zb (Za 0) eNil))))) 0 [0, 2])))
noncomputable def Ut : List D -> Option D := Xo 3 f_QG
noncomputable def f_QC : DL.Env -> Option Out :=
 (Zd (sIf (xB (eOp (ZU fun i j => decide (i < j)) (Za 1) (eCB lenD (Zb (Za 0) eNil)))) (Zs (eOp ixD (Za 0) (Za 1))) sNext)
 (Zs (eC (.int 0))))
noncomputable def YV : List D -> Option D := run 2 f_QC
noncomputable def f_QA : DL.Env -> Option Out :=
 (Zs (Xk (Y4 JA (Za 0)) (Uf (Y4 Jz (Za 0)))))
noncomputable def Qh : List D -> Option D := run 1 f_QA
noncomputable def f_QE : DL.Env -> Option Out :=
 (Zd (Zi 3 (ZL eNil))
 (Zd (ZE (ZV (Zb (eCB lenD (Zb (Za 0) eNil)) eNil)) (Zf 4) (Zd (Zi 5 (eC (.int 0)))
 (Zd (ZE (ZV (Zb (eCB lenD (Zb (Za 0) eNil)) eNil)) (Zf 6) (Zi 5 (eOp addX (Za 5) (eOp mulX (eOp ixD (eOp ixD (Za 0) (Za 4)) (Za 6)) (eOp ixD (Za 2) (Za 6))))))
 (Ya 3 (eCB minLD (Zb (ZL (Zb (eOp ixD (Za 2) (Za 4)) (Zb (eOp fdivD (Za 5) (Za 1)) eNil))) eNil))))))
 (Zs (Za 3))))
noncomputable def VQ : List D -> Option D := run 7 f_QE
noncomputable def f_QI : DL.Env -> Option Out :=
 (Zd (Zi 3 (Zq 3 VQ [] (Zb (Za 0) (Zb (Za 1) (Zb (Za 2) eNil)))))
 (Zd (YI (xB (eOp neD (Za 3) (Za 2))) (Zd (Zi 2 (Za 3))
 (Zi 3 (Zq 3 VQ [] (Zb (Za 0) (Zb (Za 1) (Zb (Za 2) eNil)))))))
 (Zs (Za 2))))
noncomputable def Uu : List D -> Option D := run 4 f_QI
noncomputable def f_QK : DL.Env -> Option Out :=
 (ZK (YK 2 (ZL eNil))
 (ZK (ZE (ZV (Zb (Za 1) eNil)) (Zf 3) (Zd (Z8 2 (Zi 4 (ZL eNil)))
 (Zd (Z8 2 (ZE (ZV (Zb (Za 1) eNil)) (Zf 5) (Zd (Zi 6 (Zq 2 YV [] (Zb (Za 0) (Zb (eOp addX (eOp addX (eC (.int 10)) (eOp mulX (Za 3) (Za 1))) (Za 5)) eNil))))
 (Ya 4 (eOp mulX (eCB intD (Zb (eOp eqD (eOp modD (Za 6) (eC (.int 4))) (eC (.int 1))) eNil)) (eOp addX (eC (.int 1)) (eOp modD (eOp fdivD (Za 6) (eC (.int 4))) (eC (.int 5)))))))))
 (Y7 2 4))))
 (Zs (Za 2))))
noncomputable def Uv : List D -> Option D := Xo 7 f_QK
noncomputable def f_QD : DL.Env -> Option Out :=
 (Zd (Zi 3 (ZL (Zb (Za 2) eNil)))
 (Zd (Zi 4 (eC (.int 0)))
 (Zd (YI (xB (eOp (ZU fun i j => decide (i < j)) (Za 4) (eCB lenD (Zb (Za 3) eNil)))) (Zd (ZE (ZV (Zb (eCB lenD (Zb (Za 1) eNil)) eNil)) (Zf 5) (sIf (Yc (xB (eOp (inD true) (Za 5) (Za 3))) (Yc (xB (eOp (ZU fun i j => decide (j < i)) (eOp ixD (Za 1) (Za 5)) (eC (.int 0)))) (xB (eOp neD (eOp ixD (eOp ixD (Za 0) (eOp ixD (Za 3) (Za 4))) (Za 5)) (eC (.int 0)))))) (Ya 3 (Za 5)) sNext))
 (Zi 4 (eOp addX (Za 4) (eC (.int 1))))))
 (Zs (eCB VD (Zb (Za 3) eNil))))))
noncomputable def XO : List D -> Option D := run 6 f_QD
noncomputable def f_QF : DL.Env -> Option Out :=
 (Zd (Zi 3 (Zq 3 XO [] (Zb (Za 0) (Zb (Za 1) (Zb (Za 2) eNil)))))
 (Zd (ZE (ZF (Za 3)) (Zf 4) (sIf (xB (eOp (inD true) (Za 2) (Zq 3 XO [] (Zb (Za 0) (Zb (Za 1) (Zb (Za 4) eNil)))))) (Zs (eC .non)) sNext))
 (Zs (Za 3))))
noncomputable def Vh : List D -> Option D := run 5 f_QF
noncomputable def f_QM : DL.Env -> Option Out :=
 (Zd (ZE (ZV (Zb (eCB lenD (Zb (Za 1) eNil)) eNil)) (Zf 2) (sIf (xB (eOp (ZU fun i j => decide (j < i)) (eOp ixD (Za 1) (Za 2)) (eC (.int 0)))) (Zd (Zi 3 (Zq 3 Vh [] (Zb (Za 0) (Zb (Za 1) (Zb (Za 2) eNil)))))
 (sIf (xB (Vw (Za 3))) (Zs (Za 3)) sNext)) sNext))
 (Zs (ZL eNil)))
noncomputable def Uw : List D -> Option D := run 4 f_QM
noncomputable def f_QH : DL.Env -> Option Out :=
 (Zs (eOp eqD (Zq 3 VQ [] (Zb (Za 0) (Zb (Za 1) (Zb (Za 2) eNil)))) (Za 2)))
noncomputable def Ux : List D -> Option D := run 3 f_QH
noncomputable def f_QN : DL.Env -> Option Out :=
 (Zd (Zi 1 (eOp addX (eC (.int 1)) (eOp modD (Zq 2 YV [] (Zb (Za 0) (Zb (eC (.int 0)) eNil))) (eC (.int 7)))))
 (Zd (Zi 2 (eOp addX (eC (.int 1)) (eOp modD (Zq 2 YV [] (Zb (Za 0) (Zb (eC (.int 1)) eNil))) (eC (.int 4)))))
 (Zd (YK 3 (Zq 2 Uv [] (Zb (Za 0) (Zb (Za 1) eNil))))
 (Zd (Z8 3 (Zi 4 (eOp modD (Zq 2 YV [] (Zb (Za 0) (Zb (eC (.int 2)) eNil))) (Za 1))))
 (Zd (Va 3 (Za 4) (Za 4) (eOp addX (eOp ixD (eOp ixD (Za 3) (Za 4)) (Za 4)) (Za 2)))
 (XM (Zd (Zi 5 (Zq 3 Uu [] (Zb (Za 3) (Zb (Za 2) (Zb (ZG (ZV (Zb (Za 1) eNil)) (Zf 0) (fun _ => some true) (eOp addX (eC (.int 1)) (eOp modD (Zq 2 YV [] (Zb (Za 1) (Zb (eOp addX (eC (.int 3)) (Za 0)) eNil))) (eC (.int 12)))) 1 [0]) eNil)))))
 (Zd (Zi 6 (YT (Zb (ZG (ZF (Za 3)) (Zf 0) (fun _ => some true) (eCB Xn (Zb (Za 0) eNil)) 1 []) (Zb (eCB Xn (Zb (Za 5) eNil)) eNil))))
 (Zd (Zi 7 (Zq 2 Ut [] (Zb (eOp ixD (Za 6) (eC (.int 0))) (Zb (eOp ixD (Za 6) (eC (.int 1))) eNil))))
 (Zd (sIf (xOr (xB (eOp neD (Za 6) (YT (Zb (Za 3) (Zb (Za 5) eNil))))) (xOr (Y1 (xB (Y4 Qe (Za 7)))) (xB (eOp neD (Za 7) (Zq 2 Uw [] (Zb (Za 3) (Zb (Za 5) eNil))))))) (Zs (eC (.bl false))) sNext)
 (Zd (sIf (xB (eOp (ZU fun i j => decide (j < i)) (eCB lenD (Zb (ZG (ZF (Za 7)) (Zf 0) (Y1 (xB (Zq 1 Qh [] (Zb (Za 0) eNil)))) (Za 0) 1 []) eNil)) (eC (.int 0)))) (Zs (eC (.bl false))) sNext)
 (Zd (Zi 8 (Vb (ZG (ZV (Zb (Za 1) eNil)) (Zf 0) (fun _ => some true) (eOp mulX (eOp ixD (Za 1) (Za 0)) (eCB intD (Zb (eOp (inD false) (Za 0) (Za 2)) eNil))) 1 [5, 7])))
 (Zd (Ya 7 (eC (.int 99)))
 (Zs (Xk (eOp eqD (Za 6) (YT (Zb (Za 3) (Zb (Za 5) eNil)))) (Zq 3 Ux [] (Zb (Za 3) (Zb (Za 2) (Zb (Za 8) eNil)))))))))))))))))))
noncomputable def Qi : List D -> Option D := run 9 f_QN
end K32
namespace K32
open PySem PySem.Spec L2 DL
def top (i : Nat) : Stmt := PySem.Challenge.pw_grooveway_k32_closed_parts.main.body.getD i (.Pass ⟨0, 0, 0, 0⟩)
abbrev XQ : Stmt := top 1
abbrev Xs : Stmt := top 2
abbrev Xb : Stmt := top 3
abbrev Xc : Stmt := top 4
abbrev XR : Stmt := top 6
abbrev XS : Stmt := top 7
abbrev XT : Stmt := top 8
abbrev XU : Stmt := top 9
abbrev XV : Stmt := top 10
abbrev XW : Stmt := top 11
abbrev XX : Stmt := top 12
abbrev XY : Stmt := top 13
abbrev XZ : Stmt := top 14
abbrev Ys : Stmt := top 15
theorem Zgy : FnScope ["table", "among", "room", "reached", "waiting", "numbers", "to"] ["table", "among", "room"] (Zo XQ) := ⟨rfl, rfl, rfl, by decide +kernel, rfl, by decide +kernel, by decide +kernel⟩
theorem Zgz : FnScope ["table", "among", "reached", "room", "parts", "placed", "part", "other"] ["table", "among"] (Zo Xs) := ⟨rfl, rfl, rfl, by decide +kernel, rfl, by decide +kernel, by decide +kernel⟩
theorem ZgA : FnScope ["table", "among", "part", "outside"] ["table", "among", "part"] (Zo Xb) := ⟨rfl, rfl, rfl, by decide +kernel, rfl, by decide +kernel, by decide +kernel⟩
theorem ZgB : FnScope ["table", "weights", "among"] ["table", "weights"] (Zo Xc) := ⟨rfl, rfl, rfl, by decide +kernel, rfl, by decide +kernel, by decide +kernel⟩
theorem ZgC : FnScope ["script", "k"] ["script", "k"] (Zo XR) := ⟨rfl, rfl, rfl, by decide +kernel, rfl, by decide +kernel, by decide +kernel⟩
theorem ZgD : FnScope ["found"] ["found"] (Zo XS) := ⟨rfl, rfl, rfl, by decide +kernel, rfl, by decide +kernel, by decide +kernel⟩
theorem ZgE : FnScope ["table", "n", "weights", "due", "k", "whole", "j"] ["table", "n", "weights"] (Zo XT) := ⟨rfl, rfl, rfl, by decide +kernel, rfl, by decide +kernel, by decide +kernel⟩
theorem ZgF : FnScope ["table", "n", "weights", "later"] ["table", "n", "weights"] (Zo XU) := ⟨rfl, rfl, rfl, by decide +kernel, rfl, by decide +kernel, by decide +kernel⟩
theorem ZgG : FnScope ["script", "many", "table", "k", "row", "j", "cell"] ["script", "many"] (Zo XV) := ⟨rfl, rfl, rfl, by decide +kernel, rfl, by decide +kernel, by decide +kernel⟩
theorem ZgH : FnScope ["table", "weights", "room", "seen", "at", "other"] ["table", "weights", "room"] (Zo XW) := ⟨rfl, rfl, rfl, by decide +kernel, rfl, by decide +kernel, by decide +kernel⟩
theorem ZgI : FnScope ["table", "weights", "room", "part", "other"] ["table", "weights", "room"] (Zo XX) := ⟨rfl, rfl, rfl, by decide +kernel, rfl, by decide +kernel, by decide +kernel⟩
theorem ZgJ : FnScope ["table", "weights", "room", "part"] ["table", "weights"] (Zo XY) := ⟨rfl, rfl, rfl, by decide +kernel, rfl, by decide +kernel, by decide +kernel⟩
theorem ZgK : FnScope ["table", "n", "weights"] ["table", "n", "weights"] (Zo XZ) := ⟨rfl, rfl, rfl, by decide +kernel, rfl, by decide +kernel, by decide +kernel⟩
theorem ZgL : FnScope ["script", "many", "n", "table", "sure", "weights", "handed", "found", "alone"] ["script"] (Zo Ys) := ⟨rfl, rfl, rfl, by decide +kernel, rfl, by decide +kernel, by decide +kernel⟩
structure Adr where
 a_QB : Addr
 d_QB : FuncData
 a_QJ : Addr
 d_QJ : FuncData
 a_QL : Addr
 d_QL : FuncData
 a_QG : Addr
 d_QG : FuncData
 a_QC : Addr
 d_QC : FuncData
 a_QA : Addr
 d_QA : FuncData
 a_QE : Addr
 d_QE : FuncData
 a_QI : Addr
 d_QI : FuncData
 a_QK : Addr
 d_QK : FuncData
 a_QD : Addr
 d_QD : FuncData
 a_QF : Addr
 d_QF : FuncData
 a_QM : Addr
 d_QM : FuncData
 a_QH : Addr
 d_QH : FuncData
 a_QN : Addr
 d_QN : FuncData
def Adr.c (t : Adr) : String -> Addr := fun c => 0
structure Txt (K : PySem.W.Frag) (mg : Str -> Option Value) (t : Adr) : Prop where
 f_QB : FunX K "reached_from" "reached_from" XQ t.a_QB t.d_QB
 b_QB : Binds K t.d_QB ["table", "among", "room"] []
 g_QB : mg "reached_from" = some (.ref t.a_QB)
 k_QB : PySem.W.keepIn K (.ref t.a_QB) = true
 f_QJ : FunX K "tied_parts" "tied_parts" Xs t.a_QJ t.d_QJ
 b_QJ : Binds K t.d_QJ ["table", "among"] []
 g_QJ : mg "tied_parts" = some (.ref t.a_QJ)
 k_QJ : PySem.W.keepIn K (.ref t.a_QJ) = true
 f_QL : FunX K "is_closed" "is_closed" Xb t.a_QL t.d_QL
 b_QL : Binds K t.d_QL ["table", "among", "part"] []
 g_QL : mg "is_closed" = some (.ref t.a_QL)
 k_QL : PySem.W.keepIn K (.ref t.a_QL) = true
 f_QG : FunX K "closed_part" "closed_part" Xc t.a_QG t.d_QG
 b_QG : Binds K t.d_QG ["table", "weights"] []
 g_QG : mg "closed_part" = some (.ref t.a_QG)
 k_QG : PySem.W.keepIn K (.ref t.a_QG) = true
 f_QC : FunX K "_law_cell_at" "_law_cell_at" XR t.a_QC t.d_QC
 b_QC : Binds K t.d_QC ["script", "k"] []
 g_QC : mg "_law_cell_at" = some (.ref t.a_QC)
 k_QC : PySem.W.keepIn K (.ref t.a_QC) = true
 f_QA : FunX K "_law_is_whole" "_law_is_whole" XS t.a_QA t.d_QA
 b_QA : Binds K t.d_QA ["found"] []
 g_QA : mg "_law_is_whole" = some (.ref t.a_QA)
 k_QA : PySem.W.keepIn K (.ref t.a_QA) = true
 f_QE : FunX K "_law_shrunk" "_law_shrunk" XT t.a_QE t.d_QE
 b_QE : Binds K t.d_QE ["table", "n", "weights"] []
 g_QE : mg "_law_shrunk" = some (.ref t.a_QE)
 k_QE : PySem.W.keepIn K (.ref t.a_QE) = true
 f_QI : FunX K "_law_borne" "_law_borne" XU t.a_QI t.d_QI
 b_QI : Binds K t.d_QI ["table", "n", "weights"] []
 g_QI : mg "_law_borne" = some (.ref t.a_QI)
 k_QI : PySem.W.keepIn K (.ref t.a_QI) = true
 f_QK : FunX K "_law_table" "_law_table" XV t.a_QK t.d_QK
 b_QK : Binds K t.d_QK ["script", "many"] []
 g_QK : mg "_law_table" = some (.ref t.a_QK)
 k_QK : PySem.W.keepIn K (.ref t.a_QK) = true
 f_QD : FunX K "_law_come_to" "_law_come_to" XW t.a_QD t.d_QD
 b_QD : Binds K t.d_QD ["table", "weights", "room"] []
 g_QD : mg "_law_come_to" = some (.ref t.a_QD)
 k_QD : PySem.W.keepIn K (.ref t.a_QD) = true
 f_QF : FunX K "_law_closed" "_law_closed" XX t.a_QF t.d_QF
 b_QF : Binds K t.d_QF ["table", "weights", "room"] []
 g_QF : mg "_law_closed" = some (.ref t.a_QF)
 k_QF : PySem.W.keepIn K (.ref t.a_QF) = true
 f_QM : FunX K "_law_due" "_law_due" XY t.a_QM t.d_QM
 b_QM : Binds K t.d_QM ["table", "weights"] []
 g_QM : mg "_law_due" = some (.ref t.a_QM)
 k_QM : PySem.W.keepIn K (.ref t.a_QM) = true
 f_QH : FunX K "_law_bears" "_law_bears" XZ t.a_QH t.d_QH
 b_QH : Binds K t.d_QH ["table", "n", "weights"] []
 g_QH : mg "_law_bears" = some (.ref t.a_QH)
 k_QH : PySem.W.keepIn K (.ref t.a_QH) = true
 f_QN : FunX K "law" "law" Ys t.a_QN t.d_QN
 b_QN : Binds K t.d_QN ["script"] []
 g_QN : mg "law" = some (.ref t.a_QN)
 k_QN : PySem.W.keepIn K (.ref t.a_QN) = true
 n_all : mg "all" = none
 n_bool : mg "bool" = none
 n_enumerate : mg "enumerate" = none
 n_int : mg "int" = none
 n_isinstance : mg "isinstance" = none
 n_len : mg "len" = none
 n_list : mg "list" = none
 n_min : mg "min" = none
 n_range : mg "range" = none
 n_sorted : mg "sorted" = none
 n_sum : mg "sum" = none
 isi_bool : IsiOk K ⟨t.c, K⟩ (.type "bool") Jz
 isi_int : IsiOk K ⟨t.c, K⟩ (.type "int") JA
 isi_list : IsiOk K ⟨t.c, K⟩ (.type "list") Qe
end K32
namespace K32
open PySem PySem.Spec PyProof.Rows L2 DL
theorem nd0 : List.Nodup (["table", "among", "room", "reached", "waiting", "numbers", "to"] : List Str) := by decide +kernel
theorem nd1 : List.Nodup (["table", "among", "reached", "room", "parts", "placed", "part", "other"] : List Str) := by decide +kernel
theorem nd2 : List.Nodup (["other", "reached", "room"] : List Str) := by decide +kernel
theorem nd3 : List.Nodup (["table", "among", "part", "outside"] : List Str) := by decide +kernel
theorem nd4 : List.Nodup (["room", "part"] : List Str) := by decide +kernel
theorem nd5 : List.Nodup (["room", "table", "outside"] : List Str) := by decide +kernel
theorem nd6 : List.Nodup (["to", "table", "room"] : List Str) := by decide +kernel
theorem nd7 : List.Nodup (["table", "weights", "among"] : List Str) := by decide +kernel
theorem nd8 : List.Nodup (["room", "weight"] : List Str) := by decide +kernel
theorem nd9 : List.Nodup (["part", "table", "among"] : List Str) := by decide +kernel
theorem Uy : List.Nodup (["table", "n", "weights", "due", "k", "whole", "j"] : List Str) := by decide +kernel
theorem JB : List.Nodup (["table", "n", "weights", "later"] : List Str) := by decide +kernel
theorem Uz : List.Nodup (["script", "many", "table", "k", "row", "j", "cell"] : List Str) := by decide +kernel
theorem Qj : List.Nodup (["table", "weights", "room", "seen", "at", "other"] : List Str) := by decide +kernel
theorem Zhs : List.Nodup (["table", "weights", "room", "part", "other"] : List Str) := by decide +kernel
theorem Zht : List.Nodup (["table", "weights", "room", "part"] : List Str) := by decide +kernel
theorem X1 : List.Nodup (["script", "many", "n", "table", "sure", "weights", "handed", "found", "alone"] : List Str) := by decide +kernel
theorem ZhG : List.Nodup (["k", "script"] : List Str) := by decide +kernel
theorem ZhH : List.Nodup (["row"] : List Str) := by decide +kernel
theorem ZhI : List.Nodup (["room"] : List Str) := by decide +kernel
theorem ZhJ : List.Nodup (["k", "weights", "found"] : List Str) := by decide +kernel
section
variable {P : Program} {w : World} {K : PySem.W.Frag} {mg : Str -> Option Value} {base : Heap} {t : Adr}
theorem ZgM (T : Txt K mg t) : FnOk P w K mg base CX0 1 t.a_QB t.d_QB ["table", "among", "room"] (spD ⟨t.c, K⟩ 3 VP) := by
 refine YU (φ := f_QB) T.f_QB Zgy (by conv => lhs; whnf) (by conv => lhs; whnf) (fun cdv A outer s H E hr => ?_) rfl rfl
 refine ⟨_, (Zr (ZC (i := 3) nd0 (by rfl) (by first | exact Or.inl rfl | exact Or.inr rfl) (Zd8 (Zc2 (pv 2) VY Zd7) (by rfl) (by rfl) (List.cons_ne_nil _ _) (Nat.le_of_ble_eq_true rfl)))
 (Zr (ZC (i := 4) nd0 (by rfl) (by first | exact Or.inl rfl | exact Or.inr rfl) (Xu (Ze (pv 2) Zk)))
 (Zr ((Qy PassesOwn.never (Yo Vl (Yp (Xx (K := K)) (by rfl) T.n_len boot_len (Ze (pv 4) Zk)) Zy (Yh _)) (Zr (ZC (i := 5) nd0 (by rfl) (by first | exact Or.inl rfl | exact Or.inr rfl) (ZS (ZT (K := K)) (pv 0) (Zgx (K := K) PySem.F.plainAttrs_list PySem.F.slot_list_pop PySem.F.type_list_pop ZfM (pv 4)) (fun _ _ => rfl)))
 (Zv ((YQ PassesOwn.never (by rfl) (YG (K := K) (pv 1)) (ZO (i := 6) nd0 (by rfl) (by first | exact Or.inl rfl | exact Or.inr rfl)) (Zv (Xi (PW.pt (UI (Yo Vl (ZS (ZT (K := K)) (pv 5) (pv 6) (fun _ _ => rfl)) Zy (Yh _)) (Qv (V0 (ZaA (Xp hr.units) (pv 6) (pv 3)))))) (Zr (QV (Xp hr.units) (pv 3) (pv 6) VY (by rfl))
 (Zv (X3 (X7 (K := K) PySem.F.plainAttrs_list PySem.F.slot_list_append PySem.F.type_list_append X4 (pv 4) (Ze (pv 6) Zk))))) Xh))))))))
 (Zv (Z5 (pv 3)))))), [], ?_⟩
 unfold f_QB
 exact (ZA (show VS _ _ [3] _ _ _ _ from Jf 3 (Zda (Zc 2 (by rfl)) (Zw (d := (.bl true)) (by rfl) (by rfl))) (by rfl) (by rfl) (by rfl) (by rfl))
 (ZA (show VS _ _ [3, 4] _ _ _ _ from (VB 4 (Vx (Zg (Zc 2 (by rfl)) Zp)) (by rfl) (by rfl) (by rfl) (by rfl)))
 (ZA (Q1 (Yq (Zn Xz (Yz XB (Zg (Xy 4 (by rfl)) Zp)) (Zw (d := (.int 0)) (by rfl) (by rfl)))) (ZA (show VS _ _ [3, 4] _ _ _ _ from Zdb 5 4 (by rfl) (Zc 0 (by rfl)) (by rfl) (by rfl) (by rfl) (by rfl))
 (XH (Xl (Zc 1 (by rfl))) (Yj 6 (by rfl) (by rfl)) (XD (U1 (Yq (Zn Xz (Zn Z7 (Zc 5 (by rfl)) (Zc 6 (by rfl))) (Zw (d := (.int 0)) (by rfl) (by rfl)))) (XA (ZaE (Zc 6 (by rfl)) (Xy 3 (by rfl))))) (ZA (Jg 3 (by rfl) (Zw (d := (.bl true)) (by rfl) (by rfl)) (Zc 6 (by rfl)))
 (Uh 4 (by rfl) (Zc 6 (by rfl)))) XC))))
 (VS.frz (ow1 := [3]) 4 (VS.frz (ow1 := []) 3 (Yi (Zc 3 (by rfl))) (by rfl) (by rfl) (by rfl) (by rfl)) (by rfl) (by rfl) (by rfl) (by rfl)))))
theorem ZgN (T : Txt K mg t) : FnOk P w K mg base CX0 2 t.a_QJ t.d_QJ ["table", "among"] (spM ⟨t.c, K⟩ 2 Qf) := by
 have G_QB := (ZgM (P := P) (w := w) (base := base) T).mono (k := 1) (by decide)
 refine Zfj (φ := f_QJ) T.f_QJ Zgz (by conv => lhs; whnf) (by conv => lhs; whnf) (fun cdv A outer s H E hr => ?_) rfl rfl
 refine ⟨_, (Zr (ZC (i := 2) nd1 (by rfl) (by first | exact Or.inl rfl | exact Or.inr rfl) Za6)
 (Zr ((YQ PassesOwn.never (by rfl) (YG (K := K) (pv 1)) (ZO (i := 3) nd1 (by rfl) (by first | exact Or.inl rfl | exact Or.inr rfl)) (Zv (QV (Xp hr.units) (pv 2) (pv 3) (Z0 (G_QB) hr (by rfl) T.g_QB T.k_QB T.b_QB .nil Z2 (Ze (pv 0) (Ze (pv 1) (Ze (pv 3) Zk)))) (by rfl)))))
 (Zr (ZC (i := 4) nd1 (by rfl) (by first | exact Or.inl rfl | exact Or.inr rfl) (Xu Zk))
 (Zr (ZC (i := 5) nd1 (by rfl) (by first | exact Or.inl rfl | exact Or.inr rfl) Za6)
 (Zr (YQ PassesOwn.never (by rfl) (YG (K := K) (pv 1)) (ZO (i := 3) nd1 (by rfl) (by first | exact Or.inl rfl | exact Or.inr rfl)) (Zv (Xi (V0 (ZaA (Xp hr.units) (pv 3) (pv 5))) (Zr (ZbW (i := 6) nd1 (by rfl) (by rfl) (by rfl) (CompSc.mk' (tn := ["other"]) (cn := ["reached", "room"]) (js := [2, 3]) (osc := Zo Xs) (oN := ["table", "among", "reached", "room", "parts", "placed", "part", "other"]) (by rfl) (by rfl) (by rfl) (by decide +kernel)) (YG (K := K) (pv 1)) (fun C s₂ H₂ fp => ZO (i := 0) nd2 (by rfl) (by first | exact Or.inl rfl | exact Or.inr rfl)) (fun C s₂ H₂ fp => (V8 (PW.pt (UI (V0 (Zdw (Xp hr.units) (pv 0) (ZbS (Xp hr.units) (pv 1) (pv 2) (fun _ _ => rfl)))) (Qv (V0 (Zdw (Xp hr.units) (pv 2) (ZbS (Xp hr.units) (pv 1) (pv 0) (fun _ _ => rfl))))))))) (fun C s₂ H₂ fp => (pv 0)))
 (Zr (X3 (X7 (K := K) PySem.F.plainAttrs_list PySem.F.slot_list_append PySem.F.type_list_append X4 (pv 4) (Ze (pv 6) Zk))) (Zv (YQ PassesOwn.never (by rfl) (YG (K := K) (pv 6)) (ZO (i := 7) nd1 (by rfl) (by first | exact Or.inl rfl | exact Or.inr rfl)) (Zv (QV (Xp hr.units) (pv 5) (pv 7) VY (by rfl))))))) Xh)))
 (Zv (Z5 (pv 4)))))))), ?_⟩
 unfold f_QJ
 exact (Zb3 (show VS _ _ [2] _ _ _ _ from Jf 2 Zb6 (by rfl) (by rfl) (by rfl) (by rfl))
 (Zb3 (show VS _ _ [] _ _ _ _ from VS.frzN 2 (XH (Xl (Zc 1 (by rfl))) (Yj 3 (by rfl) (by rfl)) (Jg 2 (by rfl) (Ye [] (by rfl) (Zg (Zc 0 (by rfl)) (Zg (Zc 1 (by rfl)) (Zg (Zc 3 (by rfl)) Zp)))) (Zc 3 (by rfl)))) (by rfl) (by rfl) (by rfl) (by rfl))
 (Zb2 4 (by rfl) (by rfl) Zb4
 (Jd (show VM _ _ [5] _ _ _ _ _ from Uk (fun _ => (show VS _ _ [5] _ _ _ _ from Jf 5 Zb6 (by rfl) (by rfl) (by rfl) (by rfl))) (by rfl))
 (Jd (Zeu 3 (by decide) (by rfl) (by rfl) (fun _ => (Zc 1 (by rfl))) (Zgv (XA (ZaE (Zc 3 (by rfl)) (Xy 5 (by rfl)))) (Uj (show VM _ _ [5, 6] _ _ _ _ _ from Uk (fun _ => (show VS _ _ [5, 6] _ _ _ _ from (VB 6 (Xm (by rfl) (Xl (Zc 1 (by rfl))) (Yj 0 (by rfl) (by rfl)) (U1 (XA (ZdD (Zc 0 (by rfl)) (Zb7 (Or.inl rfl) (Zc 1 (by rfl)) (Zc 2 (by rfl))))) (XA (ZdD (Zc 2 (by rfl)) (Zb7 (Or.inl rfl) (Zc 1 (by rfl)) (Zc 0 (by rfl)))))) (Zc 0 (by rfl))) (by rfl) (by rfl) (by rfl) (by rfl)))) (by rfl))
 (show VM _ _ [5] _ _ _ _ _ from ZbG 6 7 (by decide) (by decide) (by decide) (by rfl) (by rfl) (by rfl) (by rfl) (by rfl) (by rfl) (by rfl) (fun _ _ => (Jg 5 (by rfl) (Zw (d := (.bl true)) (by rfl) (by rfl)) (Zc 7 (by rfl)))))) Zej))
 Zb1)))))
theorem ZgO (T : Txt K mg t) : FnOk P w K mg base CX0 1 t.a_QL t.d_QL ["table", "among", "part"] (spD ⟨t.c, K⟩ 3 Qg) := by
 refine YU (φ := f_QL) T.f_QL ZgA (by conv => lhs; whnf) (by conv => lhs; whnf) (fun cdv A outer s H E hr => ?_) rfl rfl
 refine ⟨_, (Zr (ZC (i := 3) nd3 (by rfl) (by first | exact Or.inl rfl | exact Or.inr rfl) (X6 (by rfl) (CompSc.mk' (tn := ["room"]) (cn := ["part"]) (js := [2]) (osc := Zo Xb) (oN := ["table", "among", "part", "outside"]) (by rfl) (by rfl) (by rfl) (by decide +kernel)) (YG (K := K) (pv 1)) (fun C s₂ H₂ fp => ZO (i := 0) nd4 (by rfl) (by first | exact Or.inl rfl | exact Or.inr rfl)) (fun C s₂ H₂ fp => (V8 (Yo (QR (K := K)) (pv 0) (pv 1) (by rfl)))) (fun C s₂ H₂ fp => (pv 0))))
 (Zv (Z5 (Yp (Zgp (K := K)) (by rfl) T.n_all boot_all (Ze (Zde (by rfl) (CompSd.mk' (tn := ["room"]) (cn := ["table", "outside"]) (js := [0, 3]) (osc := Zo Xb) (oN := ["table", "among", "part", "outside"]) (by rfl) (by rfl) (by rfl) (by decide +kernel)) (YG (K := K) (pv 2)) (fun C s₂ H₂ fp => ZO (i := 0) nd5 (by rfl) (by first | exact Or.inl rfl | exact Or.inr rfl)) (fun C s₂ H₂ fp => V7) (fun C s₂ H₂ fp => (V2 (UW (cA := ⟨t.c, K⟩) (hr.units)) (Yp (ZfW (K := K)) (by rfl) T.n_sum boot_sum (Ze (X6 (by rfl) (CompSc.mk6 (tn := ["to"]) (cn := ["table", "room"]) (js := [1, 0]) (by rfl) (by decide +kernel)) (YG (K := K) (pv 2)) (fun C s₂ H₂ fp => ZO (i := 0) nd6 (by rfl) (by first | exact Or.inl rfl | exact Or.inr rfl)) (fun C s₂ H₂ fp => V7) (fun C s₂ H₂ fp => (ZS (ZT (K := K)) (ZS (ZT (K := K)) (pv 1) (pv 2) (fun _ _ => rfl)) (pv 0) (fun _ _ => rfl)))) Zk)) Zy (Yh _)))) Zk))))), [], ?_⟩
 unfold f_QL
 exact (ZA (show VS _ _ [] _ _ _ _ from (Z9 3 (VF.cl (Xm (by rfl) (Xl (Zc 1 (by rfl))) (Yj 0 (by rfl) (by rfl)) (Yq (Zn U0 (Zc 0 (by rfl)) (Zc 1 (by rfl)))) (Zc 0 (by rfl)))) (by rfl) (by rfl) (by rfl) (by rfl)))
 (Yi (Yz ZfU (Zg (VF.cl (Xm (by rfl) (Xl (Zc 2 (by rfl))) (Yj 0 (by rfl) (by rfl)) Ue (Zn UY (Yz Zee (Zg (VF.cl (Xm (by rfl) (Xl (Zc 2 (by rfl))) (Yj 0 (by rfl) (by rfl)) Ue (Zn Z7 (Zn Z7 (Zc 1 (by rfl)) (Zc 2 (by rfl))) (Zc 0 (by rfl))))) Zp)) (Zw (d := (.int 0)) (by rfl) (by rfl))))) Zp))))
theorem ZgP (T : Txt K mg t) : FnOk P w K mg base CX0 3 t.a_QG t.d_QG ["table", "weights"] (spL ⟨t.c, K⟩ 2 Ut) := by
 have G_QL := (ZgO (P := P) (w := w) (base := base) T).mono (k := 2) (by decide)
 have G_QJ := (ZgN (P := P) (w := w) (base := base) T).mono (k := 2) (by decide)
 refine Zgw (φ := f_QG) T.f_QG ZgB (by conv => lhs; whnf) (by conv => lhs; whnf) (fun cdv A outer s H E hr => ?_) rfl rfl
 refine ⟨_, (Zr (ZC (i := 2) nd7 (by rfl) (by first | exact Or.inl rfl | exact Or.inr rfl) (X6 (by rfl) (CompSc.mk' (tn := ["room", "weight"]) (cn := []) (js := []) (osc := Zo Xc) (oN := ["table", "weights", "among"]) (by rfl) (by rfl) (by rfl) (by decide +kernel)) (Zc7 (K := K) (by rfl) T.n_enumerate (pv 1)) (fun C s₂ H₂ fp => Zgq (K := K) (n := 2) (Za2 (ZO (i := 0) nd8 (by rfl) (by first | exact Or.inl rfl | exact Or.inr rfl)) (Za2 (ZO (i := 1) nd8 (by rfl) (by first | exact Or.inl rfl | exact Or.inr rfl)) ZdZ))) (fun C s₂ H₂ fp => (V8 (Yo Vl (pv 1) Zy (Yh _)))) (fun C s₂ H₂ fp => (pv 0))))
 (Zv (Z5 (ZS (ZT (K := K)) (X6 (by rfl) (CompSc.mk' (tn := ["part"]) (cn := ["table", "among"]) (js := [0, 2]) (osc := Zo Xc) (oN := ["table", "weights", "among"]) (by rfl) (by rfl) (by rfl) (by decide +kernel)) (YG (K := K) (Z0 (G_QJ) hr (by rfl) T.g_QJ T.k_QJ T.b_QJ .nil Z2 (Ze (pv 0) (Ze (pv 2) Zk)))) (fun C s₂ H₂ fp => ZO (i := 0) nd9 (by rfl) (by first | exact Or.inl rfl | exact Or.inr rfl)) (fun C s₂ H₂ fp => (V8 (Qu (Z0 (G_QL) hr (by rfl) T.g_QL T.k_QL T.b_QL .nil Z2 (Ze (pv 1) (Ze (pv 2) (Ze (pv 0) Zk))))))) (fun C s₂ H₂ fp => (pv 0))) Zy (fun _ _ => rfl))))), ?_⟩
 unfold f_QG
 exact (Zeo (show VS _ _ [] _ _ _ _ from (Z9 2 (VF.cl (Xm (by rfl) (Zc8 (Zc 1 (by rfl))) (ZfV (Zba 0 (by rfl) (by rfl) (Zba 1 (by rfl) (by rfl) Zec))) (Yq (Zn Xz (Zc 1 (by rfl)) (Zw (d := (.int 0)) (by rfl) (by rfl)))) (Zc 0 (by rfl)))) (by rfl) (by rfl) (by rfl) (by rfl)))
 (Zc5 (Zew (n := 0) (by rfl) (Zbd [] (by rfl) (Zg (Zc 0 (by rfl)) (Zg (Zc 2 (by rfl)) Zp))) (XA (Ye [] (by rfl) (Zg (Zc 1 (by rfl)) (Zg (Zc 2 (by rfl)) (Zg (Zc 0 (by rfl)) Zp))))))))
theorem Zfk (T : Txt K mg t) : FnOk P w K mg base CX0 1 t.a_QC t.d_QC ["script", "k"] (spD ⟨t.c, K⟩ 2 YV) := by
 refine YU (φ := f_QC) T.f_QC ZgC (by conv => lhs; whnf) (by conv => lhs; whnf) (fun cdv A outer s H E hr => ?_) rfl rfl
 refine ⟨_, (Zr (Xi (Yo ZeX (pv 1) (Yp (Xx (K := K)) (by rfl) T.n_len boot_len (Ze (pv 0) Zk)) (Yh _)) (Zv (Z5 (ZS (ZT (K := K)) (pv 0) (pv 1) (fun _ _ => rfl)))) Xh)
 (Zv (Z5 Zy))), [], ?_⟩
 unfold f_QC
 exact (ZA (XD (Yq (Zn Xz (Zc 1 (by rfl)) (Yz XB (Zg (Zc 0 (by rfl)) Zp)))) (Yi (Zn Z7 (Zc 0 (by rfl)) (Zc 1 (by rfl)))) XC)
 (Yi (Zw (d := (.int 0)) (by rfl) (by rfl))))
theorem ZgQ (T : Txt K mg t) : FnOk P w K mg base CX0 1 t.a_QA t.d_QA ["found"] (spD ⟨t.c, K⟩ 1 Qh) := by
 refine YU (φ := f_QA) T.f_QA ZgD (by conv => lhs; whnf) (by conv => lhs; whnf) (fun cdv A outer s H E hr => ?_) rfl rfl
 refine ⟨_, (Zv (Z5 (J8 (Yp (Q4 (K := K)) (by rfl) T.n_isinstance boot_isinstance (Ze (pv 0) (Ze (Qt (v := .ty "int") (by rfl) T.n_int boot_int rfl) Zk))) (J7 (ZfD (Yp (Q4 (K := K)) (by rfl) T.n_isinstance boot_isinstance (Ze (pv 0) (Ze (Qt (v := .ty "bool") (by rfl) T.n_bool boot_bool rfl) Zk)))))))), [], ?_⟩
 unfold f_QA
 exact (Yi (Zdz (Q7 (fun _ h => h) T.isi_int (Zc 0 (by rfl))) (ZfT (Q7 (fun _ h => h) T.isi_bool (Zc 0 (by rfl))))))
theorem Zfl (T : Txt K mg t) : FnOk P w K mg base CX0 1 t.a_QE t.d_QE ["table", "n", "weights"] (spD ⟨t.c, K⟩ 3 VQ) := by
 refine YU (φ := f_QE) T.f_QE ZgE (by conv => lhs; whnf) (by conv => lhs; whnf) (fun cdv A outer s H E hr => ?_) rfl rfl
 refine ⟨_, (Zr (ZC (i := 3) Uy (by rfl) (by first | exact Or.inl rfl | exact Or.inr rfl) (Xu Zk))
 (Zr ((YQ PassesOwn.never (by rfl) (Xt (by rfl) T.n_range (Ze (Yp (Xx (K := K)) (by rfl) T.n_len boot_len (Ze (pv 0) Zk)) Zk)) (ZO (i := 4) Uy (by rfl) (by first | exact Or.inl rfl | exact Or.inr rfl)) (Zr (ZC (i := 5) Uy (by rfl) (by first | exact Or.inl rfl | exact Or.inr rfl) Zy)
 (Zr ((YQ PassesOwn.never (by rfl) (Xt (by rfl) T.n_range (Ze (Yp (Xx (K := K)) (by rfl) T.n_len boot_len (Ze (pv 0) Zk)) Zk)) (ZO (i := 6) Uy (by rfl) (by first | exact Or.inl rfl | exact Or.inr rfl)) (Zv (ZC (i := 5) Uy (by rfl) (by first | exact Or.inl rfl | exact Or.inr rfl) (ZP (Y5 (K := K)) (pv 5) (ZP (U8 (K := K)) (ZS (ZT (K := K)) (ZS (ZT (K := K)) (pv 0) (pv 4) (fun _ _ => rfl)) (pv 6) (fun _ _ => rfl)) (ZS (ZT (K := K)) (pv 2) (pv 6) (fun _ _ => rfl))))))))
 (Zv (X3 (X7 (K := K) PySem.F.plainAttrs_list PySem.F.slot_list_append PySem.F.type_list_append X4 (pv 3) (Ze (Yp (Zf1 (K := K)) (by rfl) T.n_min boot_min (Ze (Xu (Ze (ZS (ZT (K := K)) (pv 2) (pv 4) (fun _ _ => rfl)) (Ze (ZP ZbL (pv 5) (pv 1)) Zk))) Zk)) Zk))))))))
 (Zv (Z5 (pv 3))))), [], ?_⟩
 unfold f_QE
 exact (ZA (show VS _ _ [3] _ _ _ _ from (VB 3 (Vx Zp) (by rfl) (by rfl) (by rfl) (by rfl)))
 (ZA (XH (X9 (Zg (Yz XB (Zg (Zc 0 (by rfl)) Zp)) Zp) XI) (Yj 4 (by rfl) (by rfl)) (ZA (show VS _ _ [3] _ _ _ _ from (Z9 5 (Zw (d := (.int 0)) (by rfl) (by rfl)) (by rfl) (by rfl) (by rfl) (by rfl)))
 (ZA (XH (X9 (Zg (Yz XB (Zg (Zc 0 (by rfl)) Zp)) Zp) XI) (Yj 6 (by rfl) (by rfl)) (show VS _ _ [3] _ _ _ _ from (Z9 5 (Zn Y6 (Zc 5 (by rfl)) (Zn U9 (Zn Z7 (Zn Z7 (Zc 0 (by rfl)) (Zc 4 (by rfl))) (Zc 6 (by rfl))) (Zn Z7 (Zc 2 (by rfl)) (Zc 6 (by rfl))))) (by rfl) (by rfl) (by rfl) (by rfl))))
 (Uh 3 (by rfl) (Yz Zes (Zg (VF.cl (Vx (Zg (Zn Z7 (Zc 2 (by rfl)) (Zc 4 (by rfl))) (Zg (Zn ZbT (Zc 5 (by rfl)) (Zc 1 (by rfl))) Zp)))) Zp))))))
 (VS.frz (ow1 := []) 3 (Yi (Zc 3 (by rfl))) (by rfl) (by rfl) (by rfl) (by rfl))))
theorem ZgR (T : Txt K mg t) : FnOk P w K mg base CX0 2 t.a_QI t.d_QI ["table", "n", "weights"] (spD ⟨t.c, K⟩ 3 Uu) := by
 have G_QE := (Zfl (P := P) (w := w) (base := base) T).mono (k := 1) (by decide)
 refine YU (φ := f_QI) T.f_QI ZgF (by conv => lhs; whnf) (by conv => lhs; whnf) (fun cdv A outer s H E hr => ?_) rfl rfl
 refine ⟨_, (Zr (ZC (i := 3) JB (by rfl) (by first | exact Or.inl rfl | exact Or.inr rfl) (Z0 (G_QE) hr (by rfl) T.g_QE T.k_QE T.b_QE .nil Z2 (Ze (pv 0) (Ze (pv 1) (Ze (pv 2) Zk)))))
 (Zr ((Qy PassesOwn.never (Yo (UX (cA := ⟨t.c, K⟩) (hr.units)) (pv 3) (pv 2) (Yh _)) (Zr (ZC (i := 2) JB (by rfl) (by first | exact Or.inl rfl | exact Or.inr rfl) (pv 3))
 (Zv (ZC (i := 3) JB (by rfl) (by first | exact Or.inl rfl | exact Or.inr rfl) (Z0 (G_QE) hr (by rfl) T.g_QE T.k_QE T.b_QE .nil Z2 (Ze (pv 0) (Ze (pv 1) (Ze (pv 2) Zk)))))))))
 (Zv (Z5 (pv 2))))), [], ?_⟩
 unfold f_QI
 exact (ZA (show VS _ _ [] _ _ _ _ from (Z9 3 (Ye [] (by rfl) (Zg (Zc 0 (by rfl)) (Zg (Zc 1 (by rfl)) (Zg (Zc 2 (by rfl)) Zp)))) (by rfl) (by rfl) (by rfl) (by rfl)))
 (ZA (Q1 (Yq (Zn UZ (Zc 3 (by rfl)) (Zc 2 (by rfl)))) (ZA (show VS _ _ [] _ _ _ _ from (Z9 2 (Zc 3 (by rfl)) (by rfl) (by rfl) (by rfl) (by rfl)))
 (show VS _ _ [] _ _ _ _ from (Z9 3 (Ye [] (by rfl) (Zg (Zc 0 (by rfl)) (Zg (Zc 1 (by rfl)) (Zg (Zc 2 (by rfl)) Zp)))) (by rfl) (by rfl) (by rfl) (by rfl)))))
 (Yi (Zc 2 (by rfl)))))
theorem ZgS (T : Txt K mg t) : FnOk P w K mg base CX0 2 t.a_QK t.d_QK ["script", "many"] (spM ⟨t.c, K⟩ 2 Uv) := by
 have G_QC := (Zfk (P := P) (w := w) (base := base) T).mono (k := 1) (by decide)
 refine Zfj (φ := f_QK) T.f_QK ZgG (by conv => lhs; whnf) (by conv => lhs; whnf) (fun cdv A outer s H E hr => ?_) rfl rfl
 refine ⟨_, (Zr (ZC (i := 2) Uz (by rfl) (by first | exact Or.inl rfl | exact Or.inr rfl) (Xu Zk))
 (Zr (YQ PassesOwn.never (by rfl) (Xt (by rfl) T.n_range (Ze (pv 1) Zk)) (ZO (i := 3) Uz (by rfl) (by first | exact Or.inl rfl | exact Or.inr rfl)) (Zr (ZC (i := 4) Uz (by rfl) (by first | exact Or.inl rfl | exact Or.inr rfl) (Xu Zk))
 (Zr ((YQ PassesOwn.never (by rfl) (Xt (by rfl) T.n_range (Ze (pv 1) Zk)) (ZO (i := 5) Uz (by rfl) (by first | exact Or.inl rfl | exact Or.inr rfl)) (Zr (ZC (i := 6) Uz (by rfl) (by first | exact Or.inl rfl | exact Or.inr rfl) (Z0 (G_QC) hr (by rfl) T.g_QC T.k_QC T.b_QC .nil Z2 (Ze (pv 0) (Ze (ZP (Y5 (K := K)) (ZP (Y5 (K := K)) Zy (ZP (U8 (K := K)) (pv 3) (pv 1))) (pv 5)) Zk))))
 (Zv (X3 (X7 (K := K) PySem.F.plainAttrs_list PySem.F.slot_list_append PySem.F.type_list_append X4 (pv 4) (Ze (ZP (U8 (K := K)) (UN Zay (by rfl) T.n_int boot_int (Ze (V2 (UW (cA := ⟨t.c, K⟩) (hr.units)) (ZP Vk (pv 6) Zy) Zy (Yh _)) Zk)) (ZP (Y5 (K := K)) Zy (ZP Vk (ZP ZbL (pv 6) Zy) Zy))) Zk)))))))
 (Zv (X3 (X7 (K := K) PySem.F.plainAttrs_list PySem.F.slot_list_append PySem.F.type_list_append X4 (pv 2) (Ze (pv 4) Zk)))))))
 (Zv (Z5 (pv 2))))), ?_⟩
 unfold f_QK
 exact (Zb2 2 (by rfl) (by rfl) Zb4
 (Jd (ZfZ 3 (by decide) (by rfl) (by rfl) (Zc4 (Zg (Zc 1 (by rfl)) Zp) XI) (Uj (show VM _ _ [4] _ _ _ _ _ from Uk (fun _ => (show VS _ _ [4] _ _ _ _ from (VB 4 (Vx Zp) (by rfl) (by rfl) (by rfl) (by rfl)))) (by rfl))
 (Uj (show VM _ _ [4] _ _ _ _ _ from Uk (fun _ => (XH (X9 (Zg (Zc 1 (by rfl)) Zp) XI) (Yj 5 (by rfl) (by rfl)) (ZA (show VS _ _ [4] _ _ _ _ from (Z9 6 (Ye [] (by rfl) (Zg (Zc 0 (by rfl)) (Zg (Zn Y6 (Zn Y6 (Zw (d := (.int 10)) (by rfl) (by rfl)) (Zn U9 (Zc 3 (by rfl)) (Zc 1 (by rfl)))) (Zc 5 (by rfl))) Zp))) (by rfl) (by rfl) (by rfl) (by rfl)))
 (Uh 4 (by rfl) (Zn U9 (Yz ZdB (Zg (Zn UY (Zn Vv (Zc 6 (by rfl)) (Zw (d := (.int 4)) (by rfl) (by rfl))) (Zw (d := (.int 1)) (by rfl) (by rfl))) Zp)) (Zn Y6 (Zw (d := (.int 1)) (by rfl) (by rfl)) (Zn Vv (Zn ZbT (Zc 6 (by rfl)) (Zw (d := (.int 4)) (by rfl) (by rfl))) (Zw (d := (.int 5)) (by rfl) (by rfl))))))))) (by rfl))
 (show VM _ _ [] _ _ _ _ _ from Zb0 4 (by decide) (by rfl) (by rfl) (by rfl) (by rfl) (by rfl)))))
 Zb1))
theorem ZgT (T : Txt K mg t) : FnOk P w K mg base CX0 1 t.a_QD t.d_QD ["table", "weights", "room"] (spD ⟨t.c, K⟩ 3 XO) := by
 refine YU (φ := f_QD) T.f_QD ZgH (by conv => lhs; whnf) (by conv => lhs; whnf) (fun cdv A outer s H E hr => ?_) rfl rfl
 refine ⟨_, (Zr (ZC (i := 3) Qj (by rfl) (by first | exact Or.inl rfl | exact Or.inr rfl) (Xu (Ze (pv 2) Zk)))
 (Zr (ZC (i := 4) Qj (by rfl) (by first | exact Or.inl rfl | exact Or.inr rfl) Zy)
 (Zr ((Qy PassesOwn.never (Yo ZeX (pv 4) (Yp (Xx (K := K)) (by rfl) T.n_len boot_len (Ze (pv 3) Zk)) (Yh _)) (Zr ((YQ PassesOwn.never (by rfl) (Xt (by rfl) T.n_range (Ze (Yp (Xx (K := K)) (by rfl) T.n_len boot_len (Ze (pv 1) Zk)) Zk)) (ZO (i := 5) Qj (by rfl) (by first | exact Or.inl rfl | exact Or.inr rfl)) (Zv (Xi (PW.pt (UI (Yo (QR (K := K)) (pv 5) (pv 3) (by rfl)) (UI (Yo Vl (ZS (ZT (K := K)) (pv 1) (pv 5) (fun _ _ => rfl)) Zy (Yh _)) (Qv (Yo (UX (cA := ⟨t.c, K⟩) (hr.units)) (ZS (ZT (K := K)) (ZS (ZT (K := K)) (pv 0) (ZS (ZT (K := K)) (pv 3) (pv 4) (fun _ _ => rfl)) (fun _ _ => rfl)) (pv 5) (fun _ _ => rfl)) Zy (Yh _)))))) (Zv (X3 (X7 (K := K) PySem.F.plainAttrs_list PySem.F.slot_list_append PySem.F.type_list_append X4 (pv 3) (Ze (pv 5) Zk)))) Xh))))
 (Zv (ZC (i := 4) Qj (by rfl) (by first | exact Or.inl rfl | exact Or.inr rfl) (ZP (Y5 (K := K)) (pv 4) Zy))))))
 (Zv (Z5 (Yp (Zer (K := K)) (by rfl) T.n_sorted boot_sorted (Ze (pv 3) Zk))))))), [], ?_⟩
 unfold f_QD
 exact (ZA (show VS _ _ [3] _ _ _ _ from (VB 3 (Vx (Zg (Zc 2 (by rfl)) Zp)) (by rfl) (by rfl) (by rfl) (by rfl)))
 (ZA (show VS _ _ [3] _ _ _ _ from (Z9 4 (Zw (d := (.int 0)) (by rfl) (by rfl)) (by rfl) (by rfl) (by rfl) (by rfl)))
 (ZA (Q1 (Yq (Zn Xz (Zc 4 (by rfl)) (Yz XB (Zg (Xy 3 (by rfl)) Zp)))) (ZA (XH (X9 (Zg (Yz XB (Zg (Zc 1 (by rfl)) Zp)) Zp) XI) (Yj 5 (by rfl) (by rfl)) (XD (U1 (Yq (Zn U0 (Zc 5 (by rfl)) (Xy 3 (by rfl)))) (U1 (Yq (Zn Xz (Zn Z7 (Zc 1 (by rfl)) (Zc 5 (by rfl))) (Zw (d := (.int 0)) (by rfl) (by rfl)))) (Yq (Zn UZ (Zn Z7 (Zn Z7 (Zc 0 (by rfl)) (Zn Z7 (Xy 3 (by rfl)) (Zc 4 (by rfl)))) (Zc 5 (by rfl))) (Zw (d := (.int 0)) (by rfl) (by rfl)))))) (Uh 3 (by rfl) (Zc 5 (by rfl))) XC))
 (show VS _ _ [3] _ _ _ _ from (Z9 4 (Zn Y6 (Zc 4 (by rfl)) (Zw (d := (.int 1)) (by rfl) (by rfl))) (by rfl) (by rfl) (by rfl) (by rfl)))))
 (VS.frz (ow1 := []) 3 (Yi (VF.cl (Zet (Or.inl rfl) (Zg (Zc 3 (by rfl)) Zp)))) (by rfl) (by rfl) (by rfl) (by rfl)))))
theorem ZgU (T : Txt K mg t) : FnOk P w K mg base CX0 2 t.a_QF t.d_QF ["table", "weights", "room"] (spD ⟨t.c, K⟩ 3 Vh) := by
 have G_QD := (ZgT (P := P) (w := w) (base := base) T).mono (k := 1) (by decide)
 refine YU (φ := f_QF) T.f_QF ZgI (by conv => lhs; whnf) (by conv => lhs; whnf) (fun cdv A outer s H E hr => ?_) rfl rfl
 refine ⟨_, (Zr (ZC (i := 3) Zhs (by rfl) (by first | exact Or.inl rfl | exact Or.inr rfl) (Z0 (G_QD) hr (by rfl) T.g_QD T.k_QD T.b_QD .nil Z2 (Ze (pv 0) (Ze (pv 1) (Ze (pv 2) Zk)))))
 (Zr ((YQ PassesOwn.never (by rfl) (YG (K := K) (pv 3)) (ZO (i := 4) Zhs (by rfl) (by first | exact Or.inl rfl | exact Or.inr rfl)) (Zv (Xi (Yo (QR (K := K)) (pv 2) (Z0 (G_QD) hr (by rfl) T.g_QD T.k_QD T.b_QD .nil Z2 (Ze (pv 0) (Ze (pv 1) (Ze (pv 4) Zk)))) (by rfl)) (Zv (Z5 ZfB)) Xh))))
 (Zv (Z5 (pv 3))))), [], ?_⟩
 unfold f_QF
 exact (ZA (show VS _ _ [] _ _ _ _ from (Z9 3 (Ye [] (by rfl) (Zg (Zc 0 (by rfl)) (Zg (Zc 1 (by rfl)) (Zg (Zc 2 (by rfl)) Zp)))) (by rfl) (by rfl) (by rfl) (by rfl)))
 (ZA (XH (Xl (Zc 3 (by rfl))) (Yj 4 (by rfl) (by rfl)) (XD (Yq (Zn U0 (Zc 2 (by rfl)) (Ye [] (by rfl) (Zg (Zc 0 (by rfl)) (Zg (Zc 1 (by rfl)) (Zg (Zc 4 (by rfl)) Zp)))))) (Yi (Zw (d := .non) (by rfl) (by rfl))) XC))
 (Yi (Zc 3 (by rfl)))))
theorem ZgV (T : Txt K mg t) : FnOk P w K mg base CX0 3 t.a_QM t.d_QM ["table", "weights"] (spD ⟨t.c, K⟩ 2 Uw) := by
 have G_QF := (ZgU (P := P) (w := w) (base := base) T).mono (k := 2) (by decide)
 refine YU (φ := f_QM) T.f_QM ZgJ (by conv => lhs; whnf) (by conv => lhs; whnf) (fun cdv A outer s H E hr => ?_) rfl rfl
 refine ⟨_, (Zr ((YQ PassesOwn.never (by rfl) (Xt (by rfl) T.n_range (Ze (Yp (Xx (K := K)) (by rfl) T.n_len boot_len (Ze (pv 1) Zk)) Zk)) (ZO (i := 2) Zht (by rfl) (by first | exact Or.inl rfl | exact Or.inr rfl)) (Zv (Xi (Yo Vl (ZS (ZT (K := K)) (pv 1) (pv 2) (fun _ _ => rfl)) Zy (Yh _)) (Zr (ZC (i := 3) Zht (by rfl) (by first | exact Or.inl rfl | exact Or.inr rfl) (Z0 (G_QF) hr (by rfl) T.g_QF T.k_QF T.b_QF .nil Z2 (Ze (pv 0) (Ze (pv 1) (Ze (pv 2) Zk)))))
 (Zv (Xi (V0 (ZdY (pv 3))) (Zv (Z5 (pv 3))) Xh))) Xh))))
 (Zv (Z5 (Xu Zk)))), [], ?_⟩
 unfold f_QM
 exact (ZA (XH (X9 (Zg (Yz XB (Zg (Zc 1 (by rfl)) Zp)) Zp) XI) (Yj 2 (by rfl) (by rfl)) (XD (Yq (Zn Xz (Zn Z7 (Zc 1 (by rfl)) (Zc 2 (by rfl))) (Zw (d := (.int 0)) (by rfl) (by rfl)))) (ZA (show VS _ _ [] _ _ _ _ from (Z9 3 (Ye [] (by rfl) (Zg (Zc 0 (by rfl)) (Zg (Zc 1 (by rfl)) (Zg (Zc 2 (by rfl)) Zp)))) (by rfl) (by rfl) (by rfl) (by rfl)))
 (XD (XA (Zeb (Zc 3 (by rfl)))) (Yi (Zc 3 (by rfl))) XC)) XC))
 (Yi (VF.cl (Vx Zp))))
theorem ZgW (T : Txt K mg t) : FnOk P w K mg base CX0 2 t.a_QH t.d_QH ["table", "n", "weights"] (spD ⟨t.c, K⟩ 3 Ux) := by
 have G_QE := (Zfl (P := P) (w := w) (base := base) T).mono (k := 1) (by decide)
 refine YU (φ := f_QH) T.f_QH ZgK (by conv => lhs; whnf) (by conv => lhs; whnf) (fun cdv A outer s H E hr => ?_) rfl rfl
 refine ⟨_, (Zv (Z5 (V2 (UW (cA := ⟨t.c, K⟩) (hr.units)) (Z0 (G_QE) hr (by rfl) T.g_QE T.k_QE T.b_QE .nil Z2 (Ze (pv 0) (Ze (pv 1) (Ze (pv 2) Zk)))) (pv 2) (Yh _)))), [], ?_⟩
 unfold f_QH
 exact (Yi (Zn UY (Ye [] (by rfl) (Zg (Zc 0 (by rfl)) (Zg (Zc 1 (by rfl)) (Zg (Zc 2 (by rfl)) Zp)))) (Zc 2 (by rfl))))
theorem ZgX (T : Txt K mg t) : FnOk P w K mg base CX0 4 t.a_QN t.d_QN ["script"] (spD ⟨t.c, K⟩ 1 Qi) := by
 have G_QH := (ZgW (P := P) (w := w) (base := base) T).mono (k := 3) (by decide)
 have G_QI := (ZgR (P := P) (w := w) (base := base) T).mono (k := 3) (by decide)
 have G_QC := (Zfk (P := P) (w := w) (base := base) T).mono (k := 3) (by decide)
 have G_QM := (ZgV (P := P) (w := w) (base := base) T).mono (k := 3) (by decide)
 have G_QA := (ZgQ (P := P) (w := w) (base := base) T).mono (k := 3) (by decide)
 have G_QK := (ZgS (P := P) (w := w) (base := base) T).mono (k := 3) (by decide)
 have G_QG := (ZgP (P := P) (w := w) (base := base) T).mono (k := 3) (by decide)
 refine YU (φ := f_QN) T.f_QN ZgL (by conv => lhs; whnf) (by conv => lhs; whnf) (fun cdv A outer s H E hr => ?_) rfl rfl
 refine ⟨_, (Zr (ZC (i := 1) X1 (by rfl) (by first | exact Or.inl rfl | exact Or.inr rfl) (ZP (Y5 (K := K)) Zy (ZP Vk (Z0 (G_QC) hr (by rfl) T.g_QC T.k_QC T.b_QC .nil Z2 (Ze (pv 0) (Ze Zy Zk))) Zy)))
 (Zr (ZC (i := 2) X1 (by rfl) (by first | exact Or.inl rfl | exact Or.inr rfl) (ZP (Y5 (K := K)) Zy (ZP Vk (Z0 (G_QC) hr (by rfl) T.g_QC T.k_QC T.b_QC .nil Z2 (Ze (pv 0) (Ze Zy Zk))) Zy)))
 (Zr (ZC (i := 3) X1 (by rfl) (by first | exact Or.inl rfl | exact Or.inr rfl) (Z0 (G_QK) hr (by rfl) T.g_QK T.k_QK T.b_QK .nil Z2 (Ze (pv 0) (Ze (pv 1) Zk))))
 (Zr (ZC (i := 4) X1 (by rfl) (by first | exact Or.inl rfl | exact Or.inr rfl) (ZP Vk (Z0 (G_QC) hr (by rfl) T.g_QC T.k_QC T.b_QC .nil Z2 (Ze (pv 0) (Ze Zy Zk))) (pv 1)))
 (Zr (ZfG (ZP (Y5 (K := K)) (ZS (ZT (K := K)) (ZS (ZT (K := K)) (pv 3) (pv 4) (fun _ _ => rfl)) (pv 4) (fun _ _ => rfl)) (pv 2)) (ZfF (ZS (ZT (K := K)) (pv 3) (pv 4) (fun _ _ => rfl)) (pv 4) ZcW))
 (Zr (ZC (i := 5) X1 (by rfl) (by first | exact Or.inl rfl | exact Or.inr rfl) (Z0 (G_QI) hr (by rfl) T.g_QI T.k_QI T.b_QI .nil Z2 (Ze (pv 3) (Ze (pv 2) (Ze (X6 (by rfl) (CompSc.mk' (tn := ["k"]) (cn := ["script"]) (js := [0]) (osc := Zo Ys) (oN := ["script", "many", "n", "table", "sure", "weights", "handed", "found", "alone"]) (by rfl) (by rfl) (by rfl) (by decide +kernel)) (Xt (by rfl) T.n_range (Ze (pv 1) Zk)) (fun C s₂ H₂ fp => ZO (i := 0) ZhG (by rfl) (by first | exact Or.inl rfl | exact Or.inr rfl)) (fun C s₂ H₂ fp => V7) (fun C s₂ H₂ fp => (ZP (Y5 (K := K)) Zy (ZP Vk (Z0 (G_QC) hr (by rfl) T.g_QC T.k_QC T.b_QC .nil Z2 (Ze (pv 1) (Ze (ZP (Y5 (K := K)) Zy (pv 0)) Zk))) Zy)))) Zk)))))
 (Zr (ZC (i := 6) X1 (by rfl) (by first | exact Or.inl rfl | exact Or.inr rfl) (QD (Ze (X6 (by rfl) (CompSc.mk' (tn := ["row"]) (cn := []) (js := []) (osc := Zo Ys) (oN := ["script", "many", "n", "table", "sure", "weights", "handed", "found", "alone"]) (by rfl) (by rfl) (by rfl) (by decide +kernel)) (YG (K := K) (pv 3)) (fun C s₂ H₂ fp => ZO (i := 0) ZhH (by rfl) (by first | exact Or.inl rfl | exact Or.inr rfl)) (fun C s₂ H₂ fp => V7) (fun C s₂ H₂ fp => (UN (Zam (K := K)) (by rfl) T.n_list boot_list (Ze (pv 0) Zk)))) (Ze (UN (Zam (K := K)) (by rfl) T.n_list boot_list (Ze (pv 5) Zk)) Zk))))
 (Zr (ZC (i := 7) X1 (by rfl) (by first | exact Or.inl rfl | exact Or.inr rfl) (Z0 (G_QG) hr (by rfl) T.g_QG T.k_QG T.b_QG .nil Z2 (Ze (ZS (ZT (K := K)) (pv 6) Zy (fun _ _ => rfl)) (Ze (ZS (ZT (K := K)) (pv 6) Zy (fun _ _ => rfl)) Zk))))
 (Zr (Xi (PW.pt (J0 (Yo (UX (cA := ⟨t.c, K⟩) (hr.units)) (pv 6) (QD (Ze (pv 3) (Ze (pv 5) Zk))) (Yh _)) (J0 (J4 (Qu (Yp (Q4 (K := K)) (by rfl) T.n_isinstance boot_isinstance (Ze (pv 7) (Ze (Qt (v := .ty "list") (by rfl) T.n_list boot_list rfl) Zk))))) (ZfC (Yo (UX (cA := ⟨t.c, K⟩) (hr.units)) (pv 7) (Z0 (G_QM) hr (by rfl) T.g_QM T.k_QM T.b_QM .nil Z2 (Ze (pv 3) (Ze (pv 5) Zk))) (Yh _)))))) (Zv (Z5 VY)) Xh)
 (Zr (Xi (Yo Vl (Yp (Xx (K := K)) (by rfl) T.n_len boot_len (Ze (X6 (by rfl) (CompSc.mk' (tn := ["room"]) (cn := []) (js := []) (osc := Zo Ys) (oN := ["script", "many", "n", "table", "sure", "weights", "handed", "found", "alone"]) (by rfl) (by rfl) (by rfl) (by decide +kernel)) (YG (K := K) (pv 7)) (fun C s₂ H₂ fp => ZO (i := 0) ZhI (by rfl) (by first | exact Or.inl rfl | exact Or.inr rfl)) (fun C s₂ H₂ fp => (V8 (J4 (Qu (Z0 (G_QA) hr (by rfl) T.g_QA T.k_QA T.b_QA .nil Z2 (Ze (pv 0) Zk)))))) (fun C s₂ H₂ fp => (pv 0))) Zk)) Zy (Yh _)) (Zv (Z5 VY)) Xh)
 (Zr (ZbW (i := 8) X1 (by rfl) (by rfl) (by rfl) (CompSc.mk' (tn := ["k"]) (cn := ["weights", "found"]) (js := [5, 7]) (osc := Zo Ys) (oN := ["script", "many", "n", "table", "sure", "weights", "handed", "found", "alone"]) (by rfl) (by rfl) (by rfl) (by decide +kernel)) (Xt (by rfl) T.n_range (Ze (pv 1) Zk)) (fun C s₂ H₂ fp => ZO (i := 0) ZhJ (by rfl) (by first | exact Or.inl rfl | exact Or.inr rfl)) (fun C s₂ H₂ fp => V7) (fun C s₂ H₂ fp => (ZP (U8 (K := K)) (ZS (ZT (K := K)) (pv 1) (pv 0) (fun _ _ => rfl)) (UN Zay (by rfl) T.n_int boot_int (Ze (V2 (Zgo (K := K)) (pv 0) (pv 2) (by rfl)) Zk)))))
 (Zr (X3 (X7 (K := K) PySem.F.plainAttrs_list PySem.F.slot_list_append PySem.F.type_list_append X4 (pv 7) (Ze Zy Zk)))
 (Zv (Z5 (J8 (V2 (UW (cA := ⟨t.c, K⟩) (hr.units)) (pv 6) (QD (Ze (pv 3) (Ze (pv 5) Zk))) (Yh _)) (J7 (Z0 (G_QH) hr (by rfl) T.g_QH T.k_QH T.b_QH .nil Z2 (Ze (pv 3) (Ze (pv 2) (Ze (pv 8) Zk)))))))))))))))))))), [], ?_⟩
 unfold f_QN
 exact (ZA (show VS _ _ [] _ _ _ _ from (Z9 1 (Zn Y6 (Zw (d := (.int 1)) (by rfl) (by rfl)) (Zn Vv (Ye [] (by rfl) (Zg (Zc 0 (by rfl)) (Zg (Zw (d := (.int 0)) (by rfl) (by rfl)) Zp))) (Zw (d := (.int 7)) (by rfl) (by rfl)))) (by rfl) (by rfl) (by rfl) (by rfl)))
 (ZA (show VS _ _ [] _ _ _ _ from (Z9 2 (Zn Y6 (Zw (d := (.int 1)) (by rfl) (by rfl)) (Zn Vv (Ye [] (by rfl) (Zg (Zc 0 (by rfl)) (Zg (Zw (d := (.int 1)) (by rfl) (by rfl)) Zp))) (Zw (d := (.int 4)) (by rfl) (by rfl)))) (by rfl) (by rfl) (by rfl) (by rfl)))
 (Zf0 3 (by rfl) (by rfl) (Zbd [] (by rfl) (Zg (Zc 0 (by rfl)) (Zg (Zc 1 (by rfl)) Zp)))
 (Uj (show VM _ _ [] _ _ _ _ _ from Uk (fun _ => (show VS _ _ [] _ _ _ _ from (Z9 4 (Zn Vv (Ye [] (by rfl) (Zg (Zc 0 (by rfl)) (Zg (Zw (d := (.int 2)) (by rfl) (by rfl)) Zp))) (Zc 1 (by rfl))) (by rfl) (by rfl) (by rfl) (by rfl)))) (by rfl))
 (Uj (Zen (Zn Y6 (Zn Z7 (Zn Z7 (Zc 3 (by rfl)) (Zc 4 (by rfl))) (Zc 4 (by rfl))) (Zc 2 (by rfl))) (Zc 4 (by rfl)) (Zc 4 (by rfl)))
 (Zf2 (ow1 := []) (ZA (show VS _ _ [] _ _ _ _ from (Z9 5 (Ye [] (by rfl) (Zg (Zc 3 (by rfl)) (Zg (Zc 2 (by rfl)) (Zg (VF.cl (Xm (by rfl) (X9 (Zg (Zc 1 (by rfl)) Zp) XI) (Yj 0 (by rfl) (by rfl)) Ue (Zn Y6 (Zw (d := (.int 1)) (by rfl) (by rfl)) (Zn Vv (Ye [] (by rfl) (Zg (Zc 1 (by rfl)) (Zg (Zn Y6 (Zw (d := (.int 3)) (by rfl) (by rfl)) (Zc 0 (by rfl))) Zp))) (Zw (d := (.int 12)) (by rfl) (by rfl)))))) Zp)))) (by rfl) (by rfl) (by rfl) (by rfl)))
 (ZA (show VS _ _ [] _ _ _ _ from (Z9 6 (Q0 (Zg (VF.cl (Xm (by rfl) (Xl (Zc 3 (by rfl))) (Yj 0 (by rfl) (by rfl)) Ue (VF.cl (Zbb (Or.inl rfl) (Zg (Zc 0 (by rfl)) Zp))))) (Zg (VF.cl (Zbb (Or.inl rfl) (Zg (Zc 5 (by rfl)) Zp))) Zp))) (by rfl) (by rfl) (by rfl) (by rfl)))
 (ZA (show VS _ _ [7] _ _ _ _ from (VB 7 (Zc6 [] (by rfl) (Zg (Zn Z7 (Zc 6 (by rfl)) (Zw (d := (.int 0)) (by rfl) (by rfl))) (Zg (Zn Z7 (Zc 6 (by rfl)) (Zw (d := (.int 1)) (by rfl) (by rfl))) Zp))) (by rfl) (by rfl) (by rfl) (by rfl)))
 (ZA (XD (Ze6 (Yq (Zn UZ (Zc 6 (by rfl)) (Q0 (Zg (Zc 3 (by rfl)) (Zg (Zc 5 (by rfl)) Zp))))) (Ze6 (Zdy (XA (Q7 (fun _ h => h) T.isi_list (Xy 7 (by rfl))))) (Yq (Zn UZ (Xy 7 (by rfl)) (Ye [] (by rfl) (Zg (Zc 3 (by rfl)) (Zg (Zc 5 (by rfl)) Zp))))))) (Yi (Zw (d := (.bl false)) (by rfl) (by rfl))) XC)
 (ZA (XD (Zex (ow1 := []) 7 (Yq (Zn Xz (Yz XB (Zg (VF.cl (Xm (by rfl) (Xl (Zc 7 (by rfl))) (Yj 0 (by rfl) (by rfl)) (Zdy (XA (Ye [] (by rfl) (Zg (Zc 0 (by rfl)) Zp)))) (Zc 0 (by rfl)))) Zp)) (Zw (d := (.int 0)) (by rfl) (by rfl)))) (by rfl) (by rfl) (by rfl) (by rfl)) (Yi (Zw (d := (.bl false)) (by rfl) (by rfl))) XC)
 (ZA (show VS _ _ [7] _ _ _ _ from (Z9 8 (VF.cl (Zey (ow1 := []) 7 (Xm (by rfl) (X9 (Zg (Zc 1 (by rfl)) Zp) XI) (Yj 0 (by rfl) (by rfl)) Ue (Zn U9 (Zn Z7 (Zc 1 (by rfl)) (Zc 0 (by rfl))) (Yz ZdB (Zg (Zn U0 (Zc 0 (by rfl)) (Zc 2 (by rfl))) Zp)))) (by rfl) (by rfl) (by rfl) (by rfl))) (by rfl) (by rfl) (by rfl) (by rfl)))
 (ZA (Uh 7 (by rfl) (Zw (d := (.int 99)) (by rfl) (by rfl)))
 (VS.frz (ow1 := []) 7 (Yi (Zdz (Zn UY (Zc 6 (by rfl)) (Q0 (Zg (Zc 3 (by rfl)) (Zg (Zc 5 (by rfl)) Zp)))) (Ye [] (by rfl) (Zg (Zc 3 (by rfl)) (Zg (Zc 2 (by rfl)) (Zg (Zc 8 (by rfl)) Zp)))))) (by rfl) (by rfl) (by rfl) (by rfl)))))))))))))))
end
end K32
namespace K32
def ed (T : List (List Int)) (a b : Nat) : Bool := decide (0 < (T.getD a []).getD b 0)
inductive Rch (T : List (List Int)) (am : List Nat) (a : Nat) : Nat -> Prop
 | refl : Rch T am a a
 | step {b c : Nat} : Rch T am a b -> c ∈ am -> ed T b c = true -> Rch T am a c
section
variable {T : List (List Int)} {am : List Nat}
theorem Rch.trans {a b c : Nat} (h1 : Rch T am a b) (h2 : Rch T am b c) : Rch T am a c := by
 induction h2 with
 | refl => exact h1
 | step _ h e ih => exact .step ih h e
theorem Rch.into {a b : Nat} (h : Rch T am a b) : b = a \/ b ∈ am := by
 cases h with
 | refl => exact .inl rfl
 | step _ h _ => exact .inr h
theorem Rch.closed {a b : Nat} {S : List Nat} (ha : a ∈ S) (hc : ∀ x ∈ S, ∀ c ∈ am, ed T x c = true -> c ∈ S) (h : Rch T am a b) : b ∈ S := by
 induction h with
 | refl => exact ha
 | step _ h e ih => exact hc _ ih _ h e
def ms (am S : List Nat) : Nat := am.countP fun x => decide (x ∉ S)
theorem JC {p p' : Nat -> Bool} (h : ∀ y, p' y = true -> p y = true) {x : Nat} (h1 : p x = true) (h2 : p' x = false) : ∀ {l : List Nat}, x ∈ l -> l.countP p' + 1 <= l.countP p
 | y :: l, hx => by
  have hle : l.countP p' <= l.countP p := List.countP_mono_left (fun z _ => h z)
  rw [List.countP_cons, List.countP_cons]
  by_cases e : x = y
  · subst e
    rw [h1, h2]
    simp
    omega
  · have ih := JC h h1 h2 (List.mem_of_ne_of_mem e hx)
    cases a : p' y with
    | true => rw [h y a]; simp; omega
    | false => simp; split <;> omega
theorem Zf4 {S : List Nat} {x : Nat} (hx : x ∈ am) (hn : x ∉ S) : ms am (S ++ [x]) + 1 <= ms am S :=
 JC (x := x) (fun y hy => by
  simp at hy ⊢
  exact hy.1) (by simpa using hn) (by simp) hx
theorem Zfm (S : List Nat) : ms am S <= am.length := List.countP_le_length
structure Add (T : List (List Int)) (am : List Nat) (b : Nat) (S nw dn : List Nat) : Prop where
 src : ∀ x ∈ nw, x ∈ am /\ ed T b x = true
 cov : ∀ c ∈ dn, ed T b c = true -> c ∈ S ++ nw
 cnt : ms am (S ++ nw) + nw.length <= ms am S
theorem Add.nil {b : Nat} {S : List Nat} : Add T am b S [] [] := ⟨fun x h => (nomatch h), fun x h => (nomatch h), by rw [List.append_nil]; exact Nat.le_refl _⟩
theorem Add.yes {b x : Nat} {S nw dn : List Nat} (h : Add T am b S nw dn) (hx : x ∈ am) (he : ed T b x = true) (hn : x ∉ S ++ nw) : Add T am b S (nw ++ [x]) (dn ++ [x]) := by
 refine ⟨fun y hy => ?_, fun c hc e => ?_, ?_⟩
 · rcases List.mem_append.mp hy with hy | hy
   · exact h.src y hy
   · rw [List.mem_singleton.mp hy]; exact ⟨hx, he⟩
 · rw [<- List.append_assoc]
   rcases List.mem_append.mp hc with hc | hc
   · exact List.mem_append_left _ (h.cov c hc e)
   · exact List.mem_append_right _ hc
 · have h1 := Zf4 hx hn
   have h2 := h.cnt
   rw [<- List.append_assoc, List.length_append, List.length_singleton]
   omega
theorem Add.no {b x : Nat} {S nw dn : List Nat} (h : Add T am b S nw dn) (hn : ¬ (ed T b x = true /\ x ∉ S ++ nw)) : Add T am b S nw (dn ++ [x]) := by
 refine ⟨h.src, fun c hc e => ?_, h.cnt⟩
 rcases List.mem_append.mp hc with hc | hc
 · exact h.cov c hc e
 · rw [List.mem_singleton.mp hc] at e ⊢
   exact Classical.byContradiction fun z => hn ⟨e, z⟩
structure St (T : List (List Int)) (am : List Nat) (a : Nat) (R W : List Nat) : Prop where
 snd : ∀ x ∈ R, Rch T am a x
 one : a ∈ R
 sub : ∀ x ∈ W, x ∈ R
 clo : ∀ x ∈ R, x ∉ W -> ∀ c ∈ am, ed T x c = true -> c ∈ R
 cnt : R.length + ms am R <= am.length + 1
theorem St.start (a : Nat) : St T am a [a] [a] := ⟨fun x h => by rw [List.mem_singleton.mp h]; exact .refl, List.mem_singleton.mpr rfl, fun x h => h, fun x h n => absurd h n, by
 have := Zfm (am := am) [a]
 simp
 omega⟩
theorem St.next {a b : Nat} {R W nw : List Nat} (h : St T am a R (W ++ [b])) (A : Add T am b R nw am) : St T am a (R ++ nw) (W ++ nw) := by
 have hb : b ∈ R := h.sub b (List.mem_append_right _ (List.mem_singleton.mpr rfl))
 refine ⟨fun x hx => ?_, List.mem_append_left _ h.one, fun x hx => ?_, fun x hx hn c hc e => ?_, ?_⟩
 · rcases List.mem_append.mp hx with hx | hx
   · exact h.snd x hx
   · exact .step (h.snd b hb) (A.src x hx).1 (A.src x hx).2
 · rcases List.mem_append.mp hx with hx | hx
   · exact List.mem_append_left _ (h.sub x (List.mem_append_left _ hx))
   · exact List.mem_append_right _ hx
 · rcases List.mem_append.mp hx with hx | hx
   · by_cases q : x = b
     · subst q; exact A.cov c hc e
     · refine List.mem_append_left _ (h.clo x hx (fun z => ?_) c hc e)
       rcases List.mem_append.mp z with z | z
       · exact hn (List.mem_append_left _ z)
       · exact q (List.mem_singleton.mp z)
   · exact absurd (List.mem_append_right _ hx) hn
 · have h1 := h.cnt
   have h2 := A.cnt
   rw [List.length_append]
   omega
theorem St.done {a : Nat} {R : List Nat} (h : St T am a R []) (x : Nat) : x ∈ R ↔ Rch T am a x :=
 ⟨h.snd x, fun z => z.closed h.one fun y hy => h.clo y hy (List.not_mem_nil)⟩
structure Sq (T : List (List Int)) (am : List Nat) (a : Nat) (S : List Nat) (i : Nat) : Prop where
 snd : ∀ x ∈ S, Rch T am a x
 one : a ∈ S
 le : i <= S.length
 clo : ∀ j x, j < i -> S[j]? = some x -> ∀ c ∈ am, ed T x c = true -> c ∈ S
 cnt : S.length + ms am S <= am.length + 1
theorem Sq.start (a : Nat) : Sq T am a [a] 0 := ⟨fun x h => by rw [List.mem_singleton.mp h]; exact .refl, List.mem_singleton.mpr rfl, Nat.zero_le _, fun j x h => absurd h (Nat.not_lt_zero _), by
 have := Zfm (am := am) [a]
 simp
 omega⟩
theorem Sq.next {a b i : Nat} {S nw : List Nat} (h : Sq T am a S i) (hb : S[i]? = some b) (A : Add T am b S nw am) : Sq T am a (S ++ nw) (i + 1) := by
 have hl := (List.getElem?_eq_some_iff.mp hb).1
 refine ⟨fun x hx => ?_, List.mem_append_left _ h.one, by rw [List.length_append]; omega, fun j x hj hx c hc e => ?_, ?_⟩
 · rcases List.mem_append.mp hx with hx | hx
   · exact h.snd x hx
   · exact .step (h.snd b (List.mem_of_getElem? hb)) (A.src x hx).1 (A.src x hx).2
 · rw [List.getElem?_append_left (by omega)] at hx
   by_cases q : j = i
   · subst q
     rw [hb] at hx
     cases hx
     exact A.cov c hc e
   · exact List.mem_append_left _ (h.clo j x (by omega) hx c hc e)
 · have h1 := h.cnt
   have h2 := A.cnt
   rw [List.length_append]
   omega
theorem Sq.done {a : Nat} {S : List Nat} (h : Sq T am a S S.length) (x : Nat) : x ∈ S ↔ Rch T am a x :=
 ⟨h.snd x, fun z => z.closed h.one fun y hy c hc e => by
   obtain ⟨j, hj⟩ := List.getElem?_of_mem hy
   exact h.clo j y (List.getElem?_eq_some_iff.mp hj).1 hj c hc e⟩
def pt (am : List Nat) (f : Nat -> List Nat) (r : Nat) : List Nat := am.filter fun o => decide (o ∈ f r) && decide (r ∈ f o)
structure Fn (T : List (List Int)) (am : List Nat) (f : Nat -> List Nat) : Prop where
 eq : ∀ a ∈ am, ∀ x, x ∈ f a ↔ Rch T am a x
theorem VR {f : Nat -> List Nat} (h : Fn T am f) {r o : Nat} (hr : r ∈ am) : o ∈ pt am f r ↔ o ∈ am /\ Rch T am r o /\ Rch T am o r := by
 unfold pt
 rw [List.mem_filter, Bool.and_eq_true, decide_eq_true_eq, decide_eq_true_eq]
 constructor
 · rintro ⟨h1, h2, h3⟩
   exact ⟨h1, (h.eq r hr o).mp h2, (h.eq o h1 r).mp h3⟩
 · rintro ⟨h1, h2, h3⟩
   exact ⟨h1, (h.eq r hr o).mpr h2, (h.eq o h1 r).mpr h3⟩
theorem Zce {f : Nat -> List Nat} (h : Fn T am f) {r : Nat} (hr : r ∈ am) : r ∈ pt am f r := (VR h hr).mpr ⟨hr, .refl, .refl⟩
theorem ZeC {f : Nat -> List Nat} (h : Fn T am f) {r s : Nat} (hr : r ∈ am) (hs : s ∈ pt am f r) : pt am f r = pt am f s := by
 obtain ⟨h1, h2, h3⟩ := (VR h hr).mp hs
 unfold pt
 refine List.filter_congr fun o ho => ?_
 rw [Bool.eq_iff_iff, Bool.and_eq_true, Bool.and_eq_true, decide_eq_true_eq, decide_eq_true_eq, decide_eq_true_eq, decide_eq_true_eq, h.eq r hr, h.eq s h1, h.eq o ho, h.eq o ho]
 exact ⟨fun ⟨a, b⟩ => ⟨h3.trans a, b.trans h2⟩, fun ⟨a, b⟩ => ⟨h2.trans a, b.trans h3⟩⟩
def stp (am : List Nat) (f : Nat -> List Nat) (acc : List (List Nat)) (r : Nat) : List (List Nat) := if pt am f r ∈ acc then acc else acc ++ [pt am f r]
def ZN (am : List Nat) (f : Nat -> List Nat) (l : List Nat) : List (List Nat) := l.foldl (stp am f) []
theorem UA (f : Nat -> List Nat) (l : List Nat) (r : Nat) : ZN am f (l ++ [r]) = stp am f (ZN am f l) r := by
 unfold ZN
 rw [List.foldl_append]
 rfl
theorem JD (f : Nat -> List Nat) {L : List Nat} : ∀ (l : List Nat) (acc : List (List Nat)), (∀ r ∈ l, r ∈ L) -> (∀ q ∈ acc, ∃ r ∈ L, q = pt am f r) -> (∀ q ∈ l.foldl (stp am f) acc, ∃ r ∈ L, q = pt am f r) /\ (l.foldl (stp am f) acc).length <= acc.length + l.length
 | [], acc, _, h => ⟨h, Nat.le_refl _⟩
 | r :: l, acc, hl, h => by
  have hs : (∀ q ∈ stp am f acc r, ∃ r ∈ L, q = pt am f r) /\ (stp am f acc r).length <= acc.length + 1 := by
   unfold stp
   by_cases e : pt am f r ∈ acc
   · rw [if_pos e]; exact ⟨h, by omega⟩
   · rw [if_neg e]
     refine ⟨fun q hq => ?_, by simp⟩
     rcases List.mem_append.mp hq with hq | hq
     · exact h q hq
     · exact ⟨r, hl r List.mem_cons_self, List.mem_singleton.mp hq⟩
  obtain ⟨h1, h2⟩ := JD f l _ (fun r hr => hl r (List.mem_cons_of_mem _ hr)) hs.1
  refine ⟨h1, ?_⟩
  rw [List.foldl_cons, List.length_cons]
  have := hs.2
  omega
theorem ZeD (f : Nat -> List Nat) (l : List Nat) : ∀ q ∈ ZN am f l, ∃ r ∈ l, q = pt am f r := (JD f l [] (fun _ h => h) fun q h => (nomatch h)).1
theorem JE (f : Nat -> List Nat) {l : List Nat} (h : ∀ r ∈ l, r ∈ am) : (∀ q ∈ ZN am f l, ∃ r ∈ am, q = pt am f r) /\ (ZN am f l).length <= l.length := by
 obtain ⟨h1, h2⟩ := JD f l [] h fun q h => (nomatch h)
 exact ⟨h1, by rw [List.length_nil, Nat.zero_add] at h2; exact h2⟩
theorem Zdg {f : Nat -> List Nat} (h : Fn T am f) {l : List Nat} (hl : ∀ r ∈ l, r ∈ am) {r : Nat} (hr : r ∈ am) : (∃ q ∈ ZN am f l, r ∈ q) ↔ pt am f r ∈ ZN am f l := by
 constructor
 · rintro ⟨q, hq, hrq⟩
   obtain ⟨s, hs, rfl⟩ := (JE f hl).1 q hq
   rw [<- ZeC h hs hrq]
   exact hq
 · exact fun z => ⟨_, z, Zce h hr⟩
theorem Qk : ∀ l : List Int, (∀ x ∈ l, 0 <= x) -> 0 <= l.sum /\ (l.sum = 0 ↔ ∀ x ∈ l, x = 0)
 | [], _ => ⟨by simp, by simp⟩
 | x :: l, h => by
  obtain ⟨h1, h2⟩ := Qk l fun y hy => h y (List.mem_cons_of_mem _ hy)
  have hx := h x List.mem_cons_self
  rw [List.sum_cons]
  refine ⟨by omega, ?_⟩
  constructor
  · intro e y hy
    rcases List.mem_cons.mp hy with rfl | hy
    · omega
    · exact h2.mp (by omega) y hy
  · intro e
    rw [e x List.mem_cons_self, h2.mpr fun y hy => e y (List.mem_cons_of_mem _ hy)]
    rfl
def Yx (am q : List Nat) : List Nat := am.filter fun t => !decide (t ∈ q)
def clo (T : List (List Int)) (am q : List Nat) : Bool := q.all fun r => decide (((Yx am q).map fun t => (T.getD r []).getD t 0).sum = 0)
theorem ZeE {q : List Nat} (hnn : ∀ r ∈ q, ∀ t ∈ am, 0 <= (T.getD r []).getD t 0) : clo T am q = true ↔ ∀ r ∈ q, ∀ t ∈ am, t ∉ q -> ed T r t = false := by
 unfold clo
 rw [List.all_eq_true]
 have key : ∀ r ∈ q, (decide (((Yx am q).map fun t => (T.getD r []).getD t 0).sum = 0) = true ↔ ∀ t ∈ am, t ∉ q -> ed T r t = false) := fun r hr => by
  have hm : ∀ t, t ∈ Yx am q ↔ t ∈ am /\ t ∉ q := fun t => by unfold Yx; rw [List.mem_filter]; simp
  rw [decide_eq_true_eq, (Qk _ fun x hx => by
   obtain ⟨t, ht, rfl⟩ := List.mem_map.mp hx
   exact hnn r hr t ((hm t).mp ht).1).2]
  constructor
  · intro h t ht hq
    have := h _ (List.mem_map_of_mem ((hm t).mpr ⟨ht, hq⟩))
    unfold ed
    exact decide_eq_false (by omega)
  · intro h x hx
    obtain ⟨t, ht, rfl⟩ := List.mem_map.mp hx
    obtain ⟨h1, h2⟩ := (hm t).mp ht
    have h3 := h t h1 h2
    have h4 := hnn r hr t h1
    unfold ed at h3
    have := of_decide_eq_false h3
    omega
 exact ⟨fun h r hr => (key r hr).mp (h r hr), fun h r hr => (key r hr).mpr (h r hr)⟩
def Cl (T : List (List Int)) (am : List Nat) (r : Nat) : Prop := ∀ o, Rch T am r o -> Rch T am o r
theorem JF {f : Nat -> List Nat} (h : Fn T am f) {r : Nat} (hr : r ∈ am) (hnn : ∀ a ∈ am, ∀ t ∈ am, 0 <= (T.getD a []).getD t 0) : clo T am (pt am f r) = true ↔ Cl T am r := by
 rw [ZeE fun a ha t ht => hnn a ((VR h hr).mp ha).1 t ht]
 constructor
 · intro hc o ho
   have : o ∈ pt am f r := ho.closed (Zce h hr) fun x hx c hc' e => Classical.byContradiction fun z => by
    rw [hc x hx c hc' z] at e
    cases e
   exact ((VR h hr).mp this).2.2
 · intro hc x hx t ht hn
   obtain ⟨h1, h2, h3⟩ := (VR h hr).mp hx
   cases e : ed T x t with
   | false => rfl
   | true =>
    have h4 : Rch T am r t := .step h2 ht e
    exact absurd ((VR h hr).mpr ⟨ht, h4, hc t h4⟩) hn
theorem ZeF {f : Nat -> List Nat} (h : Fn T am f) {r : Nat} (hr : r ∈ am) (hc : Cl T am r) : pt am f r = am.filter fun o => decide (o ∈ f r) := by
 unfold pt
 refine List.filter_congr fun o ho => ?_
 by_cases q : o ∈ f r
 · have : r ∈ f o := (h.eq o ho r).mpr (hc o ((h.eq r hr o).mp q))
   rw [decide_eq_true q, decide_eq_true this]; rfl
 · rw [decide_eq_false q]; rfl
theorem Zbn (f : Nat -> List Nat) (p : List Nat -> Bool) : ∀ k, k <= am.length -> ((ZN am f (am.take k)).filter p).head? = ((am.take k).find? fun r => p (pt am f r)).map (pt am f)
 | 0, _ => rfl
 | k + 1, hk => by
  have ih := Zbn f p k (by omega)
  have hlt : k < am.length := by omega
  rw [List.take_succ_eq_append_getElem hlt, UA, List.find?_append]
  unfold stp
  by_cases e : pt am f am[k] ∈ ZN am f (am.take k)
  · rw [if_pos e, ih]
    cases hf : (am.take k).find? fun r => p (pt am f r) with
    | some a => rfl
    | none =>
     have : p (pt am f am[k]) = false := by
      obtain ⟨s, hs, es⟩ := ZeD f (am.take k) _ e
      rw [es]
      have := List.find?_eq_none.mp hf s hs
      simpa using this
     rw [List.find?_cons, this]
     rfl
  · rw [if_neg e, List.filter_append, List.head?_append, ih, List.filter_cons, List.find?_cons]
    cases hf : (am.take k).find? fun r => p (pt am f r) with
    | some a => rfl
    | none =>
     cases hp : p (pt am f am[k]) with
     | true => rfl
     | false => rfl
theorem ZcO (f : Nat -> List Nat) (p : List Nat -> Bool) : ((ZN am f am).filter p).head? = (am.find? fun r => p (pt am f r)).map (pt am f) := by
 have := Zbn (am := am) f p am.length (Nat.le_refl _)
 rw [List.take_length] at this
 exact this
open Classical in
theorem ZaH : ∀ (k : Nat) (r : Nat), r ∈ am -> (am.countP fun o => decide (Rch T am r o)) <= k -> ∃ s ∈ am, Cl T am s
 | k, r, hr, hk => by
  by_cases hc : Cl T am r
  · exact ⟨r, hr, hc⟩
  · have hc : ∃ o, Rch T am r o /\ ¬ Rch T am o r := Classical.byContradiction fun z => hc fun o ho => Classical.byContradiction fun z2 => z ⟨o, ho, z2⟩
    obtain ⟨o, h1, h2⟩ := hc
    have ho : o ∈ am := by
     rcases h1.into with e | e
     · rw [e]; exact hr
     · exact e
    have hlt := JC (p := fun x => decide (Rch T am r x)) (p' := fun x => decide (Rch T am o x)) (x := r) (fun y hy => decide_eq_true (h1.trans (of_decide_eq_true hy))) (decide_eq_true .refl) (decide_eq_false h2) hr
    match k with
    | 0 => omega
    | k + 1 => exact ZaH k o ho (by omega)
theorem Za1 (h : am ≠ []) : ∃ r ∈ am, Cl T am r := by
 cases am with
 | nil => exact absurd rfl h
 | cons a l => exact ZaH _ a List.mem_cons_self (Nat.le_refl _)
end
end K32
namespace K32
open DL L2
theorem Zcf (ns : List Int) (k : Nat) : YV [.lst (ns.map D.int), .int k] = some (.int (ns.getD k 0)) := by
 by_cases h : k < ns.length
 · have hz : atI (ns.map D.int) (k : Int) = some (.int (ns.getD k 0)) := by
    refine QG ?_
    rw [List.getElem?_map, List.getElem?_eq_getElem h, List.getD_eq_getElem?_getD, List.getElem?_eq_getElem h]
    rfl
   simp [YV, f_QC, h, hz, DL.run, DL.runI, Zd, sIf, Zs, Ze9, sNext, Zi, Zfa, Zfb, Zfd, ZdC, xB, bD, Y1, Yc, xOr, Za, eC, eOp, Xk, eOr, Uf, eIf, Zhm, Vw, Ug, ZdA, eUn, Zhn, eNil, Zb, ZL, YT, eCB, lenD, Zho, Zhp, Zq, Zfc, Zfe, Zhr, eSl, xP, Zhq, addD, Zhk, Zhl, fdivD, modD, ZU, ixD, isD, eBM, Y4, VC, kind, plainKinds, Up, Jq, Zb9, Jr, Js, Jt, Ju, Zca, ZdF, ZdG, ZdH, List.lookup, YX, CMul, PySem.sizeLine_eq, List.replicate]
 · have hz : ns.getD k 0 = 0 := by rw [List.getD_eq_getElem?_getD, List.getElem?_eq_none (by omega)]; rfl
   simp [YV, f_QC, h, hz, DL.run, DL.runI, Zd, sIf, Zs, Ze9, sNext, Zi, Zfa, Zfb, Zfd, ZdC, xB, bD, Y1, Yc, xOr, Za, eC, eOp, Xk, eOr, Uf, eIf, Zhm, Vw, Ug, ZdA, eUn, Zhn, eNil, Zb, ZL, YT, eCB, lenD, Zho, Zhp, Zq, Zfc, Zfe, Zhr, eSl, xP, Zhq, addD, Zhk, Zhl, fdivD, modD, ZU, ixD, isD, eBM, Y4, VC, kind, plainKinds, Up, Jq, Zb9, Jr, Js, Jt, Ju, Zca, ZdF, ZdG, ZdH, List.lookup, YX, CMul, PySem.sizeLine_eq, List.replicate]
abbrev nD (a : Nat) : D := .int (a : Int)
abbrev AD (l : List Nat) : D := .lst (l.map nD)
abbrev IL (w : List Int) : D := .lst (w.map D.int)
abbrev TD (T : List (List Int)) : D := .lst (T.map IL)
abbrev PM (acc : List (List Nat)) : D := .lst (acc.map AD)
structure Ok (n : Nat) (T : List (List Int)) (am : List Nat) : Prop where
 n8 : n <= 8
 ln : T.length = n
 rw : ∀ r ∈ T, r.length = n
 nn : ∀ r ∈ T, ∀ x ∈ r, 0 <= x
 lt : ∀ a ∈ am, a < n
 nd : am.Nodup
 al : am.length <= 8
section
variable {n : Nat} {T : List (List Int)} {am : List Nat}
theorem Ok.row (h : Ok n T am) {a : Nat} (ha : a < n) : T[a]? = some (T.getD a []) /\ T.getD a [] ∈ T := by
 have hl : a < T.length := by rw [h.ln]; exact ha
 rw [List.getD_eq_getElem?_getD, List.getElem?_eq_getElem hl]
 exact ⟨rfl, List.getElem_mem hl⟩
theorem UB (h : Ok n T am) {a : Nat} (ha : a < n) : ixD (TD T) (nD a) = some (IL (T.getD a [])) := Jy (by rw [List.getElem?_map, (h.row ha).1]; rfl)
theorem UC (h : Ok n T am) {a b : Nat} (ha : a < n) (hb : b < n) : ixD (IL (T.getD a [])) (nD b) = some (.int ((T.getD a []).getD b 0)) := Zcd (by rw [h.rw _ (h.row ha).2]; exact hb)
theorem UD (h : Ok n T am) {a b : Nat} (ha : a < n) (hb : b < n) : 0 <= (T.getD a []).getD b 0 := by
 have hr := (h.row ha).2
 have hl : b < (T.getD a []).length := by rw [h.rw _ hr]; exact hb
 refine h.nn _ hr _ ?_
 rw [List.getD_eq_getElem?_getD (l := T.getD a []), List.getElem?_eq_getElem hl]
 exact List.getElem_mem hl
end
theorem Xd {ε : DL.Env -> Option D} {δ : DL.Env} {xs : List D} (h : ε δ = some (.lst xs)) : ZF ε δ = some xs := by
 unfold ZF
 rw [h]
theorem Qm {a b : DL.Env -> Option Bool} {δ : DL.Env} {x y : Bool} (h1 : a δ = some x) (h2 : b δ = some y) : Yc a b δ = some (x && y) := by
 cases x with
 | true => exact (Zdf h1 h2).trans (by rw [Bool.true_and])
 | false => exact (Zez h1).trans (by rw [Bool.false_and])
theorem VU {α : Type} {γ : D -> DL.Env -> Option DL.Env} {φ : DL.Env -> Option Out} (g : α -> D) (I : List α -> DL.Env -> Prop) (all : List α) (step : ∀ (dn : List α) (x : α) (r : List α) (δ : DL.Env), dn ++ x :: r = all -> I dn δ -> ∃ δ1, γ (g x) δ = some δ1 /\ ∃ δ2, φ δ1 = some (.nx δ2) /\ I (dn ++ [x]) δ2) : ∀ (rest dn : List α) (δ : DL.Env), dn ++ rest = all -> I dn δ -> ∃ δ', Zt γ φ (rest.map g) δ = some (.nx δ') /\ I all δ'
 | [], dn, δ, e, h => ⟨δ, rfl, by rw [<- e, List.append_nil]; exact h⟩
 | x :: rest, dn, δ, e, h => by
  obtain ⟨δ1, h1, δ2, h2, h3⟩ := step dn x rest δ e h
  obtain ⟨δ', h4, h5⟩ := VU g I all step rest (dn ++ [x]) δ2 (by rw [List.append_assoc]; exact e) h3
  refine ⟨δ', ?_, h5⟩
  rw [List.map_cons]
  unfold Zt
  rw [h1]
  dsimp only
  rw [h2]
  exact h4
theorem VW {α : Type} {γ : D -> DL.Env -> Option DL.Env} {ε : DL.Env -> Option D} {δ0 : DL.Env} (g f : α -> D) : ∀ (xs : List α), (∀ x ∈ xs, ∃ δ1, γ (g x) δ0 = some δ1 /\ ε δ1 = some (f x)) -> Zx γ (fun _ => some true) ε δ0 (xs.map g) = some (xs.map f)
 | [], _ => rfl
 | x :: xs, h => by
  obtain ⟨δ1, h1, h2⟩ := h x List.mem_cons_self
  have ih := VW g f xs fun y hy => h y (List.mem_cons_of_mem _ hy)
  rw [List.map_cons, List.map_cons]
  unfold Zx
  rw [h1]
  dsimp only
  rw [h2, ih]
theorem UE {α : Type} {γ : D -> DL.Env -> Option DL.Env} {τ : DL.Env -> Option Bool} {ε : DL.Env -> Option D} {δ0 : DL.Env} (g : α -> D) (p : α -> Bool) : ∀ (xs : List α), (∀ x ∈ xs, ∃ δ1, γ (g x) δ0 = some δ1 /\ τ δ1 = some (p x) /\ ε δ1 = some (g x)) -> Zx γ τ ε δ0 (xs.map g) = some ((xs.filter p).map g)
 | [], _ => rfl
 | x :: xs, h => by
  obtain ⟨δ1, h1, h2, h3⟩ := h x List.mem_cons_self
  have ih := UE g p xs fun y hy => h y (List.mem_cons_of_mem _ hy)
  rw [List.map_cons]
  unfold Zx
  rw [h1]
  dsimp only
  rw [h2]
  cases hp : p x with
  | false => rw [List.filter_cons_of_neg (by simp [hp])]; exact ih
  | true =>
   rw [List.filter_cons_of_pos hp, List.map_cons]
   dsimp only
   rw [h3, ih]
theorem ZeG {i : Nat} {φ : DL.Env -> Option Out} {δ δ' : DL.Env} (h : φ (δ.set i none) = some (.nx δ')) (hi : δ'[i]? = some none) : Z8 i φ δ = some (.nx (δ'.set i ((δ[i]?).getD none))) := by
 unfold Z8
 rw [h]
 dsimp only
 rw [hi]
theorem UF {i : Nat} {φ : DL.Env -> Option Out} {δ δ0 δ' δ'' : DL.Env} (e : δ.set i none = δ0) (h : φ δ0 = some (.nx δ')) (hi : δ'[i]? = some none) (hr : δ'.set i ((δ[i]?).getD none) = δ'') : Z8 i φ δ = some (.nx δ'') := by
 subst e hr
 exact ZeG h hi
theorem JG {i : Nat} {ε : DL.Env -> Option D} {δ : DL.Env} {d : D} (h : ε δ = some d) (hi : i < δ.length) : YK i ε δ = some (.nx (δ.set i (some d))) := by
 unfold YK
 rw [h]
 exact if_pos hi
theorem X2 {a b : DL.Env -> Option Out} {δ δ' : DL.Env} (h : a δ = some (.nx δ')) : ZK a b δ = b δ' := by
 unfold ZK; rw [h]
theorem JH {n : Nat} {f : DL.Env -> Option Out} {vs : List D} {δ : DL.Env} {d : D} (h1 : (vs.map some ++ List.replicate (n - vs.length) none) = δ) (h2 : f δ = some (.rt d)) : Xo n f vs = some d := by
 unfold Xo
 rw [h1, h2]
theorem Zdh {i j : Nat} {α : DL.Env -> Option D} {δ : DL.Env} {x y d : D} {xs : List D} (h1 : α δ = some x) (h2 : Za j δ = some (.lst (xs ++ [y]))) (h3 : ixD x y = some d) : Vd i j α δ = some (.nx ((δ.set j (some (.lst xs))).set i (some d))) := by
 unfold Vd
 rw [h1, h2]
 dsimp only
 have e : (xs ++ [y])[(xs ++ [y]).length - 1]? = some y := by
  rw [List.length_append, List.length_singleton, Nat.add_sub_cancel, List.getElem?_append_right (Nat.le_refl _), Nat.sub_self]
  rfl
 rw [e]
 dsimp only
 rw [h3, List.dropLast_concat]
theorem ZbI {i k x : Nat} {φ : DL.Env -> Option Out} {δ δ2 : DL.Env} {xs r : List D} (h1 : Za i δ = some (.lst xs)) (h2 : Za k δ = some (.lst r)) (hl : xs.length <= 1000) (hs : r.all Zh = true) (hil : i < δ.length) (h3 : Zt (Zf x) φ r (((δ.set k none).set i (some (.lst (xs ++ [.lst r])))).set i none) = some (.nx δ2)) (hi : δ2[i]? = some none) : Ve i k x φ δ = some (.nx (δ2.set i (some (.lst (xs ++ [.lst r]))))) := by
 have e : Y7 i k δ = some (.nx ((δ.set k none).set i (some (.lst (xs ++ [.lst r]))))) := by
  unfold Y7
  rw [h1, h2]
  exact if_pos ⟨by rw [PySem.sizeLine_eq]; omega, hs⟩
 unfold Ve
 rw [e, h2]
 dsimp only
 rw [h3]
 dsimp only
 rw [hi, List.getElem?_set_self (by rw [List.length_set]; exact hil)]
 rfl
abbrev tkK (tk : List Nat) : List Key := tk.map fun t : Nat => (.inl (t : Int) : Key)
def TK (tk : List Nat) : D := .dct (tkK tk) (tk.map fun _ => .bl true)
theorem ZdM {u t : Nat} (h : u ≠ t) : ¬ ((.inl (u : Int) : Key) = .inl (t : Int)) := fun z => by
 have := Sum.inl.inj z
 omega
theorem UG (t : Nat) : ∀ tk : List Nat, Yv (.inl (t : Int)) (tkK tk) = decide (t ∈ tk)
 | [] => by simp [Yv, tkK]
 | u :: tk => by
  show (decide ((.inl (u : Int) : Key) = .inl (t : Int)) || Yv (.inl (t : Int)) (tkK tk)) = _
  rw [UG t tk]
  by_cases h : u = t
  · subst h
    simp
  · have h2 : ¬ t = u := fun z => h z.symm
    simp [h2, ZdM h]
theorem Zbo (t : Nat) (tk : List Nat) : inK true (nD t) (TK tk) = some (.bl (!decide (t ∈ tk))) := by
 show some (D.bl (true != Yv (.inl (t : Int)) (tkK tk))) = _
 rw [UG]
 cases decide (t ∈ tk) <;> rfl
theorem Zfn (t : Nat) (tk : List Nat) : inK false (nD t) (TK tk) = some (.bl (decide (t ∈ tk))) := by
 show some (D.bl (false != Yv (.inl (t : Int)) (tkK tk))) = _
 rw [UG]
 cases decide (t ∈ tk) <;> rfl
theorem ZaI (k : Key) : ∀ tk : List Nat, YM k (D.bl true) (tkK tk) (tk.map fun _ => D.bl true) = tk.map fun _ => D.bl true
 | [] => rfl
 | u :: tk => by
  show (if (.inl (u : Int) : Key) = k then D.bl true else D.bl true) :: YM k (D.bl true) (tkK tk) (tk.map fun _ => D.bl true) = _
  rw [ZaI k tk, ite_self]
  rfl
def ins (tk : List Nat) (t : Nat) : List Nat := if t ∈ tk then tk else tk ++ [t]
theorem ZeH {tk : List Nat} {t x : Nat} : x ∈ ins tk t ↔ x ∈ tk \/ x = t := by
 unfold ins
 by_cases h : t ∈ tk
 · rw [if_pos h]
   exact ⟨.inl, fun z => z.elim id fun e => e ▸ h⟩
 · rw [if_neg h, List.mem_append, List.mem_singleton]
theorem ZeI (tk : List Nat) (t : Nat) : (ins tk t).length <= tk.length + 1 := by
 unfold ins
 by_cases h : t ∈ tk
 · rw [if_pos h]; omega
 · rw [if_neg h, List.length_append]; exact Nat.le_refl _
theorem Zbp {i : Nat} {κ ε : DL.Env -> Option D} {δ : DL.Env} {l : List Nat} {t : Nat} (f : Nat -> D) (h1 : Za i δ = some (.dct (tkK l) (l.map f))) (h2 : κ δ = some (nD t)) (h3 : ε δ = some (f t)) (hn : t ∉ l) (hl : l.length <= 1000) : Yw i κ ε δ = some (.nx (δ.set i (some (.dct (tkK (l ++ [t])) ((l ++ [t]).map f))))) := by
 unfold Yw
 rw [h1, h2, h3]
 show (if (tkK l).length < PySem.sizeLine then some (Out.nx (δ.set i (some (XJ (tkK l) (l.map f) (.inl (t : Int)) (f t))))) else none) = _
 rw [if_pos (by rw [List.length_map, PySem.sizeLine_eq]; omega)]
 unfold XJ
 rw [UG, decide_eq_false hn, if_neg (by simp)]
 unfold tkK
 rw [List.map_append, List.map_append]
 rfl
theorem Zbq {i : Nat} {κ : DL.Env -> Option D} {δ : DL.Env} {tk : List Nat} {t : Nat} (h1 : Za i δ = some (TK tk)) (h2 : κ δ = some (nD t)) (hl : tk.length <= 1000) : Yw i κ (eC (.bl true)) δ = some (.nx (δ.set i (some (TK (ins tk t))))) := by
 by_cases h : t ∈ tk
 · unfold Yw
   rw [h1, h2]
   show (if (tkK tk).length < PySem.sizeLine then some (Out.nx (δ.set i (some (XJ (tkK tk) (tk.map fun _ => .bl true) (.inl (t : Int)) (.bl true))))) else none) = _
   rw [if_pos (by rw [List.length_map, PySem.sizeLine_eq]; omega)]
   unfold XJ ins
   rw [UG, decide_eq_true h, if_pos rfl, if_pos h, ZaI]
   rfl
 · refine (Zbp (l := tk) (fun _ => D.bl true) h1 h2 rfl h hl).trans ?_
   unfold ins
   rw [if_neg h]
   rfl
theorem Zbr (g : Nat -> D) (a : Nat) : ∀ l : List Nat, a ∈ l -> Vc (.inl (a : Int)) (tkK l) (l.map g) = some (g a)
 | u :: l, h => by
  show (if (.inl (u : Int) : Key) = .inl (a : Int) then some (g u) else Vc (.inl (a : Int)) (tkK l) (l.map g)) = _
  by_cases e : u = a
  · subst e
    rw [if_pos rfl]
  · rw [if_neg (ZdM e)]
    exact Zbr g a l (List.mem_of_ne_of_mem (fun z => e z.symm) h)
theorem JI (t : Nat) : ∀ P : List Nat, inV (.int (t : Int)) ((P.map nD).map val) = decide (t ∈ P)
 | [] => by simp [inV]
 | p :: P => by
  have ih := JI t P
  unfold inV at ih ⊢
  rw [List.map_cons, List.map_cons, List.any_cons, ih]
  show (((p : Int) == (t : Int)) || decide (t ∈ P)) = _
  by_cases e : p = t
  · subst e
    simp
  · have e2 : ¬ t = p := fun z => e z.symm
    have e3 : ((p : Int) == (t : Int)) = false := by simp; omega
    rw [e3]
    simp [e2]
theorem Qn (P : List Nat) : (P.map nD).all Zh = true := by
 rw [List.all_map]
 exact List.all_eq_true.mpr fun x _ => rfl
theorem JJ (t : Nat) (P : List Nat) : inD true (nD t) (AD P) = some (.bl (!decide (t ∈ P))) := by
 show (if (Zh (.int (t : Int)) && (P.map nD).all Zh) = true then some (D.bl (if true = true then !(inV (.int (t : Int)) ((P.map nD).map val)) else inV (.int (t : Int)) ((P.map nD).map val))) else none) = _
 rw [Qn, if_pos (show (Zh (.int (t : Int)) && true) = true from rfl), if_pos rfl, JI]
theorem ZgY (t : Nat) (P : List Nat) : inD false (nD t) (AD P) = some (.bl (decide (t ∈ P))) := by
 show (if (Zh (.int (t : Int)) && (P.map nD).all Zh) = true then some (D.bl (if false = true then !(inV (.int (t : Int)) ((P.map nD).map val)) else inV (.int (t : Int)) ((P.map nD).map val))) else none) = _
 rw [Qn, if_pos (show (Zh (.int (t : Int)) && true) = true from rfl), if_neg Bool.false_ne_true, JI]
theorem JK (q : List Nat) : AD q = IL (q.map fun a => ((a : Nat) : Int)) := by
 unfold AD IL
 rw [List.map_map]
 rfl
theorem ZcP (q : List Nat) : PySem.SeqAt.shaped (toP (AD q)) = true := by rw [JK]; exact Jx _
theorem Zaf : ∀ xs ys : List Int, PySem.PyData.eqvAll (Z4 (xs.map D.int)) (Z4 (ys.map D.int)) = decide (xs = ys)
 | [], [] => rfl
 | [], y :: ys => rfl
 | x :: xs, [] => rfl
 | x :: xs, y :: ys => by
  rw [List.map_cons, List.map_cons, Z4, Z4, PySem.PyData.eqvAll, Zaf xs ys]
  show ((x == y) && decide (xs = ys)) = decide (x :: xs = y :: ys)
  by_cases h1 : x = y
  · by_cases h2 : xs = ys
    · simp [h1, h2]
    · simp [h1, h2]
  · simp [h1]
theorem Zbs (xs ys : List Int) : eqD (IL xs) (IL ys) = some (.bl (decide (xs = ys))) := by
 unfold eqD
 rw [if_neg (by simp [Zh]), Jx, Jx, if_pos (by rfl)]
 show some (D.bl (PySem.PyData.eqvAll (Z4 (xs.map D.int)) (Z4 (ys.map D.int)))) = _
 rw [Zaf]
theorem Zdi (xs ys : List Int) : neD (IL xs) (IL ys) = some (.bl (!decide (xs = ys))) := by
 unfold neD
 rw [Zbs]
theorem Zdj (ns : List Int) : sumLD [.lst (ns.map D.int)] = some (.int ns.sum) := by
 unfold sumLD
 dsimp only
 rw [DL.intsD_map]
theorem bools_map : ∀ bs : List Bool, Y2 (bs.map D.bl) = some bs
 | [] => rfl
 | b :: bs => by
  rw [List.map_cons, Y2, bools_map bs]
theorem ZcQ (bs : List Bool) : Vz (fun bs => bs.all id) [.lst (bs.map D.bl)] = some (.bl (bs.all id)) := by
 unfold Vz
 dsimp only
 rw [bools_map]
theorem JL {α : Type} {γ : D -> DL.Env -> Option DL.Env} {φ : DL.Env -> Option Out} (g : α -> D) (c : α -> Bool) (R : α -> D) (I : DL.Env -> Prop) : ∀ (xs : List α) (x0 : α) (δ : DL.Env), xs.find? c = some x0 -> I δ ->
 (∀ x ∈ xs, ∀ δ, I δ -> ∃ δ1, γ (g x) δ = some δ1 /\ (c x = false -> ∃ δ2, φ δ1 = some (.nx δ2) /\ I δ2) /\ (c x = true -> φ δ1 = some (.rt (R x)))) -> Zt γ φ (xs.map g) δ = some (.rt (R x0))
 | [], x0, δ, h, _, _ => by cases h
 | x :: xs, x0, δ, h, hI, step => by
  obtain ⟨δ1, h1, h2, h3⟩ := step x List.mem_cons_self δ hI
  rw [List.map_cons]
  unfold Zt
  rw [h1]
  dsimp only
  rw [List.find?_cons] at h
  cases hc : c x with
  | true =>
   rw [hc] at h
   cases h
   rw [h3 hc]
  | false =>
   rw [hc] at h
   obtain ⟨δ2, h4, h5⟩ := h2 hc
   rw [h4]
   exact JL g c R I xs x0 δ2 h h5 fun y hy => step y (List.mem_cons_of_mem _ hy)
theorem ZgZ {n : Nat} {T : List (List Int)} {am : List Nat} (h : Ok n T am) {a b : Nat} (ha : a < n) (hb : b < n) : (!decide ((T.getD a []).getD b 0 = 0)) = ed T a b := by
 have := UD h ha hb
 unfold ed
 rw [Bool.eq_iff_iff, Bool.not_eq_true', decide_eq_false_iff_not, decide_eq_true_eq]
 omega
theorem Zg0 {S : List Nat} {i b : Nat} (h : S[i]? = some b) : ixD (AD S) (nD i) = some (nD b) := Jy (by rw [List.getElem?_map, h]; rfl)
theorem JM (n : Nat) : ZM 0 1 n = (List.range n).map nD := by
 unfold ZM
 refine List.map_congr_left fun k _ => ?_
 show D.int (0 + (k : Int) * 1) = D.int (k : Int)
 rw [show (0 + (k : Int) * 1) = k by omega]
def amw (w : List Int) (n : Nat) : List Nat := (List.range n).filter fun k => decide (0 < w.getD k 0)
theorem amw_mem {w : List Int} {n k : Nat} : k ∈ amw w n ↔ k < n /\ 0 < w.getD k 0 := by
 unfold amw
 rw [List.mem_filter, List.mem_range, decide_eq_true_eq]
theorem JN (w : List Int) (n : Nat) : (amw w n).Pairwise (· < ·) := List.pairwise_lt_range.filter _
theorem UH {w : List Int} {n k : Nat} (hw : w.length = n) (hk : k < n) : ixD (IL w) (nD k) = some (.int (w.getD k 0)) := Zcd (by rw [hw]; exact hk)
end K32
namespace K32
open DL L2
section
variable {n : Nat} {T : List (List Int)} {am : List Nat}
noncomputable def rB : DL.Env -> Option Out := (sIf (Yc (xB (eOp (ZU fun i j => decide (j < i)) (eOp ixD (Za 5) (Za 6)) (eC (.int 0)))) (xB (eOp (inK true) (Za 6) (Za 3)))) (Zd (Yw 3 (Za 6) (eC (.bl true))) (Ya 4 (Za 6))) sNext)
noncomputable def rT : DL.Env -> Option Bool := (xB (eOp (ZU fun i j => decide (j < i)) (eCB lenD (Zb (Za 4) eNil)) (eC (.int 0))))
noncomputable def rW : DL.Env -> Option Out := (Zd (Vd 5 4 (Za 0)) (ZE (ZF (Za 1)) (Zf 6) rB))
theorem ZbJ : f_QB = Zd (Zi 3 (Qa (Za 2) (eC (.bl true)))) (Zd (Zi 4 (ZL (Zb (Za 2) eNil))) (Zd (YI rT rW) (Zs (Za 3)))) := rfl
abbrev RE (T : List (List Int)) (am : List Nat) (a : Nat) (R W : List Nat) (v5 v6 : Option D) : DL.Env := [some (TD T), some (AD am), some (nD a), some (TK R), some (AD W), v5, v6]
theorem ZhK (h : Ok n T am) (a b : Nat) (hb : b < n) {R W : List Nat} (hR : R.length + ms am R <= am.length + 1) (hW : W.length <= R.length) (v6 : Option D) : ∃ nw w6, Add T am b R nw am /\ ZE (ZF (Za 1)) (Zf 6) rB (RE T am a R W (some (IL (T.getD b []))) v6) = some (.nx (RE T am a (R ++ nw) (W ++ nw) (some (IL (T.getD b []))) w6)) := by
 have hal := h.al
 obtain ⟨δ', h1, nw, w6, e, A⟩ := VU (γ := Zf 6) (φ := rB) nD (fun dn δ => ∃ nw w6, δ = RE T am a (R ++ nw) (W ++ nw) (some (IL (T.getD b []))) w6 /\ Add T am b R nw dn) am (by
  rintro dn x r δ e ⟨nw, w6, rfl, A⟩
  have hx : x ∈ am := by rw [<- e]; exact List.mem_append_right _ List.mem_cons_self
  have hxn := h.lt x hx
  have e1 : xB (eOp (ZU fun i j => decide (j < i)) (eOp ixD (Za 5) (Za 6)) (eC (.int 0))) (RE T am a (R ++ nw) (W ++ nw) (some (IL (T.getD b []))) (some (nD x))) = some (ed T b x) := ZX ((Zm (x := .int ((T.getD b []).getD x 0)) (y := .int 0) ((Zm (x := IL (T.getD b [])) (y := nD x) rfl rfl).trans (UC h hb hxn)) rfl).trans rfl)
  have e2 : xB (eOp (inK true) (Za 6) (Za 3)) (RE T am a (R ++ nw) (W ++ nw) (some (IL (T.getD b []))) (some (nD x))) = some (!decide (x ∈ R ++ nw)) := ZX ((Zm (x := nD x) (y := TK (R ++ nw)) rfl rfl).trans (Zbo x _))
  have e3 := Qm e1 e2
  have hc := A.cnt
  refine ⟨RE T am a (R ++ nw) (W ++ nw) (some (IL (T.getD b []))) (some (nD x)), rfl, ?_⟩
  cases hz : (ed T b x && !decide (x ∈ R ++ nw)) with
  | true =>
   rw [hz] at e3
   rw [Bool.and_eq_true] at hz
   have hn : x ∉ R ++ nw := by simpa using hz.2
   have t1 : Yw 3 (Za 6) (eC (.bl true)) (RE T am a (R ++ nw) (W ++ nw) (some (IL (T.getD b []))) (some (nD x))) = some (.nx (RE T am a (R ++ (nw ++ [x])) (W ++ nw) (some (IL (T.getD b []))) (some (nD x)))) := by
    refine (Zbq (tk := R ++ nw) (t := x) rfl rfl (by rw [List.length_append]; omega)).trans ?_
    unfold ins
    rw [if_neg hn, List.append_assoc]
    rfl
   refine ⟨RE T am a (R ++ (nw ++ [x])) (W ++ (nw ++ [x])) (some (IL (T.getD b []))) (some (nD x)), (VO e3).trans ((Zu t1).trans ((Us (xs := (W ++ nw).map nD) (d := nD x) rfl rfl (by rw [List.length_map, List.length_append]; omega)).trans ?_)), nw ++ [x], some (nD x), rfl, A.yes hx hz.1 hn⟩
   have em : (W ++ nw).map nD ++ [nD x] = (W ++ (nw ++ [x])).map nD := by rw [<- List.append_assoc, List.map_append (l₁ := W ++ nw)]; rfl
   rw [em]
   rfl
  | false =>
   rw [hz] at e3
   refine ⟨_, (XN e3).trans rfl, nw, some (nD x), rfl, A.no fun ⟨z1, z2⟩ => ?_⟩
   rw [z1, decide_eq_false z2] at hz
   cases hz) am [] (RE T am a R W (some (IL (T.getD b []))) v6) rfl ⟨[], v6, by rw [List.append_nil, List.append_nil], .nil⟩
 subst e
 exact ⟨nw, w6, A, Y9 (Xd rfl) h1⟩
def rM (am : List Nat) : DL.Env -> Nat
 | [_, _, _, some (.dct ks _), some (.lst ws), _, _] => ws.length + (am.length + 1 - ks.length)
 | _ => 0
theorem Zfo (a : Nat) (R W : List Nat) (v5 v6 : Option D) : rM am (RE T am a R W v5 v6) = W.length + (am.length + 1 - R.length) := by
 show (W.map nD).length + (am.length + 1 - (tkK R).length) = _
 rw [List.length_map, List.length_map]
theorem ZbK (h : Ok n T am) {a : Nat} (ha : a < n) : ∃ R, VP [TD T, AD am, nD a] = some (TK R) /\ ∀ x, x ∈ R ↔ Rch T am a x := by
 have hal := h.al
 obtain ⟨δ', h1, R, v5, v6, e, hS⟩ := Jw (τ := rT) (φ := rW) (fun δ => ∃ R W v5 v6, δ = RE T am a R W v5 v6 /\ St T am a R W /\ W.length <= R.length) (fun δ => ∃ R v5 v6, δ = RE T am a R [] v5 v6 /\ St T am a R []) (rM am) (by
  rintro δ ⟨R, W, v5, v6, rfl, hS, hl⟩
  have ht : rT (RE T am a R W v5 v6) = some (decide ((0 : Int) < (W.length : Int))) := by
   refine ZX ((Zm (x := .int ((W.map nD).length : Int)) (y := .int 0) ((YC (Zl (x := AD W) rfl nil_of)).trans len_lst) rfl).trans ?_)
   rw [List.length_map]
   rfl
  rcases List.eq_nil_or_concat W with hW | ⟨W0, b, hW⟩
  · subst hW
    exact .inl ⟨ht, R, v5, v6, rfl, hS⟩
  · rw [List.concat_eq_append] at hW
    subst hW
    have hbR : b ∈ R := hS.sub b (List.mem_append_right _ (List.mem_singleton.mpr rfl))
    have hbn : b < n := by
     rcases (hS.snd b hbR).into with z | z
     · rw [z]; exact ha
     · exact h.lt b z
    have hc := hS.cnt
    rw [List.length_append, List.length_singleton] at hl
    obtain ⟨nw, w6, A, g⟩ := ZhK h a b hbn (W := W0) hc (by omega) v6
    have hcA := A.cnt
    have t1 : Vd 5 4 (Za 0) (RE T am a R (W0 ++ [b]) v5 v6) = some (.nx (RE T am a R W0 (some (IL (T.getD b []))) v6)) := by
     refine (Zdh (xs := W0.map nD) (y := nD b) (x := TD T) rfl ?_ (UB h hbn)).trans rfl
     show some (AD (W0 ++ [b])) = _
     rw [AD, List.map_append]
     rfl
    refine .inr ⟨?_, _, (Zu t1).trans g, ⟨_, _, _, _, rfl, hS.next A, by rw [List.length_append, List.length_append]; omega⟩, ?_⟩
    · rw [ht, List.length_append, List.length_singleton]
      exact congrArg some (decide_eq_true (by omega))
    · rw [Zfo, Zfo, List.length_append, List.length_append, List.length_append, List.length_singleton]
      omega) (RE T am a [a] [a] none none) ⟨_, _, _, _, rfl, .start a, Nat.le_refl _⟩
 subst e
 refine ⟨R, Xa (δ := [some (TD T), some (AD am), some (nD a), none, none, none, none]) rfl ?_, hS.done⟩
 rw [ZbJ, Zu (δ' := [some (TD T), some (AD am), some (nD a), some (TK [a]), none, none, none]) (ZI rfl), Zu (δ' := RE T am a [a] [a] none none) (ZI (Jv (ds := [nD a]) rfl (by show 1 <= 1000; decide))), Zu h1]
 exact YO rfl
end
end K32
namespace K32
open DL L2
section
variable {n : Nat} {T : List (List Int)} {w : List Int}
noncomputable def cT : DL.Env -> Option Bool := (xB (eOp (ZU fun i j => decide (i < j)) (Za 4) (eCB lenD (Zb (Za 3) eNil))))
noncomputable def cB : DL.Env -> Option Out := (sIf (Yc (xB (eOp (inD true) (Za 5) (Za 3))) (Yc (xB (eOp (ZU fun i j => decide (j < i)) (eOp ixD (Za 1) (Za 5)) (eC (.int 0)))) (xB (eOp neD (eOp ixD (eOp ixD (Za 0) (eOp ixD (Za 3) (Za 4))) (Za 5)) (eC (.int 0)))))) (Ya 3 (Za 5)) sNext)
noncomputable def wI : DL.Env -> Option (List D) := (ZV (Zb (eCB lenD (Zb (Za 1) eNil)) eNil))
noncomputable def cW : DL.Env -> Option Out := (Zd (ZE wI (Zf 5) cB) (Zi 4 (eOp addX (Za 4) (eC (.int 1)))))
theorem ZeJ : f_QD = Zd (Zi 3 (ZL (Zb (Za 2) eNil))) (Zd (Zi 4 (eC (.int 0))) (Zd (YI cT cW) (Zs (eCB VD (Zb (Za 3) eNil))))) := rfl
abbrev CE (T : List (List Int)) (w : List Int) (a : Nat) (S : List Nat) (i : Nat) (v5 : Option D) : DL.Env := [some (TD T), some (IL w), some (nD a), some (AD S), some (nD i), v5]
theorem Zfp (hw : w.length = n) (hn : n <= 8) {δ : DL.Env} (h1 : Za 1 δ = some (IL w)) : wI δ = some ((List.range n).map nD) := by
 rw [<- JM]
 refine (Ur (j := (n : Int)) (Zl ((YC (Zl h1 nil_of)).trans (len_lst.trans ?_)) nil_of) (by omega) (by omega)).trans (by rw [Int.toNat_natCast])
 rw [List.length_map, hw]
theorem ZhL (h : Ok n T (amw w n)) (hw : w.length = n) (a b i : Nat) (hb : b < n) {S : List Nat} (hi : S[i]? = some b) (hS : S.length + ms (amw w n) S <= (amw w n).length + 1) (hnd : S.Nodup) (v5 : Option D) : ∃ nw w5, Add T (amw w n) b S nw (amw w n) /\ (S ++ nw).Nodup /\ ZE wI (Zf 5) cB (CE T w a S i v5) = some (.nx (CE T w a (S ++ nw) i w5)) := by
 have hal := h.al
 have hn8 := h.n8
 obtain ⟨δ', h1, nw, w5, e, A, hA⟩ := VU (γ := Zf 5) (φ := cB) nD (fun dn δ => ∃ nw w5, δ = CE T w a (S ++ nw) i w5 /\ Add T (amw w n) b S nw (dn.filter fun k => decide (0 < w.getD k 0)) /\ (S ++ nw).Nodup) (List.range n) (by
  rintro dn x r δ e ⟨nw, w5, rfl, A, hA⟩
  have hxn : x < n := List.mem_range.mp (by rw [<- e]; exact List.mem_append_right _ List.mem_cons_self)
  have hl := (List.getElem?_eq_some_iff.mp hi).1
  have hi2 : (S ++ nw)[i]? = some b := by rw [List.getElem?_append_left hl]; exact hi
  have e1 : xB (eOp (inD true) (Za 5) (Za 3)) (CE T w a (S ++ nw) i (some (nD x))) = some (!decide (x ∈ S ++ nw)) := ZX ((Zm (x := nD x) (y := AD (S ++ nw)) rfl rfl).trans (JJ x _))
  have e0 : xB (eOp (ZU fun i j => decide (j < i)) (eOp ixD (Za 1) (Za 5)) (eC (.int 0))) (CE T w a (S ++ nw) i (some (nD x))) = some (decide (0 < w.getD x 0)) := ZX ((Zm (x := .int (w.getD x 0)) (y := .int 0) ((Zm (x := IL w) (y := nD x) rfl rfl).trans (UH hw hxn)) rfl).trans rfl)
  have e2 : xB (eOp neD (eOp ixD (eOp ixD (Za 0) (eOp ixD (Za 3) (Za 4))) (Za 5)) (eC (.int 0))) (CE T w a (S ++ nw) i (some (nD x))) = some (ed T b x) := by
   rw [<- ZgZ h hb hxn]
   exact ZX ((Zm (x := .int ((T.getD b []).getD x 0)) (y := .int 0) ((Zm (x := IL (T.getD b [])) (y := nD x) ((Zm (x := TD T) (y := nD b) rfl ((Zm (x := AD (S ++ nw)) (y := nD i) rfl rfl).trans (Zg0 hi2))).trans (UB h hb)) rfl).trans (UC h hb hxn)) rfl).trans (Ju _ _))
  have e3 := Qm e1 (Qm e0 e2)
  have hc := A.cnt
  have ef : (dn ++ [x]).filter (fun k => decide (0 < w.getD k 0)) = dn.filter (fun k => decide (0 < w.getD k 0)) ++ (if decide (0 < w.getD x 0) = true then [x] else []) := by
   rw [List.filter_append, List.filter_cons]
   rfl
  refine ⟨CE T w a (S ++ nw) i (some (nD x)), rfl, ?_⟩
  cases hz : (!decide (x ∈ S ++ nw) && (decide (0 < w.getD x 0) && ed T b x)) with
  | true =>
   rw [hz] at e3
   rw [Bool.and_eq_true, Bool.and_eq_true] at hz
   have hn : x ∉ S ++ nw := by simpa using hz.1
   have hxa : x ∈ amw w n := amw_mem.mpr ⟨hxn, of_decide_eq_true hz.2.1⟩
   refine ⟨CE T w a (S ++ (nw ++ [x])) i (some (nD x)), (VO e3).trans ((Us (xs := (S ++ nw).map nD) (d := nD x) rfl rfl (by rw [List.length_map, List.length_append]; omega)).trans ?_), nw ++ [x], some (nD x), rfl, ?_, ?_⟩
   · have em : (S ++ nw).map nD ++ [nD x] = (S ++ (nw ++ [x])).map nD := by rw [<- List.append_assoc, List.map_append (l₁ := S ++ nw)]; rfl
     rw [em]
     rfl
   · rw [ef, hz.2.1, if_pos rfl]
     exact A.yes hxa hz.2.2 hn
   · rw [<- List.append_assoc, List.nodup_append]
     exact ⟨hA, List.nodup_cons.mpr ⟨List.not_mem_nil, List.nodup_nil⟩, fun y hy z hz' => by rw [List.mem_singleton.mp hz']; exact fun q => hn (q ▸ hy)⟩
  | false =>
   rw [hz] at e3
   refine ⟨_, (XN e3).trans rfl, nw, some (nD x), rfl, ?_, hA⟩
   rw [ef]
   cases hp : decide (0 < w.getD x 0) with
   | true =>
    rw [if_pos rfl]
    refine A.no fun ⟨z1, z2⟩ => ?_
    rw [z1, decide_eq_false z2, hp] at hz
    cases hz
   | false =>
    rw [if_neg Bool.false_ne_true, List.append_nil]
    exact A) (List.range n) [] (CE T w a S i v5) rfl ⟨[], v5, by rw [List.append_nil], .nil, by rw [List.append_nil]; exact hnd⟩
 subst e
 exact ⟨nw, w5, A, hA, Y9 (Zfp hw hn8 rfl) h1⟩
def cM (k : Nat) : DL.Env -> Nat
 | [_, _, _, _, some (.int i), _] => k + 1 - i.toNat
 | _ => 0
theorem Zfq (k a : Nat) (S : List Nat) (i : Nat) (v5 : Option D) : cM k (CE T w a S i v5) = k + 1 - i := rfl
theorem ZeK {S q : List Nat} (hS : S.Nodup) (hq : q.Pairwise (· < ·)) (hm : ∀ x, x ∈ S ↔ x ∈ q) (hl : S.length < 64) : VD [AD S] = some (AD q) := by
 have hqn : q.Nodup := hq.imp fun h => Nat.ne_of_lt h
 have hp : (q.map fun a => ((a : Nat) : Int)).Perm (S.map fun a => ((a : Nat) : Int)) := ((List.perm_ext_iff_of_nodup hqn hS).mpr fun x => (hm x).symm).map _
 have hs : (q.map fun a => ((a : Nat) : Int)).Pairwise (· <= ·) := List.pairwise_map.mpr (hq.imp fun h => by omega)
 have e := Zao hp hs
 rw [JK, JK, e]
 show (match Yr ((S.map fun a => ((a : Nat) : Int)).map D.int) with
  | some ns => if ns.length < 64 then some (D.lst ((Xq ns).map D.int)) else none
  | none => none) = _
 rw [DL.intsD_map]
 dsimp only
 rw [if_pos (by rw [List.length_map]; exact hl)]
open Classical in
noncomputable def rch (T : List (List Int)) (am : List Nat) (a : Nat) : List Nat := am.filter fun o => decide (Rch T am a o)
open Classical in
theorem rch_mem {am : List Nat} {a x : Nat} : x ∈ rch T am a ↔ x ∈ am /\ Rch T am a x := by
 unfold rch
 rw [List.mem_filter, decide_eq_true_eq]
theorem Zcg (h : Ok n T (amw w n)) (hw : w.length = n) {a : Nat} (haw : a ∈ amw w n) : XO [TD T, IL w, nD a] = some (AD (rch T (amw w n) a)) := by
 have hal := h.al
 have ha := h.lt a haw
 obtain ⟨δ', h1, S, v5, e, hS, hnd⟩ := Jw (τ := cT) (φ := cW) (fun δ => ∃ S i v5, δ = CE T w a S i v5 /\ Sq T (amw w n) a S i /\ S.Nodup) (fun δ => ∃ S v5, δ = CE T w a S S.length v5 /\ Sq T (amw w n) a S S.length /\ S.Nodup) (cM (amw w n).length) (by
  rintro δ ⟨S, i, v5, rfl, hS, hnd⟩
  have ht : cT (CE T w a S i v5) = some (decide ((i : Int) < (S.length : Int))) := by
   refine ZX ((Zm (x := nD i) (y := .int ((S.map nD).length : Int)) rfl ((YC (Zl (x := AD S) rfl nil_of)).trans len_lst)).trans ?_)
   rw [List.length_map]
   rfl
  have hle := hS.le
  have hc := hS.cnt
  by_cases hl : i < S.length
  · have hb := List.getElem?_eq_getElem hl
    have hbn : S[i] < n := by
     rcases (hS.snd _ (List.getElem_mem hl)).into with z | z
     · rw [z]; exact ha
     · exact h.lt _ z
    obtain ⟨nw, w5, A, hnd', g⟩ := ZhL h hw a S[i] i hbn hb hc hnd v5
    refine .inr ⟨by rw [ht]; exact congrArg some (decide_eq_true (by omega)), CE T w a (S ++ nw) (i + 1) w5, (Zu g).trans (ZI ((Zm (x := nD i) (y := .int 1) rfl rfl).trans (add_int _ _))), ⟨_, _, _, rfl, hS.next hb A, hnd'⟩, ?_⟩
    rw [Zfq, Zfq]
    omega
  · have e : i = S.length := by omega
    subst e
    exact .inl ⟨by rw [ht]; exact congrArg some (decide_eq_false (by omega)), S, v5, rfl, hS, hnd⟩) (CE T w a [a] 0 none) ⟨_, _, _, rfl, .start a, List.nodup_cons.mpr ⟨List.not_mem_nil, List.nodup_nil⟩⟩
 subst e
 have hc := hS.cnt
 refine Xa (δ := [some (TD T), some (IL w), some (nD a), none, none, none]) rfl ?_
 rw [ZeJ, Zu (δ' := [some (TD T), some (IL w), some (nD a), some (AD [a]), none, none]) (ZI (Jv (ds := [nD a]) rfl (by show 1 <= 1000; decide))), Zu (δ' := CE T w a [a] 0 none) (ZI rfl), Zu h1]
 refine YO ((YC (Zl (x := AD S) rfl nil_of)).trans (ZeK hnd ((JN w n).filter _) (fun x => ?_) (by omega)))
 rw [hS.done x]
 refine Iff.trans ⟨fun z => ⟨?_, z⟩, fun z => z.2⟩ rch_mem.symm
 rcases z.into with q | q
 · rw [q]; exact haw
 · exact q
end
end K32
namespace K32
open DL L2
section
variable {n : Nat} {T : List (List Int)} {am : List Nat}
noncomputable def tA : DL.Env -> Option Out := (Yw 2 (Za 3) (Zq 3 VP [] (Zb (Za 0) (Zb (Za 1) (Zb (Za 3) eNil)))))
noncomputable def tQ : DL.Env -> Option Bool := (Yc (xB (eOp (inK false) (Za 0) (eOp XL (Za 1) (Za 2)))) (xB (eOp (inK false) (Za 2) (eOp XL (Za 1) (Za 0)))))
noncomputable def tC : DL.Env -> Option Out := (Zi 6 (ZG (ZF (Za 1)) (Zf 0) tQ (Za 0) 1 [2, 3]))
noncomputable def tP : DL.Env -> Option Out := (Yw 5 (Za 7) (eC (.bl true)))
noncomputable def tB : DL.Env -> Option Out := (sIf (xB (eOp (inK true) (Za 3) (Za 5))) (Zd (Z8 4 tC) (Ve 4 6 7 tP)) sNext)
theorem ZeL : f_QJ = ZK (Zi 2 (eC (.dct [] []))) (ZK (ZE (ZF (Za 1)) (Zf 3) tA) (ZK (YK 4 (ZL eNil)) (ZK (Z8 4 (Zi 5 (eC (.dct [] [])))) (ZK (Um 4 3 (Za 1) tB) (Zs (Za 4)))))) := rfl
abbrev DR (f : Nat -> List Nat) (l : List Nat) : D := .dct (tkK l) (l.map fun a => TK (f a))
theorem ZeM {f : Nat -> List Nat} (h : Ok n T am) (hf : ∀ a, a < n -> VP [TD T, AD am, nD a] = some (TK (f a))) : ∃ v3, ZE (ZF (Za 1)) (Zf 3) tA [some (TD T), some (AD am), some (DR f []), none, none, none, none, none] = some (.nx [some (TD T), some (AD am), some (DR f am), v3, none, none, none, none]) := by
 have hal := h.al
 obtain ⟨δ', h1, v3, e⟩ := VU (γ := Zf 3) (φ := tA) nD (fun dn δ => ∃ v3, δ = [some (TD T), some (AD am), some (DR f dn), v3, none, none, none, none]) am (by
  rintro dn x r δ e ⟨v3, rfl⟩
  have hx : x ∈ am := by rw [<- e]; exact List.mem_append_right _ List.mem_cons_self
  have hxd : x ∉ dn := fun z => by
   have := h.nd
   rw [<- e, List.nodup_append] at this
   exact this.2.2 x z x List.mem_cons_self rfl
  have hdl : dn.length <= 8 := by
   have := congrArg List.length e
   rw [List.length_append] at this
   omega
  have hd : Zb (Za 0) (Zb (Za 1) (Zb (Za 3) eNil)) [some (TD T), some (AD am), some (DR f dn), some (nD x), none, none, none, none] = some [TD T, AD am, nD x] := Zl rfl (Zl rfl (Zl rfl nil_of))
  exact ⟨[some (TD T), some (AD am), some (DR f dn), some (nD x), none, none, none, none], rfl, _, Zbp (l := dn) (t := x) (fun a => TK (f a)) rfl rfl ((Yf hd rfl).trans (hf x (h.lt x hx))) hxd (by omega), some (nD x), rfl⟩) am [] [some (TD T), some (AD am), some (DR f []), none, none, none, none, none] rfl ⟨none, rfl⟩
 subst e
 exact ⟨v3, Y9 (Xd rfl) h1⟩
abbrev TE8 (T : List (List Int)) (am : List Nat) (f : Nat -> List Nat) (v3 v4 : Option D) (pl : List Nat) (v6 v7 : Option D) : DL.Env := [some (TD T), some (AD am), some (DR f am), v3, v4, some (TK pl), v6, v7]
theorem ZdN (f : Nat -> List Nat) {l : List Nat} {a : Nat} (h : a ∈ l) : XL (DR f l) (nD a) = some (TK (f a)) := Zbr (fun a => TK (f a)) a l h
theorem Zf5 (h : Ok n T am) (f : Nat -> List Nat) {r : Nat} (hr : r ∈ am) (v4 : Option D) (pl : List Nat) (v6 v7 : Option D) : ZG (ZF (Za 1)) (Zf 0) tQ (Za 0) 1 [2, 3] (TE8 T am f (some (nD r)) v4 pl v6 v7) = some (AD (pt am f r)) := by
 have hal := h.al
 have hc : Zx (Zf 0) tQ (Za 0) [none, some (DR f am), some (nD r)] (am.map nD) = some ((pt am f r).map nD) := UE nD (fun o => decide (o ∈ f r) && decide (r ∈ f o)) am fun o ho => ⟨[some (nD o), some (DR f am), some (nD r)], rfl,
  Qm (ZX ((Zm (x := nD o) (y := TK (f r)) rfl ((Zm (x := DR f am) (y := nD r) rfl rfl).trans (ZdN f hr))).trans (Zfn o _))) (ZX ((Zm (x := nD r) (y := TK (f o)) rfl ((Zm (x := DR f am) (y := nD o) rfl rfl).trans (ZdN f ho))).trans (Zfn r _))), rfl⟩
 refine Xr (Xd rfl) rfl hc ?_
 have : (pt am f r).length <= am.length := List.length_filter_le _ _
 rw [List.length_map]
 omega
theorem Zg1 (f : Nat -> List Nat) (v3 : Option D) (pl q : List Nat) (hl : pl.length + q.length <= 900) (v7 : Option D) : ∃ pl' w7, (∀ y, y ∈ pl' ↔ y ∈ pl \/ y ∈ q) /\ pl'.length <= pl.length + q.length /\ Zt (Zf 7) tP (q.map nD) (TE8 T am f v3 none pl none v7) = some (.nx (TE8 T am f v3 none pl' none w7)) := by
 obtain ⟨δ', h1, pl', w7, e, p1, p2⟩ := VU (γ := Zf 7) (φ := tP) nD (fun dn δ => ∃ pl' w7, δ = TE8 T am f v3 none pl' none w7 /\ (∀ y, y ∈ pl' ↔ y ∈ pl \/ y ∈ dn) /\ pl'.length <= pl.length + dn.length) q (by
  rintro dn x r δ e ⟨pl', w7, rfl, p1, p2⟩
  have hdl : dn.length <= q.length := by
   have := congrArg List.length e
   rw [List.length_append] at this
   omega
  have := ZeI pl' x
  refine ⟨TE8 T am f v3 none pl' none (some (nD x)), rfl, _, Zbq (tk := pl') (t := x) rfl rfl (by omega), ins pl' x, some (nD x), rfl, fun y => ?_, by rw [List.length_append, List.length_singleton]; omega⟩
  rw [ZeH, p1, List.mem_append, List.mem_singleton]
  exact or_assoc) q [] (TE8 T am f v3 none pl none v7) rfl ⟨pl, v7, rfl, fun y => ⟨.inl, fun z => z.elim id fun z => nomatch z⟩, Nat.le_refl _⟩
 subst e
 exact ⟨pl', w7, p1, p2, h1⟩
theorem Zf6 {f : Nat -> List Nat} (h : Ok n T am) (hF : Fn T am f) (v3 : Option D) : ∃ w3 pl w6 w7, Um 4 3 (Za 1) tB (TE8 T am f v3 (some (PM [])) [] none none) = some (.nx (TE8 T am f w3 (some (PM (ZN am f am))) pl w6 w7)) := by
 have hal := h.al
 obtain ⟨δ', h1, w3, pl, w6, w7, e, _, _⟩ := VU (γ := Zf 3) (φ := tB) nD (fun dn δ => ∃ w3 pl w6 w7, δ = TE8 T am f w3 (some (PM (ZN am f dn))) pl w6 w7 /\ (∀ y, y ∈ pl ↔ ∃ q ∈ ZN am f dn, y ∈ q) /\ pl.length <= 8 * dn.length) am (by
  rintro dn x r δ e ⟨w3, pl, w6, w7, rfl, p1, p2⟩
  have hx : x ∈ am := by rw [<- e]; exact List.mem_append_right _ List.mem_cons_self
  have hdn : ∀ y ∈ dn, y ∈ am := fun y hy => by rw [<- e]; exact List.mem_append_left _ hy
  have hdl : dn.length + 1 <= 8 := by
   have := congrArg List.length e
   rw [List.length_append, List.length_cons] at this
   omega
  have hpl := (JE f hdn).2
  have hiff := Zdg hF hdn hx
  rw [<- p1] at hiff
  have e1 : xB (eOp (inK true) (Za 3) (Za 5)) (TE8 T am f (some (nD x)) (some (PM (ZN am f dn))) pl w6 w7) = some (!decide (x ∈ pl)) := ZX ((Zm (x := nD x) (y := TK pl) rfl rfl).trans (Zbo x pl))
  refine ⟨TE8 T am f (some (nD x)) (some (PM (ZN am f dn))) pl w6 w7, rfl, ?_⟩
  by_cases hm : x ∈ pl
  · rw [decide_eq_true hm] at e1
    refine ⟨_, (XN e1).trans rfl, some (nD x), pl, w6, w7, ?_, fun y => ?_, by rw [List.length_append]; omega⟩
    · rw [UA, stp, if_pos (hiff.mp hm)]
    · rw [UA, stp, if_pos (hiff.mp hm)]
      exact p1 y
  · rw [decide_eq_false hm] at e1
    have hno : pt am f x ∉ ZN am f dn := fun z => hm (hiff.mpr z)
    have hql : (pt am f x).length <= am.length := List.length_filter_le _ _
    have t1 : Z8 4 tC (TE8 T am f (some (nD x)) (some (PM (ZN am f dn))) pl w6 w7) = some (.nx (TE8 T am f (some (nD x)) (some (PM (ZN am f dn))) pl (some (AD (pt am f x))) w7)) := UF (δ0 := TE8 T am f (some (nD x)) none pl w6 w7) (δ' := TE8 T am f (some (nD x)) none pl (some (AD (pt am f x))) w7) rfl (ZI (Zf5 h f hx none pl w6 w7)) rfl rfl
    obtain ⟨pl', w7', g1, g2, g3⟩ := Zg1 (T := T) (am := am) f (some (nD x)) pl (pt am f x) (by omega) w7
    have t2 : Ve 4 6 7 tP (TE8 T am f (some (nD x)) (some (PM (ZN am f dn))) pl (some (AD (pt am f x))) w7) = some (.nx (TE8 T am f (some (nD x)) (some (PM (ZN am f dn ++ [pt am f x]))) pl' none w7')) := by
     refine (ZbI (xs := (ZN am f dn).map AD) (r := (pt am f x).map nD) (δ2 := TE8 T am f (some (nD x)) none pl' none w7') rfl rfl (by rw [List.length_map]; omega) (Qn _) (by show 4 < 8; decide) g3 rfl).trans ?_
     rw [PM, List.map_append]
     rfl
    refine ⟨_, (VO e1).trans ((Zu t1).trans t2), some (nD x), pl', none, w7', ?_, fun y => ?_, by rw [List.length_append, List.length_singleton]; omega⟩
    · rw [UA, stp, if_neg hno]
    · rw [UA, stp, if_neg hno, g1, p1]
      constructor
      · rintro (⟨q, hq, hy⟩ | hy)
        · exact ⟨q, List.mem_append_left _ hq, hy⟩
        · exact ⟨_, List.mem_append_right _ (List.mem_singleton.mpr rfl), hy⟩
      · rintro ⟨q, hq, hy⟩
        rcases List.mem_append.mp hq with hq | hq
        · exact .inl ⟨q, hq, hy⟩
        · rw [List.mem_singleton.mp hq] at hy
          exact .inr hy) am [] (TE8 T am f v3 (some (PM [])) [] none none) rfl ⟨v3, [], none, none, rfl, fun y => ⟨fun z => (nomatch z), fun ⟨q, hq, _⟩ => (nomatch hq)⟩, Nat.zero_le _⟩
 subst e
 refine ⟨w3, pl, w6, w7, ?_⟩
 show (if (am.map nD).all Zh = true then Zt (Zf 3) tB (am.map nD) (TE8 T am f v3 (some (PM [])) [] none none) else none) = _
 rw [if_pos (Qn am)]
 exact h1
theorem ZeN (h : Ok n T am) : ∃ f, Fn T am f /\ Qf [TD T, AD am] = some (PM (ZN am f am)) := by
 obtain ⟨f, hf⟩ := Classical.skolem.mp (show ∀ a : Nat, ∃ R : List Nat, a < n -> VP [TD T, AD am, nD a] = some (TK R) /\ ∀ x, x ∈ R ↔ Rch T am a x from fun a => by
  by_cases ha : a < n
  · obtain ⟨R, h1, h2⟩ := ZbK h ha
    exact ⟨R, fun _ => ⟨h1, h2⟩⟩
  · exact ⟨[], fun z => absurd z ha⟩)
 have hF : Fn T am f := ⟨fun a ha => (hf a (h.lt a ha)).2⟩
 obtain ⟨v3, g1⟩ := ZeM h (f := f) fun a ha => (hf a ha).1
 obtain ⟨w3, pl, w6, w7, g2⟩ := Zf6 h hF v3
 refine ⟨f, hF, JH (δ := [some (TD T), some (AD am), none, none, none, none, none, none]) rfl ?_⟩
 rw [ZeL, X2 (δ' := [some (TD T), some (AD am), some (DR f []), none, none, none, none, none]) (ZI rfl), X2 g1, X2 (δ' := [some (TD T), some (AD am), some (DR f am), v3, some (PM []), none, none, none]) (JG rfl (by show 4 < 8; decide)), X2 (δ' := TE8 T am f v3 (some (PM [])) [] none none) (UF (δ' := TE8 T am f v3 none [] none none) rfl (ZI rfl) rfl rfl), X2 g2]
 exact YO rfl
end
end K32
namespace K32
open DL L2
section
variable {n : Nat} {T : List (List Int)} {am : List Nat}
noncomputable def jE : DL.Env -> Option D := (eOp ixD (eOp ixD (Za 1) (Za 2)) (Za 0))
noncomputable def iE : DL.Env -> Option D := (eOp eqD (eCB sumLD (Zb (ZG (ZF (Za 2)) (Zf 0) (fun _ => some true) jE 1 [1, 0]) eNil)) (eC (.int 0)))
noncomputable def oT : DL.Env -> Option Bool := (xB (eOp (inD true) (Za 0) (Za 1)))
theorem Zf7 : f_QL = Zd (Zi 3 (ZG (ZF (Za 1)) (Zf 0) oT (Za 0) 1 [2])) (Zs (eCB (Vz fun bs => bs.all id) (Zb (ZG (ZF (Za 2)) (Zf 0) (fun _ => some true) iE 1 [0, 3]) eNil))) := rfl
theorem ZhM (h : Ok n T am) {r : Nat} (hr : r < n) {o : List Nat} (ho : ∀ t ∈ o, t < n) (hl : o.length <= 8) : iE [some (nD r), some (TD T), some (AD o)] = some (.bl (decide ((o.map fun t => (T.getD r []).getD t 0).sum = 0))) := by
 have hc : Zx (Zf 0) (fun _ => some true) jE [none, some (TD T), some (nD r)] (o.map nD) = some (o.map fun t => D.int ((T.getD r []).getD t 0)) := VW nD (fun t => D.int ((T.getD r []).getD t 0)) o fun t ht => ⟨[some (nD t), some (TD T), some (nD r)], rfl, (Zm (x := IL (T.getD r [])) (y := nD t) ((Zm (x := TD T) (y := nD r) rfl rfl).trans (UB h hr)) rfl).trans (UC h hr (ho t ht))⟩
 have e1 : ZG (ZF (Za 2)) (Zf 0) (fun _ => some true) jE 1 [1, 0] [some (nD r), some (TD T), some (AD o)] = some (IL (o.map fun t => (T.getD r []).getD t 0)) := by
  refine (Xr (Xd rfl) rfl hc (by rw [List.length_map]; omega)).trans ?_
  rw [IL, List.map_map]
  rfl
 exact (Zm (x := .int ((o.map fun t => (T.getD r []).getD t 0).sum)) (y := .int 0) ((YC (Zl e1 nil_of)).trans (Zdj _)) rfl).trans (Up _ _)
theorem ZcR (h : Ok n T am) {q : List Nat} (hq : ∀ x ∈ q, x < n) (hl : q.length <= 8) : Qg [TD T, AD am, AD q] = some (.bl (clo T am q)) := by
 have hal := h.al
 have hol : (Yx am q).length <= am.length := List.length_filter_le _ _
 have ho : ∀ t ∈ Yx am q, t < n := fun t ht => h.lt t (List.mem_filter.mp ht).1
 have hc1 : Zx (Zf 0) oT (Za 0) [none, some (AD q)] (am.map nD) = some ((Yx am q).map nD) := UE nD (fun t => !decide (t ∈ q)) am fun t _ => ⟨[some (nD t), some (AD q)], rfl, ZX ((Zm (x := nD t) (y := AD q) rfl rfl).trans (JJ t q)), rfl⟩
 have t1 : Zi 3 (ZG (ZF (Za 1)) (Zf 0) oT (Za 0) 1 [2]) [some (TD T), some (AD am), some (AD q), none] = some (.nx [some (TD T), some (AD am), some (AD q), some (AD (Yx am q))]) := ZI (Xr (Xd rfl) rfl hc1 (by rw [List.length_map]; omega))
 have hc2 : Zx (Zf 0) (fun _ => some true) iE [none, some (TD T), some (AD (Yx am q))] (q.map nD) = some (q.map fun r => D.bl (decide (((Yx am q).map fun t => (T.getD r []).getD t 0).sum = 0))) := VW nD (fun r => D.bl (decide (((Yx am q).map fun t => (T.getD r []).getD t 0).sum = 0))) q fun r hr => ⟨[some (nD r), some (TD T), some (AD (Yx am q))], rfl, ZhM h (hq r hr) ho (by omega)⟩
 have e2 : ZG (ZF (Za 2)) (Zf 0) (fun _ => some true) iE 1 [0, 3] [some (TD T), some (AD am), some (AD q), some (AD (Yx am q))] = some (.lst ((q.map fun r => decide (((Yx am q).map fun t => (T.getD r []).getD t 0).sum = 0)).map D.bl)) := by
  refine (Xr (Xd rfl) rfl hc2 (by rw [List.length_map]; omega)).trans ?_
  rw [List.map_map]
  rfl
 refine Xa (δ := [some (TD T), some (AD am), some (AD q), none]) rfl ?_
 rw [Zf7, Zu t1]
 refine YO ((YC (Zl e2 nil_of)).trans ((ZcQ _).trans ?_))
 rw [List.all_map]
 rfl
noncomputable def eT : DL.Env -> Option Bool := (xB (eOp (ZU fun i j => decide (j < i)) (Za 1) (eC (.int 0))))
noncomputable def pM : DL.Env -> Option D := (Zq 2 Qf [] (Zb (Za 0) (Zb (Za 2) eNil)))
noncomputable def pT : DL.Env -> Option Bool := (xB (Zq 3 Qg [] (Zb (Za 1) (Zb (Za 2) (Zb (Za 0) eNil)))))
theorem Zg2 : f_QG = ZK (Zi 2 (ZG (Ui 0 (Za 1)) (XF 2 (YA 0 (YA 1 gsNil))) eT (Za 0) 2 [])) (Zs (VH pM pT 0 [0, 2])) := rfl
theorem ZaJ : ∀ (w : List Int) (k : Nat), Zx (XF 2 (YA 0 (YA 1 gsNil))) eT (Za 0) [none, none] (YJ k (w.map D.int)) = some (((List.range' k w.length).filter fun j => decide (0 < w.getD (j - k) 0)).map nD)
 | [], k => rfl
 | x :: w, k => by
  have ih := ZaJ w (k + 1)
  have e : (List.range' (k + 1) w.length).filter (fun j => decide (0 < w.getD (j - (k + 1)) 0)) = (List.range' (k + 1) w.length).filter (fun j => decide (0 < (x :: w).getD (j - k) 0)) := List.filter_congr fun j hj => by
   obtain ⟨i, hi, rfl⟩ := List.mem_range'.mp hj
   rw [show k + 1 + 1 * i - (k + 1) = i by omega, show k + 1 + 1 * i - k = i + 1 by omega]
   rfl
  rw [e] at ih
  have hx : (x :: w).getD (k - k) 0 = x := by rw [Nat.sub_self]; rfl
  rw [List.length_cons, List.range'_succ, List.filter_cons, hx]
  show (match eT [some (nD k), some (.int x)] with
   | none => none
   | some false => Zx (XF 2 (YA 0 (YA 1 gsNil))) eT (Za 0) [none, none] (YJ (k + 1) (w.map D.int))
   | some true => match Za 0 [some (nD k), some (.int x)] with
    | none => none
    | some y => match Zx (XF 2 (YA 0 (YA 1 gsNil))) eT (Za 0) [none, none] (YJ (k + 1) (w.map D.int)) with
     | none => none
     | some ys => some (y :: ys)) = _
  have et : eT [some (nD k), some (.int x)] = some (decide (0 < x)) := ZX ((Zm (x := .int x) (y := .int 0) rfl rfl).trans rfl)
  rw [et, ih]
  cases hp : decide (0 < x) with
  | true => rfl
  | false => rfl
theorem Zg3 {w : List Int} (hw : w.length = n) (hn : n <= 8) (X : D) : ZG (Ui 0 (Za 1)) (XF 2 (YA 0 (YA 1 gsNil))) eT (Za 0) 2 [] [some X, some (IL w), none] = some (AD (amw w n)) := by
 have e : (List.range' 0 w.length).filter (fun j => decide (0 < w.getD (j - 0) 0)) = amw w n := by
  unfold amw
  rw [hw, List.range_eq_range']
  rfl
 have hc := ZaJ w 0
 rw [e] at hc
 have hal : (amw w n).length <= (List.range n).length := List.length_filter_le _ _
 rw [List.length_range] at hal
 exact Xr rfl rfl hc (by rw [List.length_map]; omega)
theorem ZeO {μ : DL.Env -> Option D} {τ : DL.Env -> Option Bool} {js : List Nat} {δ δ0 : DL.Env} {acc : List (List Nat)} {q : List Nat} (p : List Nat -> Bool) (hμ : μ δ = some (PM acc)) (hb : ZW 1 δ js = δ0) (hl : acc.length <= 8) (hq : (acc.filter p).head? = some q) (ht : ∀ x ∈ acc, τ (δ0.set 0 (some (AD x))) = some (p x) /\ Za 0 (δ0.set 0 (some (AD x))) = some (AD x)) : VH μ τ 0 js δ = some (AD q) := by
 have hc : Zx (Zf 0) τ (Za 0) δ0 (acc.map AD) = some ((acc.filter p).map AD) := UE AD p acc fun x hx => ⟨_, rfl, (ht x hx).1, (ht x hx).2⟩
 unfold VH
 rw [hμ]
 dsimp only
 rw [hb, hc]
 cases hf : acc.filter p with
 | nil => rw [hf] at hq; cases hq
 | cons y ys =>
  rw [hf] at hq
  cases hq
  rw [List.map_cons]
  dsimp only
  rw [if_pos (by rw [List.length_map, PySem.sizeLine_eq]; omega)]
open Classical in
theorem Zf8 {S : List Nat} {r : Nat} (h : ∀ x, x ∈ S ↔ Rch T am r x) : (am.filter fun o => decide (o ∈ S)) = rch T am r := by
 unfold rch
 exact List.filter_congr fun o _ => by rw [Bool.eq_iff_iff, decide_eq_true_eq, decide_eq_true_eq]; exact h o
theorem ZeP {w : List Int} (h : Ok n T (amw w n)) (hw : w.length = n) (hne : amw w n ≠ []) : ∃ r, r ∈ amw w n /\ Cl T (amw w n) r /\ (∀ s ∈ amw w n, s < r -> ¬ Cl T (amw w n) s) /\ Ut [TD T, IL w] = some (AD (rch T (amw w n) r)) := by
 have hn8 := h.n8
 have hal := h.al
 obtain ⟨f, hF, m1⟩ := ZeN h
 have hnn : ∀ a ∈ amw w n, ∀ t ∈ amw w n, 0 <= (T.getD a []).getD t 0 := fun a ha t ht => UD h (h.lt a ha) (h.lt t ht)
 obtain ⟨s0, hs0, hc0⟩ := Za1 (T := T) hne
 have hfa := ZcO (am := amw w n) f (clo T (amw w n))
 have hsrc := JE f (l := amw w n) (am := amw w n) fun _ z => z
 cases hr : (amw w n).find? fun r => clo T (amw w n) (pt (amw w n) f r) with
 | none =>
  have := List.find?_eq_none.mp hr s0 hs0
  rw [(JF hF hs0 hnn).mpr hc0] at this
  exact absurd rfl this
 | some r =>
  rw [hr] at hfa
  obtain ⟨hp, as, bs, hab, hno⟩ := List.find?_eq_some_iff_append.mp hr
  have hrm : r ∈ amw w n := List.mem_of_find?_eq_some hr
  have hcl : Cl T (amw w n) r := (JF hF hrm hnn).mp hp
  have hsm : ∀ s ∈ amw w n, s < r -> ¬ Cl T (amw w n) s := fun s hs hlt hc => by
   have hsa : s ∈ as := by
    have hs' := hs
    rw [hab] at hs'
    rcases List.mem_append.mp hs' with z | z
    · exact z
    · rcases List.mem_cons.mp z with z | z
      · omega
      · have pw := JN w n
        rw [hab, List.pairwise_append] at pw
        have := (List.pairwise_cons.mp pw.2.1).1 s z
        omega
   have := hno s hsa
   rw [(JF hF hs hnn).mpr hc] at this
   exact absurd this (by decide)
  have hpt : pt (amw w n) f r = rch T (amw w n) r := by
   rw [ZeF hF hrm hcl]
   exact Zf8 (hF.eq r hrm)
  refine ⟨r, hrm, hcl, hsm, JH (δ := [some (TD T), some (IL w), none]) rfl ?_⟩
  rw [Zg2, X2 (δ' := [some (TD T), some (IL w), some (AD (amw w n))]) (ZI (Zg3 hw hn8 _)), <- hpt]
  refine YO (ZeO (clo T (amw w n)) ((Yf (Zl rfl (Zl rfl nil_of)) rfl).trans m1) rfl (by have := hsrc.2; omega) hfa fun x hx => ⟨?_, rfl⟩)
  obtain ⟨s, hs, rfl⟩ := hsrc.1 x hx
  have hql : (pt (amw w n) f s).length <= (amw w n).length := List.length_filter_le _ _
  have hd : Zb (Za 1) (Zb (Za 2) (Zb (Za 0) eNil)) [some (AD (pt (amw w n) f s)), some (TD T), some (AD (amw w n))] = some [TD T, AD (amw w n), AD (pt (amw w n) f s)] := Zl rfl (Zl rfl (Zl rfl nil_of))
  exact ZX ((Yf hd rfl).trans (ZcR h (fun y hy => h.lt y (List.mem_filter.mp hy).1) (by omega)))
end
end K32
namespace K32
open DL L2
section
variable {n : Nat} {T : List (List Int)} {w : List Int}
noncomputable def lB : DL.Env -> Option Out := (sIf (xB (eOp (inD true) (Za 2) (Zq 3 XO [] (Zb (Za 0) (Zb (Za 1) (Zb (Za 4) eNil)))))) (Zs (eC .non)) sNext)
theorem ZdO : f_QF = Zd (Zi 3 (Zq 3 XO [] (Zb (Za 0) (Zb (Za 1) (Zb (Za 2) eNil))))) (Zd (ZE (ZF (Za 3)) (Zf 4) lB) (Zs (Za 3))) := rfl
abbrev LE (T : List (List Int)) (w : List Int) (r : Nat) (q : List Nat) (v4 : Option D) : DL.Env := [some (TD T), some (IL w), some (nD r), some (AD q), v4]
theorem ZdP (h : Ok n T (amw w n)) (hw : w.length = n) (r : Nat) (q : List Nat) {o : Nat} (ho : o ∈ amw w n) : xB (eOp (inD true) (Za 2) (Zq 3 XO [] (Zb (Za 0) (Zb (Za 1) (Zb (Za 4) eNil))))) (LE T w r q (some (nD o))) = some (!decide (r ∈ rch T (amw w n) o)) := by
 have hd : Zb (Za 0) (Zb (Za 1) (Zb (Za 4) eNil)) (LE T w r q (some (nD o))) = some [TD T, IL w, nD o] := Zl rfl (Zl rfl (Zl rfl nil_of))
 exact ZX ((Zm (x := nD r) rfl ((Yf hd rfl).trans (Zcg h hw ho))).trans (JJ r _))
theorem ZdQ (h : Ok n T (amw w n)) (hw : w.length = n) {r : Nat} (hr : r ∈ amw w n) : (Cl T (amw w n) r -> Vh [TD T, IL w, nD r] = some (AD (rch T (amw w n) r))) /\ (¬ Cl T (amw w n) r -> Vh [TD T, IL w, nD r] = some .non) := by
 have hd : Zb (Za 0) (Zb (Za 1) (Zb (Za 2) eNil)) [some (TD T), some (IL w), some (nD r), none, none] = some [TD T, IL w, nD r] := Zl rfl (Zl rfl (Zl rfl nil_of))
 have t1 : Zi 3 (Zq 3 XO [] (Zb (Za 0) (Zb (Za 1) (Zb (Za 2) eNil)))) [some (TD T), some (IL w), some (nD r), none, none] = some (.nx (LE T w r (rch T (amw w n) r) none)) := ZI ((Yf hd rfl).trans (Zcg h hw hr))
 constructor
 · intro hc
   obtain ⟨δ', h1, v4, e⟩ := ZaG (γ := Zf 4) (φ := lB) (fun δ => ∃ v4, δ = LE T w r (rch T (amw w n) r) v4) ((rch T (amw w n) r).map nD) (LE T w r (rch T (amw w n) r) none) ⟨none, rfl⟩ (by
    rintro x hx δ ⟨v4, rfl⟩
    obtain ⟨o, ho, rfl⟩ := List.mem_map.mp hx
    obtain ⟨h2, h3⟩ := rch_mem.mp ho
    have e := ZdP h hw r (rch T (amw w n) r) h2
    rw [decide_eq_true (rch_mem.mpr ⟨hr, hc o h3⟩)] at e
    exact ⟨LE T w r (rch T (amw w n) r) (some (nD o)), rfl, _, (XN e).trans rfl, some (nD o), rfl⟩)
   subst e
   refine Xa (δ := [some (TD T), some (IL w), some (nD r), none, none]) rfl ?_
   rw [ZdO, Zu t1, Zu (Y9 (Xd rfl) h1)]
   exact YO rfl
 · intro hc
   have hc : ∃ o, Rch T (amw w n) r o /\ ¬ Rch T (amw w n) o r := Classical.byContradiction fun z => hc fun o ho => Classical.byContradiction fun z2 => z ⟨o, ho, z2⟩
   obtain ⟨o, ho1, ho2⟩ := hc
   have hom : o ∈ rch T (amw w n) r := rch_mem.mpr ⟨by
    rcases ho1.into with e | e
    · rw [e]; exact hr
    · exact e, ho1⟩
   have hf : ∃ x0, (rch T (amw w n) r).find? (fun o => !decide (r ∈ rch T (amw w n) o)) = some x0 := by
    cases hz : (rch T (amw w n) r).find? (fun o => !decide (r ∈ rch T (amw w n) o)) with
    | some x => exact ⟨x, rfl⟩
    | none =>
     have := List.find?_eq_none.mp hz o hom
     rw [decide_eq_false fun z => ho2 (rch_mem.mp z).2] at this
     exact absurd rfl this
   obtain ⟨x0, hf⟩ := hf
   have h1 := JL (γ := Zf 4) (φ := lB) nD (fun o => !decide (r ∈ rch T (amw w n) o)) (fun _ => D.non) (fun δ => ∃ v4, δ = LE T w r (rch T (amw w n) r) v4) (rch T (amw w n) r) x0 (LE T w r (rch T (amw w n) r) none) hf ⟨none, rfl⟩ (by
    rintro o ho δ ⟨v4, rfl⟩
    have e := ZdP h hw r (rch T (amw w n) r) (rch_mem.mp ho).1
    refine ⟨LE T w r (rch T (amw w n) r) (some (nD o)), rfl, fun hz => ?_, fun hz => ?_⟩
    · rw [hz] at e
      exact ⟨_, (XN e).trans rfl, some (nD o), rfl⟩
    · rw [hz] at e
      exact (VO e).trans (YO rfl))
   refine Xa (δ := [some (TD T), some (IL w), some (nD r), none, none]) rfl ?_
   rw [ZdO, Zu t1, ZdI (Y9 (Xd rfl) h1)]
noncomputable def dB : DL.Env -> Option Out := (sIf (xB (eOp (ZU fun i j => decide (j < i)) (eOp ixD (Za 1) (Za 2)) (eC (.int 0)))) (Zd (Zi 3 (Zq 3 Vh [] (Zb (Za 0) (Zb (Za 1) (Zb (Za 2) eNil))))) (sIf (xB (Vw (Za 3))) (Zs (Za 3)) sNext)) sNext)
theorem Zf9 : f_QM = Zd (ZE wI (Zf 2) dB) (Zs (ZL eNil)) := rfl
abbrev DE (T : List (List Int)) (w : List Int) (v2 v3 : Option D) : DL.Env := [some (TD T), some (IL w), v2, v3]
open Classical in
theorem Zga (h : Ok n T (amw w n)) (hw : w.length = n) {r : Nat} (hr : r ∈ amw w n) (hc : Cl T (amw w n) r) (hsm : ∀ s ∈ amw w n, s < r -> ¬ Cl T (amw w n) s) : Uw [TD T, IL w] = some (AD (rch T (amw w n) r)) := by
 have hn8 := h.n8
 have hrn := h.lt r hr
 have hf : (List.range n).find? (fun s => decide (s ∈ amw w n /\ Cl T (amw w n) s)) = some r := by
  rw [List.find?_eq_some_iff_append]
  refine ⟨decide_eq_true ⟨hr, hc⟩, List.range r, List.range' (r + 1) (n - r - 1), ?_, fun s hs => ?_⟩
  · rw [List.range_eq_range', List.range_eq_range', <- List.range'_succ]
    have e := @List.range'_append_1 0 r (n - r - 1 + 1)
    rw [Nat.zero_add, show r + (n - r - 1 + 1) = n by omega] at e
    exact e.symm
  · have hs := List.mem_range.mp hs
    rw [Bool.not_eq_true', decide_eq_false_iff_not]
    exact fun ⟨z1, z2⟩ => hsm s z1 hs z2
 have h1 := JL (γ := Zf 2) (φ := dB) nD (fun s => decide (s ∈ amw w n /\ Cl T (amw w n) s)) (fun s => AD (rch T (amw w n) s)) (fun δ => ∃ v2 v3, δ = DE T w v2 v3) (List.range n) r (DE T w none none) hf ⟨none, none, rfl⟩ (by
  rintro s hs δ ⟨v2, v3, rfl⟩
  have hsn := List.mem_range.mp hs
  have e0 : xB (eOp (ZU fun i j => decide (j < i)) (eOp ixD (Za 1) (Za 2)) (eC (.int 0))) (DE T w (some (nD s)) v3) = some (decide (0 < w.getD s 0)) := ZX ((Zm (x := .int (w.getD s 0)) (y := .int 0) ((Zm (x := IL w) (y := nD s) rfl rfl).trans (UH hw hsn)) rfl).trans rfl)
  have hd : Zb (Za 0) (Zb (Za 1) (Zb (Za 2) eNil)) (DE T w (some (nD s)) v3) = some [TD T, IL w, nD s] := Zl rfl (Zl rfl (Zl rfl nil_of))
  refine ⟨DE T w (some (nD s)) v3, rfl, fun hz => ?_, fun hz => ?_⟩
  · by_cases hsa : s ∈ amw w n
    · have hnc : ¬ Cl T (amw w n) s := fun z => of_decide_eq_false hz ⟨hsa, z⟩
      rw [decide_eq_true (amw_mem.mp hsa).2] at e0
      have t1 : Zi 3 (Zq 3 Vh [] (Zb (Za 0) (Zb (Za 1) (Zb (Za 2) eNil)))) (DE T w (some (nD s)) v3) = some (.nx (DE T w (some (nD s)) (some .non))) := ZI ((Yf hd rfl).trans ((ZdQ h hw hsa).2 hnc))
      exact ⟨DE T w (some (nD s)) (some .non), (VO e0).trans ((Zu t1).trans rfl), _, _, rfl⟩
    · rw [decide_eq_false fun z => hsa (amw_mem.mpr ⟨hsn, z⟩)] at e0
      exact ⟨_, (XN e0).trans rfl, _, _, rfl⟩
  · obtain ⟨hsa, hcs⟩ := of_decide_eq_true hz
    rw [decide_eq_true (amw_mem.mp hsa).2] at e0
    have t1 : Zi 3 (Zq 3 Vh [] (Zb (Za 0) (Zb (Za 1) (Zb (Za 2) eNil)))) (DE T w (some (nD s)) v3) = some (.nx (DE T w (some (nD s)) (some (AD (rch T (amw w n) s))))) := ZI ((Yf hd rfl).trans ((ZdQ h hw hsa).1 hcs))
    exact (VO e0).trans ((Zu t1).trans rfl))
 refine Xa (δ := [some (TD T), some (IL w), none, none]) rfl ?_
 rw [Zf9, ZdI (Y9 (Zfp hw hn8 rfl) h1)]
end
end K32
namespace K32
open DL L2
def tm (T : List (List Int)) (w : List Int) (k j : Nat) : Int := (T.getD k []).getD j 0 * w.getD j 0
def wh (T : List (List Int)) (w : List Int) (k m : Nat) : Int := ((List.range m).map (tm T w k)).sum
theorem Zch (T : List (List Int)) (w : List Int) (k m : Nat) : wh T w k (m + 1) = wh T w k m + tm T w k m := by
 unfold wh
 rw [List.range_succ, List.map_append, List.sum_append]
 simp
def mn (a b : Int) : Int := if b < a then b else a
def sh1 (T : List (List Int)) (N : Int) (w : List Int) (n k : Nat) : Int := mn (w.getD k 0) (wh T w k n / N)
def shr (T : List (List Int)) (N : Int) (w : List Int) (n m : Nat) : List Int := (List.range m).map (sh1 T N w n)
structure Wt (n : Nat) (w : List Int) : Prop where
 ln : w.length = n
 lo : ∀ k, 0 <= w.getD k 0
 hi : ∀ k, w.getD k 0 <= 100
section
variable {n : Nat} {T : List (List Int)} {w : List Int} {N : Int} {am : List Nat}
noncomputable def hE : DL.Env -> Option D := (eOp addX (Za 5) (eOp mulX (eOp ixD (eOp ixD (Za 0) (Za 4)) (Za 6)) (eOp ixD (Za 2) (Za 6))))
noncomputable def tI : DL.Env -> Option (List D) := (ZV (Zb (eCB lenD (Zb (Za 0) eNil)) eNil))
noncomputable def hM : DL.Env -> Option D := (eCB minLD (Zb (ZL (Zb (eOp ixD (Za 2) (Za 4)) (Zb (eOp fdivD (Za 5) (Za 1)) eNil))) eNil))
noncomputable def hB : DL.Env -> Option Out := (Zd (Zi 5 (eC (.int 0))) (Zd (ZE tI (Zf 6) (Zi 5 hE)) (Ya 3 hM)))
theorem ZcS : f_QE = Zd (Zi 3 (ZL eNil)) (Zd (ZE tI (Zf 4) hB) (Zs (Za 3))) := rfl
abbrev HE (T : List (List Int)) (N : Int) (w : List Int) (v3 v4 v5 v6 : Option D) : DL.Env := [some (TD T), some (.int N), some (IL w), v3, v4, v5, v6]
theorem Zfr (h : Ok n T am) {v3 v4 v5 v6 : Option D} : tI (HE T N w v3 v4 v5 v6) = some (ZM 0 1 n) := by
 have hn8 := h.n8
 refine (Ur (j := (n : Int)) (Zl ((YC (Zl (x := TD T) rfl nil_of)).trans (len_lst.trans ?_)) nil_of) (by omega) (by omega)).trans (by rw [Int.toNat_natCast])
 rw [List.length_map, h.ln]
theorem Zgb (a b : Int) : minLD [.lst [.int a, .int b]] = some (.int (mn a b)) := by
 unfold mn
 by_cases h : b < a
 · rw [if_pos h]
   show some (D.int (YN [a, b])) = _
   have : YN [a, b] = b := by unfold YN; simp; omega
   rw [this]
 · rw [if_neg h]
   show some (D.int (YN [a, b])) = _
   have : YN [a, b] = a := by unfold YN; simp; omega
   rw [this]
theorem ZhN (h : Ok n T am) (W : Wt n w) {k : Nat} (hk : k < n) (v3 v6 : Option D) : ∃ w6, ZE tI (Zf 6) (Zi 5 hE) (HE T N w v3 (some (nD k)) (some (.int 0)) v6) = some (.nx (HE T N w v3 (some (nD k)) (some (.int (wh T w k n))) w6)) := by
 obtain ⟨δ', h1, w6, e⟩ := Uq (γ := Zf 6) (φ := Zi 5 hE) (fun j δ => ∃ w6, δ = HE T N w v3 (some (nD k)) (some (.int (wh T w k j))) w6) (ZM 0 1 n) 0 (HE T N w v3 (some (nD k)) (some (.int 0)) v6) ⟨v6, rfl⟩ (by
  rintro j d δ hd ⟨w6, rfl⟩
  obtain ⟨hj, rfl⟩ := Qc hd
  rw [Nat.zero_add]
  have hlo := W.lo j
  have hhi := W.hi j
  have e1 : eOp ixD (eOp ixD (Za 0) (Za 4)) (Za 6) (HE T N w v3 (some (nD k)) (some (.int (wh T w k j))) (some (nD j))) = some (.int ((T.getD k []).getD j 0)) := (Zm (x := IL (T.getD k [])) (y := nD j) ((Zm (x := TD T) (y := nD k) rfl rfl).trans (UB h hk)) rfl).trans (UC h hk hj)
  have e2 : eOp ixD (Za 2) (Za 6) (HE T N w v3 (some (nD k)) (some (.int (wh T w k j))) (some (nD j))) = some (.int (w.getD j 0)) := (Zm (x := IL w) (y := nD j) rfl rfl).trans (UH W.ln hj)
  refine ⟨HE T N w v3 (some (nD k)) (some (.int (wh T w k j))) (some (nD j)), rfl, _, ZI ((Zm (x := .int (wh T w k j)) (y := .int (tm T w k j)) rfl ((Zm e1 e2).trans (Qd (by omega) (by omega)))).trans (add_int _ _)), some (nD j), ?_⟩
  rw [Zch]
  rfl)
 subst e
 rw [Qb, Nat.zero_add] at h1
 exact ⟨w6, Y9 (Zfr h) h1⟩
theorem ZaK (h : Ok n T am) (W : Wt n w) (hN : 0 < N) (hN4 : N <= 4) : VQ [TD T, .int N, IL w] = some (IL (shr T N w n n)) := by
 have hn8 := h.n8
 obtain ⟨δ', h1, w4, w5, w6, e⟩ := Uq (γ := Zf 4) (φ := hB) (fun k δ => ∃ w4 w5 w6, δ = HE T N w (some (IL (shr T N w n k))) w4 w5 w6) (ZM 0 1 n) 0 (HE T N w (some (IL [])) none none none) ⟨none, none, none, rfl⟩ (by
  rintro k d δ hd ⟨w4, w5, w6, rfl⟩
  obtain ⟨hk, rfl⟩ := Qc hd
  rw [Nat.zero_add]
  obtain ⟨w6', g⟩ := ZhN (N := N) h W hk (some (IL (shr T N w n k))) w6
  have t1 : Zi 5 (eC (.int 0)) (HE T N w (some (IL (shr T N w n k))) (some (nD k)) w5 w6) = some (.nx (HE T N w (some (IL (shr T N w n k))) (some (nD k)) (some (.int 0)) w6)) := ZI rfl
  have e1 : eOp ixD (Za 2) (Za 4) (HE T N w (some (IL (shr T N w n k))) (some (nD k)) (some (.int (wh T w k n))) w6') = some (.int (w.getD k 0)) := (Zm (x := IL w) (y := nD k) rfl rfl).trans (UH W.ln hk)
  have e2 : eOp fdivD (Za 5) (Za 1) (HE T N w (some (IL (shr T N w n k))) (some (nD k)) (some (.int (wh T w k n))) w6') = some (.int (wh T w k n / N)) := (Zm (x := .int (wh T w k n)) (y := .int N) rfl rfl).trans (ZaF (ZbH hN (by omega)))
  have e3 : hM (HE T N w (some (IL (shr T N w n k))) (some (nD k)) (some (.int (wh T w k n))) w6') = some (.int (sh1 T N w n k)) := (YC (Zl (Jv (Zl e1 (Zl e2 nil_of)) (by show 2 <= 1000; decide)) nil_of)).trans (Zgb _ _)
  refine ⟨HE T N w (some (IL (shr T N w n k))) (some (nD k)) w5 w6, rfl, _, (Zu t1).trans ((Zu g).trans (Us (xs := (shr T N w n k).map D.int) rfl e3 (by unfold shr; rw [List.length_map, List.length_map, List.length_range]; omega))), some (nD k), some (.int (wh T w k n)), w6', ?_⟩
  have em : (shr T N w n k).map D.int ++ [.int (sh1 T N w n k)] = (shr T N w n (k + 1)).map D.int := by
   unfold shr
   rw [List.range_succ, List.map_append, List.map_append]
   rfl
  rw [em]
  rfl)
 subst e
 rw [Qb, Nat.zero_add] at h1
 refine Xa (δ := HE T N w none none none none) rfl ?_
 rw [ZcS, Zu (δ' := HE T N w (some (IL [])) none none none) (ZI rfl), Zu (Y9 (Zfr h) h1)]
 exact YO rfl
theorem Qo {k : Nat} (hk : k < n) : (shr T N w n n).getD k 0 = sh1 T N w n k := by
 unfold shr
 rw [List.getD_eq_getElem?_getD, List.getElem?_map, List.getElem?_range hk]
 rfl
theorem Qp : (shr T N w n n).length = n := by unfold shr; rw [List.length_map, List.length_range]
theorem JO {l : List Int} {k : Nat} (h : l.length <= k) : l.getD k 0 = 0 := by rw [List.getD_eq_getElem?_getD, List.getElem?_eq_none h]; rfl
theorem Zfs (h : Ok n T am) (W : Wt n w) {k j : Nat} (hk : k < n) (hj : j < n) : 0 <= tm T w k j := Int.mul_nonneg (UD h hk hj) (W.lo j)
theorem Zft (h : Ok n T am) (W : Wt n w) {k : Nat} (hk : k < n) : 0 <= wh T w k n := (Qk _ fun x hx => by
 obtain ⟨j, hj, rfl⟩ := List.mem_map.mp hx
 exact Zfs h W hk (List.mem_range.mp hj)).1
theorem ZdR (h : Ok n T am) (W : Wt n w) (hN : 0 < N) : Wt n (shr T N w n n) /\ ∀ k, (shr T N w n n).getD k 0 <= w.getD k 0 := by
 have key : ∀ k, 0 <= (shr T N w n n).getD k 0 /\ (shr T N w n n).getD k 0 <= w.getD k 0 := fun k => by
  by_cases hk : k < n
  · rw [Qo hk]
    have h1 := W.lo k
    have h2 : 0 <= wh T w k n / N := Int.ediv_nonneg (Zft h W hk) (by omega)
    unfold sh1 mn
    split <;> omega
  · rw [JO (by rw [Qp]; omega)]
    exact ⟨Int.le_refl _, W.lo k⟩
 exact ⟨⟨Qp, fun k => (key k).1, fun k => Int.le_trans (key k).2 (W.hi k)⟩, fun k => (key k).2⟩
theorem ZdS : ∀ (l : List Nat) (f g : Nat -> Int), (∀ k ∈ l, f k <= g k) -> (l.map f).sum <= (l.map g).sum /\ ((l.map f).sum = (l.map g).sum -> ∀ k ∈ l, f k = g k)
 | [], f, g, _ => ⟨Int.le_refl _, fun _ k hk => nomatch hk⟩
 | a :: l, f, g, h => by
  obtain ⟨h1, h2⟩ := ZdS l f g fun k hk => h k (List.mem_cons_of_mem _ hk)
  have ha := h a List.mem_cons_self
  rw [List.map_cons, List.map_cons, List.sum_cons, List.sum_cons]
  refine ⟨by omega, fun e k hk => ?_⟩
  rcases List.mem_cons.mp hk with rfl | hk
  · omega
  · exact h2 (by omega) k hk
def tot (n : Nat) (w : List Int) : Int := ((List.range n).map fun k => w.getD k 0).sum
theorem Zbt {a b : List Int} (ha : a.length = n) (hb : b.length = n) (h : ∀ k, k < n -> a.getD k 0 = b.getD k 0) : a = b := by
 apply List.ext_getElem (by rw [ha, hb])
 intro k h1 h2
 have := h k (by omega)
 rw [List.getD_eq_getElem?_getD, List.getD_eq_getElem?_getD, List.getElem?_eq_getElem h1, List.getElem?_eq_getElem h2] at this
 exact this
theorem Zgc (h : Ok n T am) (W : Wt n w) (hN : 0 < N) (hne : shr T N w n n ≠ w) : 0 <= tot n (shr T N w n n) /\ tot n (shr T N w n n) < tot n w := by
 obtain ⟨W', hle⟩ := ZdR h W hN
 obtain ⟨h1, h2⟩ := ZdS (List.range n) (fun k => (shr T N w n n).getD k 0) (fun k => w.getD k 0) fun k _ => hle k
 have h0 : 0 <= tot n (shr T N w n n) := (Qk _ fun x hx => by
  obtain ⟨j, _, rfl⟩ := List.mem_map.mp hx
  exact W'.lo j).1
 refine ⟨h0, ?_⟩
 have hneq : ¬ tot n (shr T N w n n) = tot n w := fun e => hne (Zbt Qp W.ln fun k hk => h2 e k (List.mem_range.mpr hk))
 have : tot n (shr T N w n n) <= tot n w := h1
 omega
noncomputable def bS : DL.Env -> Option Out := (Zi 3 (Zq 3 VQ [] (Zb (Za 0) (Zb (Za 1) (Zb (Za 2) eNil)))))
noncomputable def bT : DL.Env -> Option Bool := (xB (eOp neD (Za 3) (Za 2)))
theorem Zdk : f_QI = Zd bS (Zd (YI bT (Zd (Zi 2 (Za 3)) bS)) (Zs (Za 2))) := rfl
abbrev BN (T : List (List Int)) (N : Int) (w : List Int) (v3 : Option D) : DL.Env := [some (TD T), some (.int N), some (IL w), v3]
theorem Zfu (h : Ok n T am) (W : Wt n w) (hN : 0 < N) (hN4 : N <= 4) (v3 : Option D) : bS (BN T N w v3) = some (.nx (BN T N w (some (IL (shr T N w n n))))) := by
 have hd : Zb (Za 0) (Zb (Za 1) (Zb (Za 2) eNil)) (BN T N w v3) = some [TD T, .int N, IL w] := Zl rfl (Zl rfl (Zl rfl nil_of))
 exact ZI ((Yf hd rfl).trans (ZaK h W hN hN4))
def Zhu (n : Nat) : DL.Env -> Nat
 | [_, _, some (.lst xs), _] => match Yr xs with
  | some w => (tot n w).toNat
  | none => 0
 | _ => 0
theorem Zci (w : List Int) (v3 : Option D) : Zhu n (BN T N w v3) = (tot n w).toNat := by
 show (match Yr (w.map D.int) with
  | some w => (tot n w).toNat
  | none => 0) = _
 rw [DL.intsD_map]
theorem Zdl (h : Ok n T am) (W : Wt n w) (hN : 0 < N) (hN4 : N <= 4) {s : Nat} (hs : s < n) (hss : N <= (T.getD s []).getD s 0) (hw1 : 1 <= w.getD s 0) : ∃ w', Wt n w' /\ 1 <= w'.getD s 0 /\ shr T N w' n n = w' /\ Uu [TD T, .int N, IL w] = some (IL w') := by
 have keep : ∀ {w : List Int}, Wt n w -> 1 <= w.getD s 0 -> 1 <= (shr T N w n n).getD s 0 := fun {w} W hw1 => by
  rw [Qo hs]
  have hnn := fun j (hj : j < n) => Zfs h W hs hj
  have hge : tm T w s s <= wh T w s n := by
   have key : ∀ m, m <= n -> 0 <= wh T w s m /\ (s < m -> tm T w s s <= wh T w s m) := fun m => by
    induction m with
    | zero => exact fun _ => ⟨Int.le_refl _, fun z => absurd z (Nat.not_lt_zero _)⟩
    | succ m ih =>
     intro hm
     obtain ⟨i1, i2⟩ := ih (by omega)
     have := hnn m (by omega)
     rw [Zch]
     refine ⟨by omega, fun z => ?_⟩
     by_cases q : s = m
     · rw [<- q]
       rw [<- q] at i1
       omega
     · have := i2 (by omega)
       omega
   exact (key n (Nat.le_refl _)).2 hs
  have hmul : N * w.getD s 0 <= tm T w s s := Int.mul_le_mul_of_nonneg_right hss (W.lo s)
  have hdiv : w.getD s 0 <= wh T w s n / N := by
   rw [Int.le_ediv_iff_mul_le hN, Int.mul_comm]
   omega
  unfold sh1 mn
  split <;> omega
 obtain ⟨δ', h1, w', e, W', hw', hfix⟩ := Jw (τ := bT) (φ := Zd (Zi 2 (Za 3)) bS) (fun δ => ∃ w, δ = BN T N w (some (IL (shr T N w n n))) /\ Wt n w /\ 1 <= w.getD s 0) (fun δ => ∃ w, δ = BN T N w (some (IL (shr T N w n n))) /\ Wt n w /\ 1 <= w.getD s 0 /\ shr T N w n n = w) (Zhu n) (by
  rintro δ ⟨w, rfl, W, hw1⟩
  have ht : bT (BN T N w (some (IL (shr T N w n n)))) = some (!decide (shr T N w n n = w)) := ZX ((Zm (x := IL (shr T N w n n)) (y := IL w) rfl rfl).trans (Zdi _ _))
  by_cases he : shr T N w n n = w
  · rw [decide_eq_true he] at ht
    exact .inl ⟨ht, w, rfl, W, hw1, he⟩
  · rw [decide_eq_false he] at ht
    obtain ⟨W', _⟩ := ZdR h W hN
    obtain ⟨q1, q2⟩ := Zgc h W hN he
    have t1 : Zi 2 (Za 3) (BN T N w (some (IL (shr T N w n n)))) = some (.nx (BN T N (shr T N w n n) (some (IL (shr T N w n n))))) := ZI rfl
    refine .inr ⟨ht, _, (Zu t1).trans (Zfu h W' hN hN4 _), ⟨_, rfl, W', keep W hw1⟩, ?_⟩
    rw [Zci, Zci]
    omega) (BN T N w (some (IL (shr T N w n n)))) ⟨w, rfl, W, hw1⟩
 subst e
 refine ⟨w', W', hw', hfix, Xa (δ := BN T N w none) rfl ?_⟩
 rw [Zdk, Zu (Zfu h W hN hN4 none), Zu h1]
 exact YO rfl
def aln (w : List Int) (q : List Nat) (n : Nat) : List Int := (List.range n).map fun k => w.getD k 0 * (if decide (k ∈ q) = true then 1 else 0)
theorem JP {q : List Nat} {k : Nat} (hk : k < n) : (aln w q n).getD k 0 = if k ∈ q then w.getD k 0 else 0 := by
 unfold aln
 rw [List.getD_eq_getElem?_getD, List.getElem?_map, List.getElem?_range hk]
 show w.getD k 0 * (if decide (k ∈ q) = true then 1 else 0) = _
 by_cases h : k ∈ q
 · rw [decide_eq_true h, if_pos rfl, if_pos h, Int.mul_one]
 · rw [decide_eq_false h, if_neg Bool.false_ne_true, if_neg h, Int.mul_zero]
theorem JQ {q : List Nat} : (aln w q n).length = n := by unfold aln; rw [List.length_map, List.length_range]
theorem ZdT {q : List Nat} (W : Wt n w) : Wt n (aln w q n) := by
 have key : ∀ k, 0 <= (aln w q n).getD k 0 /\ (aln w q n).getD k 0 <= 100 := fun k => by
  have h1 := W.lo k
  have h2 := W.hi k
  by_cases hk : k < n
  · rw [JP hk]
    split
    · exact ⟨h1, h2⟩
    · exact ⟨Int.le_refl _, by decide⟩
  · rw [JO (by rw [JQ]; omega)]
    exact ⟨Int.le_refl _, by decide⟩
 exact ⟨JQ, fun k => (key k).1, fun k => (key k).2⟩
theorem Zdm (h : Ok n T (amw w n)) (W : Wt n w) (hN : 0 < N) (hfix : shr T N w n n = w) {r : Nat} (hr : r ∈ amw w n) (hc : Cl T (amw w n) r) : shr T N (aln w (rch T (amw w n) r) n) n n = aln w (rch T (amw w n) r) n := by
 refine Zbt Qp JQ fun k hk => ?_
 rw [Qo hk]
 unfold sh1
 rw [JP hk]
 by_cases hq : k ∈ rch T (amw w n) r
 · rw [if_pos hq]
   obtain ⟨hka, hkr⟩ := rch_mem.mp hq
   have hwh : wh T (aln w (rch T (amw w n) r) n) k n = wh T w k n := by
    unfold wh
    refine congrArg List.sum (List.map_congr_left fun j hj => ?_)
    have hjn := List.mem_range.mp hj
    unfold tm
    rw [JP hjn]
    by_cases hjq : j ∈ rch T (amw w n) r
    · rw [if_pos hjq]
    · rw [if_neg hjq, Int.mul_zero]
      by_cases hja : j ∈ amw w n
      · have hed : ed T k j = false := by
         cases e : ed T k j with
         | false => rfl
         | true => exact absurd (rch_mem.mpr ⟨hja, .step hkr hja e⟩) hjq
        have h1 := UD h hk hjn
        unfold ed at hed
        have h2 := of_decide_eq_false hed
        rw [show (T.getD k []).getD j 0 = 0 by omega, Int.zero_mul]
      · have h1 := W.lo j
        have h2 : ¬ 0 < w.getD j 0 := fun z => hja (amw_mem.mpr ⟨hjn, z⟩)
        rw [show w.getD j 0 = 0 by omega, Int.mul_zero]
   rw [hwh]
   have := Qo (T := T) (N := N) (w := w) hk
   rw [hfix] at this
   unfold sh1 at this
   exact this.symm
 · rw [if_neg hq]
   have h1 : 0 <= wh T (aln w (rch T (amw w n) r) n) k n / N := Int.ediv_nonneg (Zft h (ZdT W) hk) (by omega)
   unfold mn
   split <;> omega
end
end K32
namespace K32
open DL L2
structure Sh (k : Nat) (d : D) : Prop where
 can : PySem.PyData.canLay0 (toP d) = true
 dep : PySem.PyData.depth (toP d) <= k
theorem JR {k : Nat} : ∀ {xs : List D}, (∀ x ∈ xs, Sh k x) -> PySem.PyData.canLayAll0 (Z4 xs) = true /\ PySem.PyData.depthAll (Z4 xs) <= k
 | [], _ => ⟨rfl, Nat.zero_le _⟩
 | x :: xs, h => by
  obtain ⟨h1, h2⟩ := JR (xs := xs) fun y hy => h y (List.mem_cons_of_mem _ hy)
  have hx := h x List.mem_cons_self
  rw [Z4, PySem.PyData.canLayAll0, PySem.PyData.depthAll, hx.can, h1]
  exact ⟨rfl, Nat.max_le.mpr ⟨hx.dep, h2⟩⟩
theorem Zgd {k : Nat} {xs : List D} (h : ∀ x ∈ xs, Sh k x) : Sh (k + 1) (.tup xs) := by
 obtain ⟨h1, h2⟩ := JR h
 exact ⟨by rw [toP, PySem.PyData.canLay0]; exact h1, by rw [toP, PySem.PyData.depth]; omega⟩
theorem JS {k : Nat} {xs : List D} (h : ∀ x ∈ xs, Sh k x) : Sh (k + 1) (.lst xs) := by
 obtain ⟨h1, h2⟩ := JR h
 exact ⟨by rw [toP, PySem.PyData.canLay0]; exact h1, by rw [toP, PySem.PyData.depth]; omega⟩
theorem ZdU (k : Nat) (i : Int) : Sh k (.int i) := ⟨rfl, Nat.zero_le _⟩
theorem Zg4 {k : Nat} {d : D} (h : Sh k d) (hk : k <= 64) : PySem.SeqAt.shaped (toP d) = true := by
 unfold PySem.SeqAt.shaped
 rw [h.can, decide_eq_true (Nat.le_trans h.dep hk)]
 rfl
theorem ZeQ {k l : Nat} {d : D} (h : Sh k d) (hk : k <= l) : Sh l d := ⟨h.can, Nat.le_trans h.dep hk⟩
theorem JT {α : Type} {k : Nat} {f : α -> D} {l : List α} (h : ∀ x, Sh k (f x)) : ∀ y ∈ l.map f, Sh k y := fun y hy => by
 obtain ⟨x, _, rfl⟩ := List.mem_map.mp hy
 exact h x
theorem Zg5 (w : List Int) : Sh 1 (IL w) := JS (JT fun a => ZdU 0 _)
theorem Zg6 (T : List (List Int)) : Sh 2 (TD T) := JS (JT fun r => JS (JT fun a => ZdU 0 _))
theorem ZaL (T : List (List Int)) (w : List Int) : PySem.SeqAt.shaped (toP (.tup [TD T, IL w])) = true := Zg4 (k := 3) (Zgd fun x hx => by
 rcases List.mem_cons.mp hx with rfl | hx
 · exact Zg6 T
 · rw [List.mem_singleton.mp hx]; exact ZeQ (Zg5 w) (by decide)) (by decide)
noncomputable def cE (e : DL.Env -> Option D) : DL.Env -> Option D := (Zq 2 YV [] (Zb (Za 0) (Zb e eNil)))
theorem Qq {ns : List Int} {e : DL.Env -> Option D} {δ : DL.Env} (k : Nat) (h0 : Za 0 δ = some (.lst (ns.map D.int))) (he : e δ = some (.int (k : Int))) : cE e δ = some (.int (ns.getD k 0)) := by
 have hd : Zb (Za 0) (Zb e eNil) δ = some [.lst (ns.map D.int), .int (k : Int)] := Zl h0 (Zl he nil_of)
 exact (Yf hd rfl).trans (Zcf ns k)
def ent (c : Int) : Int := (if decide (c % 4 = 1) = true then 1 else 0) * (1 + c / 4 % 5)
theorem ZeR (c : Int) : 0 <= ent c := by
 unfold ent
 by_cases h : c % 4 = 1
 · rw [decide_eq_true h, if_pos rfl]; omega
 · rw [decide_eq_false h, if_neg Bool.false_ne_true]; omega
noncomputable def bA : DL.Env -> Option Out := (Zi 6 (cE (eOp addX (eOp addX (eC (.int 10)) (eOp mulX (Za 3) (Za 1))) (Za 5))))
noncomputable def bE : DL.Env -> Option D := (eOp mulX (eCB intD (Zb (eOp eqD (eOp modD (Za 6) (eC (.int 4))) (eC (.int 1))) eNil)) (eOp addX (eC (.int 1)) (eOp modD (eOp fdivD (Za 6) (eC (.int 4))) (eC (.int 5)))))
noncomputable def bF : DL.Env -> Option Out := (ZE (ZV (Zb (Za 1) eNil)) (Zf 5) (Zd bA (Ya 4 bE)))
noncomputable def bR : DL.Env -> Option Out := (Zd (Z8 2 (Zi 4 (ZL eNil))) (Zd (Z8 2 bF) (Y7 2 4)))
theorem Zdn : f_QK = ZK (YK 2 (ZL eNil)) (ZK (ZE (ZV (Zb (Za 1) eNil)) (Zf 3) bR) (Zs (Za 2))) := rfl
abbrev BE (ns : List Int) (n : Nat) (v2 v3 v4 v5 v6 : Option D) : DL.Env := [some (.lst (ns.map D.int)), some (nD n), v2, v3, v4, v5, v6]
theorem Zg7 {δ : DL.Env} {c : Int} (h : Za 6 δ = some (.int c)) : bE δ = some (.int (ent c)) := by
 have e1 : eCB intD (Zb (eOp eqD (eOp modD (Za 6) (eC (.int 4))) (eC (.int 1))) eNil) δ = some (.int (if decide (c % 4 = 1) = true then 1 else 0)) := (YC (Zl ((Zm (x := .int (c % 4)) (y := .int 1) ((Zm (x := .int c) (y := .int 4) h rfl).trans (VN (by decide))) rfl).trans (Up _ _)) nil_of)).trans rfl
 have e2 : eOp addX (eC (.int 1)) (eOp modD (eOp fdivD (Za 6) (eC (.int 4))) (eC (.int 5))) δ = some (.int (1 + c / 4 % 5)) := (Zm (x := .int 1) (y := .int (c / 4 % 5)) rfl ((Zm (x := .int (c / 4)) (y := .int 5) ((Zm (x := .int c) (y := .int 4) h rfl).trans (ZaF ⟨by decide, by decide⟩)) rfl).trans (VN (by decide)))).trans (add_int _ _)
 exact (Zm e1 e2).trans (Qd (by omega) (by omega))
def Yk (ns : List Int) (n k : Nat) (m : Nat) : List Int := (List.range m).map fun j => ent (ns.getD (10 + k * n + j) 0)
def tbl (ns : List Int) (n : Nat) (m : Nat) : List (List Int) := (List.range m).map fun k => Yk ns n k n
theorem ZdV {ns : List Int} {n : Nat} (hn : n <= 8) {v2 v3 v4 v5 v6 : Option D} : ZV (Zb (Za 1) eNil) (BE ns n v2 v3 v4 v5 v6) = some (ZM 0 1 n) := (Ur (j := (n : Int)) (Zl rfl nil_of) (by omega) (by omega)).trans (by rw [Int.toNat_natCast])
theorem Zg8 (ns : List Int) {n k : Nat} (hn : n <= 8) (hk : k < n) (v2 v5 v6 : Option D) : ∃ w5 w6, bF (BE ns n v2 (some (nD k)) (some (IL [])) v5 v6) = some (.nx (BE ns n v2 (some (nD k)) (some (IL (Yk ns n k n))) w5 w6)) := by
 obtain ⟨δ', h1, w5, w6, e⟩ := Uq (γ := Zf 5) (φ := Zd bA (Ya 4 bE)) (fun j δ => ∃ w5 w6, δ = BE ns n v2 (some (nD k)) (some (IL (Yk ns n k j))) w5 w6) (ZM 0 1 n) 0 (BE ns n v2 (some (nD k)) (some (IL [])) v5 v6) ⟨v5, v6, rfl⟩ (by
  rintro j d δ hd ⟨w5, w6, rfl⟩
  obtain ⟨hj, rfl⟩ := Qc hd
  rw [Nat.zero_add]
  have e0 : eOp addX (eOp addX (eC (.int 10)) (eOp mulX (Za 3) (Za 1))) (Za 5) (BE ns n v2 (some (nD k)) (some (IL (Yk ns n k j))) (some (nD j)) w6) = some (.int ((10 + k * n + j : Nat) : Int)) := by
   refine (Zm (x := .int (10 + (k : Int) * (n : Int))) (y := nD j) ((Zm (x := .int 10) (y := .int ((k : Int) * (n : Int))) rfl ((Zm (x := nD k) (y := nD n) rfl rfl).trans (Qd (by omega) (by omega)))).trans (add_int _ _)) rfl).trans ((add_int _ _).trans ?_)
   refine congrArg (fun z => some (D.int z)) ?_
   rw [<- Int.natCast_mul]
   omega
  have t1 : bA (BE ns n v2 (some (nD k)) (some (IL (Yk ns n k j))) (some (nD j)) w6) = some (.nx (BE ns n v2 (some (nD k)) (some (IL (Yk ns n k j))) (some (nD j)) (some (.int (ns.getD (10 + k * n + j) 0))))) := ZI (Qq _ rfl e0)
  refine ⟨BE ns n v2 (some (nD k)) (some (IL (Yk ns n k j))) (some (nD j)) w6, rfl, _, (Zu t1).trans (Us (xs := (Yk ns n k j).map D.int) rfl (Zg7 rfl) (by unfold Yk; rw [List.length_map, List.length_map, List.length_range]; omega)), some (nD j), some (.int (ns.getD (10 + k * n + j) 0)), ?_⟩
  have em : (Yk ns n k j).map D.int ++ [.int (ent (ns.getD (10 + k * n + j) 0))] = (Yk ns n k (j + 1)).map D.int := by
   unfold Yk
   rw [List.range_succ, List.map_append, List.map_append]
   rfl
  rw [em]
  rfl)
 subst e
 rw [Qb, Nat.zero_add] at h1
 exact ⟨w5, w6, Y9 (ZdV hn) h1⟩
theorem ZeS {i k : Nat} {δ : DL.Env} {xs r : List D} (h1 : Za i δ = some (.lst xs)) (h2 : Za k δ = some (.lst r)) (hl : xs.length <= 1000) (hs : r.all Zh = true) : Y7 i k δ = some (.nx ((δ.set k none).set i (some (.lst (xs ++ [.lst r]))))) := by
 unfold Y7
 rw [h1, h2]
 exact if_pos ⟨by rw [PySem.sizeLine_eq]; omega, hs⟩
theorem Zhv (r : List Int) : (r.map D.int).all Zh = true := by
 rw [List.all_map]
 exact List.all_eq_true.mpr fun x _ => rfl
theorem Zdo (ns : List Int) {n : Nat} (hn : n <= 8) : Uv [.lst (ns.map D.int), nD n] = some (TD (tbl ns n n)) := by
 obtain ⟨δ', h1, w3, w4, w5, w6, e⟩ := Uq (γ := Zf 3) (φ := bR) (fun k δ => ∃ w3 w4 w5 w6, δ = BE ns n (some (TD (tbl ns n k))) w3 w4 w5 w6) (ZM 0 1 n) 0 (BE ns n (some (TD [])) none none none none) ⟨none, none, none, none, rfl⟩ (by
  rintro k d δ hd ⟨w3, w4, w5, w6, rfl⟩
  obtain ⟨hk, rfl⟩ := Qc hd
  rw [Nat.zero_add]
  obtain ⟨w5', w6', g⟩ := Zg8 ns hn hk none w5 w6
  have t1 : Z8 2 (Zi 4 (ZL eNil)) (BE ns n (some (TD (tbl ns n k))) (some (nD k)) w4 w5 w6) = some (.nx (BE ns n (some (TD (tbl ns n k))) (some (nD k)) (some (IL [])) w5 w6)) := UF (δ' := BE ns n none (some (nD k)) (some (IL [])) w5 w6) rfl (ZI rfl) rfl rfl
  have t2 : Z8 2 bF (BE ns n (some (TD (tbl ns n k))) (some (nD k)) (some (IL [])) w5 w6) = some (.nx (BE ns n (some (TD (tbl ns n k))) (some (nD k)) (some (IL (Yk ns n k n))) w5' w6')) := UF rfl g rfl rfl
  refine ⟨BE ns n (some (TD (tbl ns n k))) (some (nD k)) w4 w5 w6, rfl, _, (Zu t1).trans ((Zu t2).trans (ZeS (xs := (tbl ns n k).map IL) (r := (Yk ns n k n).map D.int) rfl rfl (by unfold tbl; rw [List.length_map, List.length_map, List.length_range]; omega) (Zhv _))), some (nD k), none, w5', w6', ?_⟩
  have em : (tbl ns n k).map IL ++ [IL (Yk ns n k n)] = (tbl ns n (k + 1)).map IL := by
   unfold tbl
   rw [List.range_succ, List.map_append, List.map_append]
   rfl
  rw [em]
  rfl)
 subst e
 rw [Qb, Nat.zero_add] at h1
 refine JH (δ := BE ns n none none none none none) rfl ?_
 rw [Zdn, X2 (δ' := BE ns n (some (TD [])) none none none none) (JG rfl (by show 2 < 7; decide)), X2 (Y9 (ZdV hn) h1)]
 exact YO rfl
structure Tb (n : Nat) (T : List (List Int)) : Prop where
 ln : T.length = n
 rw : ∀ r ∈ T, r.length = n
 nn : ∀ r ∈ T, ∀ x ∈ r, 0 <= x
theorem Zge (ns : List Int) (n : Nat) : Tb n (tbl ns n n) := by
 refine ⟨by unfold tbl; rw [List.length_map, List.length_range], fun r hr => ?_, fun r hr x hx => ?_⟩
 · obtain ⟨k, _, rfl⟩ := List.mem_map.mp hr
   unfold Yk
   rw [List.length_map, List.length_range]
 · obtain ⟨k, _, rfl⟩ := List.mem_map.mp hr
   obtain ⟨j, _, rfl⟩ := List.mem_map.mp hx
   exact ZeR _
theorem Tb.ok {n : Nat} {T : List (List Int)} (h : Tb n T) (hn : n <= 8) (w : List Int) : Ok n T (amw w n) := by
 refine ⟨hn, h.ln, h.rw, h.nn, fun a ha => (amw_mem.mp ha).1, (JN w n).imp fun z => Nat.ne_of_lt z, ?_⟩
 have : (amw w n).length <= (List.range n).length := List.length_filter_le _ _
 rw [List.length_range] at this
 omega
def srT (T : List (List Int)) (s : Nat) (x : Int) : List (List Int) := T.set s ((T.getD s []).set s x)
theorem Tb.sr {n : Nat} {T : List (List Int)} (h : Tb n T) {s : Nat} (hs : s < n) {x : Int} (hx : 0 <= x) : Tb n (srT T s x) /\ ((srT T s x).getD s []).getD s 0 = x := by
 have hl : s < T.length := by rw [h.ln]; exact hs
 have hr : T.getD s [] ∈ T := by rw [List.getD_eq_getElem?_getD, List.getElem?_eq_getElem hl]; exact List.getElem_mem hl
 refine ⟨⟨by unfold srT; rw [List.length_set]; exact h.ln, fun r hr' => ?_, fun r hr' y hy => ?_⟩, ?_⟩
 · rcases List.mem_or_eq_of_mem_set hr' with z | z
   · exact h.rw r z
   · rw [z, List.length_set]; exact h.rw _ hr
 · rcases List.mem_or_eq_of_mem_set hr' with z | z
   · exact h.nn r z y hy
   · rw [z] at hy
     rcases List.mem_or_eq_of_mem_set hy with z | z
     · exact h.nn _ hr y z
     · rw [z]; exact hx
 · unfold srT
   rw [List.getD_eq_getElem?_getD (l := T.set s _), List.getElem?_set_self hl]
   show ((T.getD s []).set s x).getD s 0 = x
   rw [List.getD_eq_getElem?_getD, List.getElem?_set_self (by rw [h.rw _ hr]; exact hs)]
   rfl
theorem ZeT {i : Nat} {κ ε : DL.Env -> Option D} {δ : DL.Env} {n : Nat} {T : List (List Int)} (h : Tb n T) {s : Nat} {x : Int} (hs : s < n) (hv : Za i δ = some (TD T)) (h1 : κ δ = some (nD s)) (h3 : ε δ = some (.int x)) : Va i κ κ ε δ = some (.nx (δ.set i (some (TD (srT T s x))))) := by
 have hl : s < T.length := by rw [h.ln]; exact hs
 have hg : T.getD s [] = T[s] := by rw [List.getD_eq_getElem?_getD, List.getElem?_eq_getElem hl]; rfl
 have hrl : T[s].length = n := h.rw _ (List.getElem_mem hl)
 have e1 : Y0 ε δ = some (.int x) := by unfold Y0; rw [h3]; rfl
 unfold Va
 rw [e1, hv, h1]
 dsimp only
 rw [List.length_map, Zcc hl]
 dsimp only
 rw [List.getElem?_map, List.getElem?_eq_getElem hl]
 show (match ixN (T[s].map D.int).length (s : Int) with
  | some l => some (Out.nx (δ.set i (some (.lst ((T.map IL).set s (.lst ((T[s].map D.int).set l (.int x))))))))
  | none => none) = _
 rw [List.length_map, Zcc (by rw [hrl]; exact hs)]
 dsimp only
 unfold srT
 rw [hg, TD, List.map_set, IL, List.map_set]
end K32
namespace K32
open DL L2
noncomputable def a1 : DL.Env -> Option Out := (Zi 1 (eOp addX (eC (.int 1)) (eOp modD (cE (eC (.int 0))) (eC (.int 7)))))
noncomputable def a2 : DL.Env -> Option Out := (Zi 2 (eOp addX (eC (.int 1)) (eOp modD (cE (eC (.int 1))) (eC (.int 4)))))
noncomputable def a3 : DL.Env -> Option Out := (YK 3 (Zq 2 Uv [] (Zb (Za 0) (Zb (Za 1) eNil))))
noncomputable def a4 : DL.Env -> Option Out := (Zi 4 (eOp modD (cE (eC (.int 2))) (Za 1)))
noncomputable def a5 : DL.Env -> Option Out := (Va 3 (Za 4) (Za 4) (eOp addX (eOp ixD (eOp ixD (Za 3) (Za 4)) (Za 4)) (Za 2)))
noncomputable def wE : DL.Env -> Option D := (eOp addX (eC (.int 1)) (eOp modD (Zq 2 YV [] (Zb (Za 1) (Zb (eOp addX (eC (.int 3)) (Za 0)) eNil))) (eC (.int 12))))
noncomputable def wC : DL.Env -> Option D := (ZG (ZV (Zb (Za 1) eNil)) (Zf 0) (fun _ => some true) wE 1 [0])
noncomputable def b1 : DL.Env -> Option Out := (Zi 5 (Zq 3 Uu [] (Zb (Za 3) (Zb (Za 2) (Zb wC eNil)))))
noncomputable def hC : DL.Env -> Option D := (ZG (ZF (Za 3)) (Zf 0) (fun _ => some true) (eCB Xn (Zb (Za 0) eNil)) 1 [])
noncomputable def b2 : DL.Env -> Option Out := (Zi 6 (YT (Zb hC (Zb (eCB Xn (Zb (Za 5) eNil)) eNil))))
noncomputable def b3 : DL.Env -> Option Out := (Zi 7 (Zq 2 Ut [] (Zb (eOp ixD (Za 6) (eC (.int 0))) (Zb (eOp ixD (Za 6) (eC (.int 1))) eNil))))
noncomputable def pE : DL.Env -> Option D := (YT (Zb (Za 3) (Zb (Za 5) eNil)))
noncomputable def b4 : DL.Env -> Option Out := (sIf (xOr (xB (eOp neD (Za 6) pE)) (xOr (Y1 (xB (Y4 Qe (Za 7)))) (xB (eOp neD (Za 7) (Zq 2 Uw [] (Zb (Za 3) (Zb (Za 5) eNil))))))) (Zs (eC (.bl false))) sNext)
noncomputable def fT : DL.Env -> Option Bool := (Y1 (xB (Zq 1 Qh [] (Zb (Za 0) eNil))))
noncomputable def fC : DL.Env -> Option D := (ZG (ZF (Za 7)) (Zf 0) fT (Za 0) 1 [])
noncomputable def b5 : DL.Env -> Option Out := (sIf (xB (eOp (ZU fun i j => decide (j < i)) (eCB lenD (Zb fC eNil)) (eC (.int 0)))) (Zs (eC (.bl false))) sNext)
noncomputable def lE : DL.Env -> Option D := (eOp mulX (eOp ixD (Za 1) (Za 0)) (eCB intD (Zb (eOp (inD false) (Za 0) (Za 2)) eNil)))
noncomputable def lC : DL.Env -> Option D := (ZG (ZV (Zb (Za 1) eNil)) (Zf 0) (fun _ => some true) lE 1 [5, 7])
noncomputable def b6 : DL.Env -> Option Out := (Zi 8 (Vb lC))
noncomputable def b8 : DL.Env -> Option Out := (Zs (Xk (eOp eqD (Za 6) pE) (Zq 3 Ux [] (Zb (Za 3) (Zb (Za 2) (Zb (Za 8) eNil))))))
theorem Zgf : f_QN = Zd a1 (Zd a2 (Zd a3 (Zd (Z8 3 a4) (Zd a5 (XM (Zd b1 (Zd b2 (Zd b3 (Zd b4 (Zd b5 (Zd b6 (Zd (Ya 7 (eC (.int 99))) b8)))))))))))) := rfl
theorem whole (i : Int) : Qh [.int i] = some (.bl true) := rfl
theorem Zcj {xs : List D} : Xn [.lst xs] = some (.lst xs) := rfl
theorem Zgg {ψ : DL.Env -> Option Out} {δ : DL.Env} {d : D} (h : ψ δ = some (.rt d)) : XM ψ δ = some (.rt d) := by
 unfold XM
 rw [h]
theorem Zdp {ε : DL.Env -> Option D} {δ : DL.Env} {xs : List D} (h : ε δ = some (.lst xs)) (hs : xs.all Zh = true) : Vb ε δ = some (.lst xs) := by
 unfold Vb
 rw [h]
 exact if_pos hs
theorem Zdq {n : Nat} {T : List (List Int)} {am : List Nat} {N : Int} {a : List Int} (h : Ok n T am) (W : Wt n a) (hN : 0 < N) (hN4 : N <= 4) (hf : shr T N a n n = a) : Ux [TD T, .int N, IL a] = some (.bl true) := by
 have hd : Zb (Za 0) (Zb (Za 1) (Zb (Za 2) eNil)) [some (TD T), some (.int N), some (IL a)] = some [TD T, .int N, IL a] := Zl rfl (Zl rfl (Zl rfl nil_of))
 refine Xa (δ := [some (TD T), some (.int N), some (IL a)]) rfl (YO ((Zm (y := IL a) ((Yf hd rfl).trans (ZaK h W hN hN4)) rfl).trans ?_))
 rw [Zbs, hf]
 simp
abbrev LA (ns : List Int) (v1 v2 v3 v4 v5 v6 v7 v8 : Option D) : DL.Env := [some (.lst (ns.map D.int)), v1, v2, v3, v4, v5, v6, v7, v8]
def w0 (ns : List Int) (n : Nat) : List Int := (List.range n).map fun k => 1 + ns.getD (3 + k) 0 % 12
theorem Zfv (ns : List Int) {n k : Nat} (hk : k < n) : (w0 ns n).getD k 0 = 1 + ns.getD (3 + k) 0 % 12 := by
 unfold w0
 rw [List.getD_eq_getElem?_getD, List.getElem?_map, List.getElem?_range hk]
 rfl
theorem Zg9 (ns : List Int) (n : Nat) : Wt n (w0 ns n) := by
 have hl : (w0 ns n).length = n := by unfold w0; rw [List.length_map, List.length_range]
 have key : ∀ k, 0 <= (w0 ns n).getD k 0 /\ (w0 ns n).getD k 0 <= 100 := fun k => by
  by_cases hk : k < n
  · rw [Zfv ns hk]; omega
  · rw [JO (by rw [hl]; omega)]; omega
 exact ⟨hl, fun k => (key k).1, fun k => (key k).2⟩
theorem Zha (ns : List Int) {n : Nat} (hn : n <= 8) (v2 v3 v4 v5 v6 v7 v8 : Option D) : wC (LA ns (some (nD n)) v2 v3 v4 v5 v6 v7 v8) = some (IL (w0 ns n)) := by
 have hc : Zx (Zf 0) (fun _ => some true) wE [none, some (.lst (ns.map D.int))] ((List.range n).map nD) = some ((List.range n).map fun k => D.int (1 + ns.getD (3 + k) 0 % 12)) := VW nD (fun k => D.int (1 + ns.getD (3 + k) 0 % 12)) (List.range n) fun k _ => ⟨[some (nD k), some (.lst (ns.map D.int))], rfl, by
  have e0 : eOp addX (eC (.int 3)) (Za 0) [some (nD k), some (.lst (ns.map D.int))] = some (.int ((3 + k : Nat) : Int)) := (Zm (x := .int 3) (y := nD k) rfl rfl).trans ((add_int _ _).trans (congrArg (fun z => some (D.int z)) (by omega)))
  have hd : Zb (Za 1) (Zb (eOp addX (eC (.int 3)) (Za 0)) eNil) [some (nD k), some (.lst (ns.map D.int))] = some [.lst (ns.map D.int), .int ((3 + k : Nat) : Int)] := Zl rfl (Zl e0 nil_of)
  exact (Zm (x := .int 1) (y := .int (ns.getD (3 + k) 0 % 12)) rfl ((Zm (y := .int 12) ((Yf hd rfl).trans (Zcf ns (3 + k))) rfl).trans (VN (by decide)))).trans (add_int _ _)⟩
 refine (Xr (xs := (List.range n).map nD) ?_ rfl hc (by rw [List.length_map, List.length_range]; omega)).trans ?_
 · rw [<- JM]
   exact (Ur (j := (n : Int)) (Zl rfl nil_of) (by omega) (by omega)).trans (by rw [Int.toNat_natCast])
 · unfold w0
   rw [IL, List.map_map]
   rfl
section
variable {ns : List Int} {n : Nat} {T : List (List Int)} {w : List Int} {N : Int}
theorem Zhb (hn : n <= 8) (W : Wt n w) (q : List Nat) (v2 v3 v4 v6 v8 : Option D) : lC (LA ns (some (nD n)) v2 v3 v4 (some (IL w)) v6 (some (AD q)) v8) = some (IL (aln w q n)) := by
 have hc : Zx (Zf 0) (fun _ => some true) lE [none, some (IL w), some (AD q)] ((List.range n).map nD) = some ((List.range n).map fun k => D.int (w.getD k 0 * (if decide (k ∈ q) = true then 1 else 0))) := VW nD (fun k => D.int (w.getD k 0 * (if decide (k ∈ q) = true then 1 else 0))) (List.range n) fun k hk => ⟨[some (nD k), some (IL w), some (AD q)], rfl, by
  have hkn := List.mem_range.mp hk
  have e1 : eOp ixD (Za 1) (Za 0) [some (nD k), some (IL w), some (AD q)] = some (.int (w.getD k 0)) := (Zm (x := IL w) (y := nD k) rfl rfl).trans (UH W.ln hkn)
  have e2 : eCB intD (Zb (eOp (inD false) (Za 0) (Za 2)) eNil) [some (nD k), some (IL w), some (AD q)] = some (.int (if decide (k ∈ q) = true then 1 else 0)) := (YC (Zl ((Zm (x := nD k) (y := AD q) rfl rfl).trans (ZgY k q)) nil_of)).trans rfl
  refine (Zm e1 e2).trans (Qd ?_ ?_)
  · by_cases h : k ∈ q
    · rw [decide_eq_true h]; decide
    · rw [decide_eq_false h]; decide
  · by_cases h : k ∈ q
    · rw [decide_eq_true h]; decide
    · rw [decide_eq_false h]; decide⟩
 refine (Xr (xs := (List.range n).map nD) ?_ rfl hc (by rw [List.length_map, List.length_range]; omega)).trans ?_
 · rw [<- JM]
   exact (Ur (j := (n : Int)) (Zl rfl nil_of) (by omega) (by omega)).trans (by rw [Int.toNat_natCast])
 · unfold aln
   rw [IL, List.map_map]
   rfl
end
theorem ZeU {ns : List Int} {n : Nat} {T : List (List Int)} {w : List Int} {N : Int} {s : Nat} {q : List Nat} (hn8 : n <= 8) (hTl : T.length = n) (W : Wt n w) (hq8 : q.length <= 8)
 (m1 : Uu [TD T, .int N, IL (w0 ns n)] = some (IL w)) (m2 : Ut [TD T, IL w] = some (AD q)) (m3 : Uw [TD T, IL w] = some (AD q)) (m4 : Ux [TD T, .int N, IL (aln w q n)] = some (.bl true)) :
 Zd b1 (Zd b2 (Zd b3 (Zd b4 (Zd b5 (Zd b6 (Zd (Ya 7 (eC (.int 99))) b8)))))) (LA ns (some (nD n)) (some (.int N)) (some (TD T)) (some (nD s)) none none none none) = some (.rt (.bl true)) := by
 have hd1 : Zb (Za 3) (Zb (Za 2) (Zb wC eNil)) (LA ns (some (nD n)) (some (.int N)) (some (TD T)) (some (nD s)) none none none none) = some [TD T, .int N, IL (w0 ns n)] := Zl rfl (Zl rfl (Zl (Zha ns hn8 _ _ _ _ _ _ _) nil_of))
 have u1 : b1 (LA ns (some (nD n)) (some (.int N)) (some (TD T)) (some (nD s)) none none none none) = some (.nx (LA ns (some (nD n)) (some (.int N)) (some (TD T)) (some (nD s)) (some (IL w)) none none none)) := ZI ((Yf hd1 rfl).trans m1)
 have hcc : Zx (Zf 0) (fun _ => some true) (eCB Xn (Zb (Za 0) eNil)) [none] (T.map IL) = some (T.map IL) := VW IL IL T fun r _ => ⟨[some (IL r)], rfl, (YC (Zl (x := IL r) rfl nil_of)).trans Zcj⟩
 have e2 : hC (LA ns (some (nD n)) (some (.int N)) (some (TD T)) (some (nD s)) (some (IL w)) none none none) = some (TD T) := Xr (Xd rfl) rfl hcc (by rw [List.length_map, hTl]; omega)
 have u2 : b2 (LA ns (some (nD n)) (some (.int N)) (some (TD T)) (some (nD s)) (some (IL w)) none none none) = some (.nx (LA ns (some (nD n)) (some (.int N)) (some (TD T)) (some (nD s)) (some (IL w)) (some (.tup [TD T, IL w])) none none)) := ZI (ZdK (Zl e2 (Zl ((YC (Zl (x := IL w) rfl nil_of)).trans Zcj) nil_of)) (by show 2 <= 1000; decide))
 have g0 : eOp ixD (Za 6) (eC (.int 0)) (LA ns (some (nD n)) (some (.int N)) (some (TD T)) (some (nD s)) (some (IL w)) (some (.tup [TD T, IL w])) none none) = some (TD T) := (Zm (x := .tup [TD T, IL w]) (y := .int 0) rfl rfl).trans rfl
 have g1 : eOp ixD (Za 6) (eC (.int 1)) (LA ns (some (nD n)) (some (.int N)) (some (TD T)) (some (nD s)) (some (IL w)) (some (.tup [TD T, IL w])) none none) = some (IL w) := (Zm (x := .tup [TD T, IL w]) (y := .int 1) rfl rfl).trans rfl
 have u3 : b3 (LA ns (some (nD n)) (some (.int N)) (some (TD T)) (some (nD s)) (some (IL w)) (some (.tup [TD T, IL w])) none none) = some (.nx (LA ns (some (nD n)) (some (.int N)) (some (TD T)) (some (nD s)) (some (IL w)) (some (.tup [TD T, IL w])) (some (AD q)) none)) := ZI ((Yf (Zl g0 (Zl g1 nil_of)) rfl).trans m2)
 have hp : ∀ v7 v8, pE (LA ns (some (nD n)) (some (.int N)) (some (TD T)) (some (nD s)) (some (IL w)) (some (.tup [TD T, IL w])) v7 v8) = some (.tup [TD T, IL w]) := fun v7 v8 => ZdK (Zl rfl (Zl rfl nil_of)) (by show 2 <= 1000; decide)
 have hd4 : Zb (Za 3) (Zb (Za 5) eNil) (LA ns (some (nD n)) (some (.int N)) (some (TD T)) (some (nD s)) (some (IL w)) (some (.tup [TD T, IL w])) (some (AD q)) none) = some [TD T, IL w] := Zl rfl (Zl rfl nil_of)
 have u4 : b4 (LA ns (some (nD n)) (some (.int N)) (some (TD T)) (some (nD s)) (some (IL w)) (some (.tup [TD T, IL w])) (some (AD q)) none) = some (.nx (LA ns (some (nD n)) (some (.int N)) (some (TD T)) (some (nD s)) (some (IL w)) (some (.tup [TD T, IL w])) (some (AD q)) none)) := (XN (ZdJ (ZX ((Zm (x := .tup [TD T, IL w]) rfl (hp _ _)).trans (Zbm rfl (ZaL T w)))) (ZdJ (Zcb (b := true) (ZX (Zf3 (d := AD q) rfl rfl))) (ZX ((Zm (x := AD q) rfl ((Yf hd4 rfl).trans m3)).trans (Zbm rfl (ZcP q))))))).trans rfl
 have hcf : Zx (Zf 0) fT (Za 0) [none] (q.map nD) = some ([] : List D) := (UE nD (fun _ => false) q fun o _ => ⟨[some (nD o)], rfl, Zcb (b := true) (ZX ((Yf (Zl (x := nD o) rfl nil_of) rfl).trans (whole _))), rfl⟩).trans (by simp)
 have e5' : fC (LA ns (some (nD n)) (some (.int N)) (some (TD T)) (some (nD s)) (some (IL w)) (some (.tup [TD T, IL w])) (some (AD q)) none) = some (.lst []) := Xr (Xd rfl) rfl hcf (Nat.zero_le _)
 have u5 : b5 (LA ns (some (nD n)) (some (.int N)) (some (TD T)) (some (nD s)) (some (IL w)) (some (.tup [TD T, IL w])) (some (AD q)) none) = some (.nx (LA ns (some (nD n)) (some (.int N)) (some (TD T)) (some (nD s)) (some (IL w)) (some (.tup [TD T, IL w])) (some (AD q)) none)) := (XN (ZX ((Zm (x := .int 0) (y := .int 0) ((YC (Zl e5' nil_of)).trans rfl) rfl).trans rfl))).trans rfl
 have e6 : Vb lC (LA ns (some (nD n)) (some (.int N)) (some (TD T)) (some (nD s)) (some (IL w)) (some (.tup [TD T, IL w])) (some (AD q)) none) = some (IL (aln w q n)) := Zdp (Zhb hn8 W q _ _ _ _ _) (Zhv _)
 have u6 : b6 (LA ns (some (nD n)) (some (.int N)) (some (TD T)) (some (nD s)) (some (IL w)) (some (.tup [TD T, IL w])) (some (AD q)) none) = some (.nx (LA ns (some (nD n)) (some (.int N)) (some (TD T)) (some (nD s)) (some (IL w)) (some (.tup [TD T, IL w])) (some (AD q)) (some (IL (aln w q n))))) := ZI e6
 have u7 := Us (i := 7) (ε := eC (.int 99)) (δ := LA ns (some (nD n)) (some (.int N)) (some (TD T)) (some (nD s)) (some (IL w)) (some (.tup [TD T, IL w])) (some (AD q)) (some (IL (aln w q n)))) (xs := q.map nD) (d := .int 99) rfl rfl (by rw [List.length_map]; omega)
 have u8 : ∀ v7, b8 (LA ns (some (nD n)) (some (.int N)) (some (TD T)) (some (nD s)) (some (IL w)) (some (.tup [TD T, IL w])) v7 (some (IL (aln w q n)))) = some (.rt (.bl true)) := fun v7 => by
  have hd8 : Zb (Za 3) (Zb (Za 2) (Zb (Za 8) eNil)) (LA ns (some (nD n)) (some (.int N)) (some (TD T)) (some (nD s)) (some (IL w)) (some (.tup [TD T, IL w])) v7 (some (IL (aln w q n)))) = some [TD T, .int N, IL (aln w q n)] := Zl rfl (Zl rfl (Zl rfl nil_of))
  exact YO (ZeA ((Zm (x := .tup [TD T, IL w]) rfl (hp _ _)).trans (Zbl rfl (ZaL T w))) ((Yf hd8 rfl).trans m4))
 rw [Zu u1, Zu u2, Zu u3, Zu u4, Zu u5, Zu u6, Zu u7]
 exact u8 _
theorem ZeV {ns : List Int} {n : Nat} {T0 : List (List Int)} {N : Int} {s : Nat} (hn8 : n <= 8) (hn : 1 + ns.getD 0 0 % 7 = (n : Int)) (hn0 : 0 < n) (hNd : N = 1 + ns.getD 1 0 % 4) (hs : ns.getD 2 0 % (n : Int) = (s : Int)) (hsn : s < n) (hT0 : Tb n T0) (hw : Uv [.lst (ns.map D.int), nD n] = some (TD T0)) {o : Out}
 (hr : XM (Zd b1 (Zd b2 (Zd b3 (Zd b4 (Zd b5 (Zd b6 (Zd (Ya 7 (eC (.int 99))) b8))))))) (LA ns (some (nD n)) (some (.int N)) (some (TD (srT T0 s ((T0.getD s []).getD s 0 + N)))) (some (nD s)) none none none none) = some o) : f_QN (LA ns none none none none none none none none) = some o := by
 have hO0 := hT0.ok hn8 []
 have c0 : cE (eC (.int 0)) (LA ns none none none none none none none none) = some (.int (ns.getD 0 0)) := Qq 0 rfl rfl
 have t1 : a1 (LA ns none none none none none none none none) = some (.nx (LA ns (some (nD n)) none none none none none none none)) := ZI ((Zm (x := .int 1) (y := .int (ns.getD 0 0 % 7)) rfl ((Zm (y := .int 7) c0 rfl).trans (VN (by decide)))).trans ((add_int _ _).trans (by rw [hn])))
 have c1 : cE (eC (.int 1)) (LA ns (some (nD n)) none none none none none none none) = some (.int (ns.getD 1 0)) := Qq 1 rfl rfl
 have t2 : a2 (LA ns (some (nD n)) none none none none none none none) = some (.nx (LA ns (some (nD n)) (some (.int N)) none none none none none none)) := ZI ((Zm (x := .int 1) (y := .int (ns.getD 1 0 % 4)) rfl ((Zm (y := .int 4) c1 rfl).trans (VN (by decide)))).trans ((add_int _ _).trans (by rw [hNd])))
 have t3 : a3 (LA ns (some (nD n)) (some (.int N)) none none none none none none) = some (.nx (LA ns (some (nD n)) (some (.int N)) (some (TD T0)) none none none none none)) := JG ((Yf (Zl rfl (Zl rfl nil_of)) rfl).trans hw) (by show 3 < 9; decide)
 have c2 : cE (eC (.int 2)) (LA ns (some (nD n)) (some (.int N)) none none none none none none) = some (.int (ns.getD 2 0)) := Qq 2 rfl rfl
 have t4 : Z8 3 a4 (LA ns (some (nD n)) (some (.int N)) (some (TD T0)) none none none none none) = some (.nx (LA ns (some (nD n)) (some (.int N)) (some (TD T0)) (some (nD s)) none none none none)) := UF (δ0 := LA ns (some (nD n)) (some (.int N)) none none none none none none) (δ' := LA ns (some (nD n)) (some (.int N)) none (some (nD s)) none none none none) rfl (ZI ((Zm (y := nD n) c2 rfl).trans ((VN (by omega)).trans (by rw [hs])))) rfl rfl
 have e5 : eOp addX (eOp ixD (eOp ixD (Za 3) (Za 4)) (Za 4)) (Za 2) (LA ns (some (nD n)) (some (.int N)) (some (TD T0)) (some (nD s)) none none none none) = some (.int ((T0.getD s []).getD s 0 + N)) := (Zm (y := .int N) ((Zm (x := IL (T0.getD s [])) (y := nD s) ((Zm (x := TD T0) (y := nD s) rfl rfl).trans (UB hO0 hsn)) rfl).trans (UC hO0 hsn hsn)) rfl).trans (add_int _ _)
 have t5 : a5 (LA ns (some (nD n)) (some (.int N)) (some (TD T0)) (some (nD s)) none none none none) = some (.nx (LA ns (some (nD n)) (some (.int N)) (some (TD (srT T0 s ((T0.getD s []).getD s 0 + N)))) (some (nD s)) none none none none)) := ZeT hT0 hsn rfl rfl e5
 rw [Zgf, Zu t1, Zu t2, Zu t3, Zu t4, Zu t5]
 exact hr
theorem all_true (ns : List Int) (hns : ns.length <= 63) : Qi [.lst (ns.map D.int)] = some (.bl true) := by
 obtain ⟨n, hn⟩ := ZdL (show 0 <= 1 + ns.getD 0 0 % 7 by omega)
 have hn0 : 0 < n := by omega
 have hn8 : n <= 8 := by omega
 obtain ⟨N, hNd⟩ : ∃ N : Int, N = 1 + ns.getD 1 0 % 4 := ⟨_, rfl⟩
 have hN : 0 < N := by omega
 have hN4 : N <= 4 := by omega
 obtain ⟨s, hs, hsn⟩ := ZeB (ns.getD 2 0) hn0
 have hT0 := Zge ns n
 have hw := Zdo ns hn8
 generalize tbl ns n n = T0 at hT0 hw
 have hss0 := UD (hT0.ok hn8 []) hsn hsn
 have W0 := Zg9 ns n
 have hw1 : 1 <= (w0 ns n).getD s 0 := by rw [Zfv ns hsn]; omega
 obtain ⟨hT, hTs⟩ := hT0.sr hsn (x := (T0.getD s []).getD s 0 + N) (by omega)
 have key : ∀ T, Tb n T -> N <= (T.getD s []).getD s 0 -> XM (Zd b1 (Zd b2 (Zd b3 (Zd b4 (Zd b5 (Zd b6 (Zd (Ya 7 (eC (.int 99))) b8))))))) (LA ns (some (nD n)) (some (.int N)) (some (TD T)) (some (nD s)) none none none none) = some (.rt (.bl true)) := fun T hT hTs => by
  obtain ⟨w, W, hws, hfix, m1⟩ := Zdl (hT.ok hn8 []) W0 hN hN4 hsn hTs hw1
  have hO := hT.ok hn8 w
  have hne : amw w n ≠ [] := fun z => by
   have : s ∈ amw w n := amw_mem.mpr ⟨hsn, by omega⟩
   rw [z] at this
   cases this
  obtain ⟨r, hr, hcl, hsm, m2⟩ := ZeP hO W.ln hne
  have m3 := Zga hO W.ln hr hcl hsm
  have hal := Zdm hO W hN hfix hr hcl
  have hq8 : (rch T (amw w n) r).length <= 8 := Nat.le_trans (List.length_filter_le _ _) hO.al
  have m4 := Zdq hO (ZdT (q := rch T (amw w n) r) W) hN hN4 hal
  exact Zgg (ZeU hn8 hT.ln W hq8 m1 m2 m3 m4)
 exact Xa (δ := LA ns none none none none none none none none) rfl (ZeV hn8 hn hn0 hNd hs hsn hT0 hw (key _ hT (by rw [hTs]; omega)))
end K32
namespace K32
open PySem PySem.Spec L2 DL
def Qr (K : PySem.W.Frag) : Sp := fun vs H Q _ => ∃ (a : Addr) (ns : List Int), vs = [.ref a] /\ SqL K H a (ns.map V.int) /\ ns.length <= 63 /\ ∀ H', Q (.bl true) H'
theorem Zgh (hall : ∀ ns : List Int, ns.length <= 63 -> Qi [.lst (ns.map D.int)] = some (.bl true)) {P : Program} {w : World} {K : PySem.W.Frag} {mg : Str -> Option Value} {base : Heap} {t : Adr} (T : Txt K mg t) : FnOk P w K mg base CX0 4 t.a_QN t.d_QN ["script"] (Qr K) :=
 (ZgX T).imp fun vs H Q E ⟨a, ns, hv, hr, hl, q⟩ => by
   subst hv
   refine ⟨fun _ => False, [.lst (ns.map D.int)], .bl true, fun _ z => z.elim, .cons ?_ .nil, rfl, hall ns hl, fun v H' _ r => ?_⟩
   · unfold Rep
     refine ⟨a, _, rfl, fun z => z.elim, hr, ?_⟩
     have := RepL.of_vals (cA := ⟨t.c, K⟩) (av := fun _ => False) (H := H) (xs := ns.map D.int) (by rw [List.all_map]; exact List.all_eq_true.mpr fun _ _ => rfl)
     rw [List.map_map] at this
     exact this
   · cases (show v = _ from r)
     exact q H'
theorem all_mk (hall : ∀ ns : List Int, ns.length <= 63 -> Qi [.lst (ns.map D.int)] = some (.bl true)) {l : PySem.W.OpenLaw} {w : World} {K : PySem.W.Frag} {h : Heap} {mg : Str -> Option Value} {fa : Addr} (X : K.In h) (G : h.Ns mainGlobals mg) (hfa : mg "law" = some (.ref fa))
 {f0 : Addr} {od0 an0 : Option Addr} {sl0 : Array (Option Value)} {oc0 kV0 dc0 pm0 cd0 ct0 : Value}
 {f1 : Addr} {od1 an1 : Option Addr} {sl1 : Array (Option Value)} {oc1 kV1 dc1 pm1 cd1 ct1 : Value}
 {f2 : Addr} {od2 an2 : Option Addr} {sl2 : Array (Option Value)} {oc2 kV2 dc2 pm2 cd2 ct2 : Value}
 {f3 : Addr} {od3 an3 : Option Addr} {sl3 : Array (Option Value)} {oc3 kV3 dc3 pm3 cd3 ct3 : Value}
 {f4 : Addr} {od4 an4 : Option Addr} {sl4 : Array (Option Value)} {oc4 kV4 dc4 pm4 cd4 ct4 : Value}
 {f5 : Addr} {od5 an5 : Option Addr} {sl5 : Array (Option Value)} {oc5 kV5 dc5 pm5 cd5 ct5 : Value}
 {f6 : Addr} {od6 an6 : Option Addr} {sl6 : Array (Option Value)} {oc6 kV6 dc6 pm6 cd6 ct6 : Value}
 {f7 : Addr} {od7 an7 : Option Addr} {sl7 : Array (Option Value)} {oc7 kV7 dc7 pm7 cd7 ct7 : Value}
 {f8 : Addr} {od8 an8 : Option Addr} {sl8 : Array (Option Value)} {oc8 kV8 dc8 pm8 cd8 ct8 : Value}
 {f9 : Addr} {od9 an9 : Option Addr} {sl9 : Array (Option Value)} {oc9 kV9 dc9 pm9 cd9 ct9 : Value}
 {f10 : Addr} {od10 an10 : Option Addr} {sl10 : Array (Option Value)} {oc10 kV10 dc10 pm10 cd10 ct10 : Value}
 {f11 : Addr} {od11 an11 : Option Addr} {sl11 : Array (Option Value)} {oc11 kV11 dc11 pm11 cd11 ct11 : Value}
 {f12 : Addr} {od12 an12 : Option Addr} {sl12 : Array (Option Value)} {oc12 kV12 dc12 pm12 cd12 ct12 : Value}
 {f13 : Addr} {od13 an13 : Option Addr} {sl13 : Array (Option Value)} {oc13 kV13 dc13 pm13 cd13 ct13 : Value}
 (a0 : PySem.W.nsIn K mainGlobals "reached_from" = some (some (.ref f0)))
 (l0 : K.lookup f0 = some ⟨oc0, od0, .func (PySem.W.fnOf "reached_from" "reached_from" (Z1 XQ) (ZJ XQ) (Zo XQ) .none kV0 dc0 pm0 an0 cd0 ct0), sl0⟩)
 (c0 : PySem.W.codeIn K cd0 "reached_from" = true)
 (k0 : PySem.W.keepIn K (.ref f0) = true)
 (a1 : PySem.W.nsIn K mainGlobals "tied_parts" = some (some (.ref f1)))
 (l1 : K.lookup f1 = some ⟨oc1, od1, .func (PySem.W.fnOf "tied_parts" "tied_parts" (Z1 Xs) (ZJ Xs) (Zo Xs) .none kV1 dc1 pm1 an1 cd1 ct1), sl1⟩)
 (c1 : PySem.W.codeIn K cd1 "tied_parts" = true)
 (k1 : PySem.W.keepIn K (.ref f1) = true)
 (a2 : PySem.W.nsIn K mainGlobals "is_closed" = some (some (.ref f2)))
 (l2 : K.lookup f2 = some ⟨oc2, od2, .func (PySem.W.fnOf "is_closed" "is_closed" (Z1 Xb) (ZJ Xb) (Zo Xb) .none kV2 dc2 pm2 an2 cd2 ct2), sl2⟩)
 (c2 : PySem.W.codeIn K cd2 "is_closed" = true)
 (k2 : PySem.W.keepIn K (.ref f2) = true)
 (a3 : PySem.W.nsIn K mainGlobals "closed_part" = some (some (.ref f3)))
 (l3 : K.lookup f3 = some ⟨oc3, od3, .func (PySem.W.fnOf "closed_part" "closed_part" (Z1 Xc) (ZJ Xc) (Zo Xc) .none kV3 dc3 pm3 an3 cd3 ct3), sl3⟩)
 (c3 : PySem.W.codeIn K cd3 "closed_part" = true)
 (k3 : PySem.W.keepIn K (.ref f3) = true)
 (a4 : PySem.W.nsIn K mainGlobals "_law_cell_at" = some (some (.ref f4)))
 (l4 : K.lookup f4 = some ⟨oc4, od4, .func (PySem.W.fnOf "_law_cell_at" "_law_cell_at" (Z1 XR) (ZJ XR) (Zo XR) .none kV4 dc4 pm4 an4 cd4 ct4), sl4⟩)
 (c4 : PySem.W.codeIn K cd4 "_law_cell_at" = true)
 (k4 : PySem.W.keepIn K (.ref f4) = true)
 (a5 : PySem.W.nsIn K mainGlobals "_law_is_whole" = some (some (.ref f5)))
 (l5 : K.lookup f5 = some ⟨oc5, od5, .func (PySem.W.fnOf "_law_is_whole" "_law_is_whole" (Z1 XS) (ZJ XS) (Zo XS) .none kV5 dc5 pm5 an5 cd5 ct5), sl5⟩)
 (c5 : PySem.W.codeIn K cd5 "_law_is_whole" = true)
 (k5 : PySem.W.keepIn K (.ref f5) = true)
 (a6 : PySem.W.nsIn K mainGlobals "_law_shrunk" = some (some (.ref f6)))
 (l6 : K.lookup f6 = some ⟨oc6, od6, .func (PySem.W.fnOf "_law_shrunk" "_law_shrunk" (Z1 XT) (ZJ XT) (Zo XT) .none kV6 dc6 pm6 an6 cd6 ct6), sl6⟩)
 (c6 : PySem.W.codeIn K cd6 "_law_shrunk" = true)
 (k6 : PySem.W.keepIn K (.ref f6) = true)
 (a7 : PySem.W.nsIn K mainGlobals "_law_borne" = some (some (.ref f7)))
 (l7 : K.lookup f7 = some ⟨oc7, od7, .func (PySem.W.fnOf "_law_borne" "_law_borne" (Z1 XU) (ZJ XU) (Zo XU) .none kV7 dc7 pm7 an7 cd7 ct7), sl7⟩)
 (c7 : PySem.W.codeIn K cd7 "_law_borne" = true)
 (k7 : PySem.W.keepIn K (.ref f7) = true)
 (a8 : PySem.W.nsIn K mainGlobals "_law_table" = some (some (.ref f8)))
 (l8 : K.lookup f8 = some ⟨oc8, od8, .func (PySem.W.fnOf "_law_table" "_law_table" (Z1 XV) (ZJ XV) (Zo XV) .none kV8 dc8 pm8 an8 cd8 ct8), sl8⟩)
 (c8 : PySem.W.codeIn K cd8 "_law_table" = true)
 (k8 : PySem.W.keepIn K (.ref f8) = true)
 (a9 : PySem.W.nsIn K mainGlobals "_law_come_to" = some (some (.ref f9)))
 (l9 : K.lookup f9 = some ⟨oc9, od9, .func (PySem.W.fnOf "_law_come_to" "_law_come_to" (Z1 XW) (ZJ XW) (Zo XW) .none kV9 dc9 pm9 an9 cd9 ct9), sl9⟩)
 (c9 : PySem.W.codeIn K cd9 "_law_come_to" = true)
 (k9 : PySem.W.keepIn K (.ref f9) = true)
 (a10 : PySem.W.nsIn K mainGlobals "_law_closed" = some (some (.ref f10)))
 (l10 : K.lookup f10 = some ⟨oc10, od10, .func (PySem.W.fnOf "_law_closed" "_law_closed" (Z1 XX) (ZJ XX) (Zo XX) .none kV10 dc10 pm10 an10 cd10 ct10), sl10⟩)
 (c10 : PySem.W.codeIn K cd10 "_law_closed" = true)
 (k10 : PySem.W.keepIn K (.ref f10) = true)
 (a11 : PySem.W.nsIn K mainGlobals "_law_due" = some (some (.ref f11)))
 (l11 : K.lookup f11 = some ⟨oc11, od11, .func (PySem.W.fnOf "_law_due" "_law_due" (Z1 XY) (ZJ XY) (Zo XY) .none kV11 dc11 pm11 an11 cd11 ct11), sl11⟩)
 (c11 : PySem.W.codeIn K cd11 "_law_due" = true)
 (k11 : PySem.W.keepIn K (.ref f11) = true)
 (a12 : PySem.W.nsIn K mainGlobals "_law_bears" = some (some (.ref f12)))
 (l12 : K.lookup f12 = some ⟨oc12, od12, .func (PySem.W.fnOf "_law_bears" "_law_bears" (Z1 XZ) (ZJ XZ) (Zo XZ) .none kV12 dc12 pm12 an12 cd12 ct12), sl12⟩)
 (c12 : PySem.W.codeIn K cd12 "_law_bears" = true)
 (k12 : PySem.W.keepIn K (.ref f12) = true)
 (a13 : PySem.W.nsIn K mainGlobals "law" = some (some (.ref f13)))
 (l13 : K.lookup f13 = some ⟨oc13, od13, .func (PySem.W.fnOf "law" "law" (Z1 Ys) (ZJ Ys) (Zo Ys) .none kV13 dc13 pm13 an13 cd13 ct13), sl13⟩)
 (c13 : PySem.W.codeIn K cd13 "law" = true)
 (k13 : PySem.W.keepIn K (.ref f13) = true)
 (Zh6 : PySem.W.nsIn K mainGlobals "all" = some none)
 (Zh7 : PySem.W.nsIn K mainGlobals "bool" = some none)
 (Zh8 : PySem.W.nsIn K mainGlobals "enumerate" = some none)
 (Zh9 : PySem.W.nsIn K mainGlobals "int" = some none)
 (Zia : PySem.W.nsIn K mainGlobals "isinstance" = some none)
 (Zib : PySem.W.nsIn K mainGlobals "len" = some none)
 (Zic : PySem.W.nsIn K mainGlobals "list" = some none)
 (Zid : PySem.W.nsIn K mainGlobals "min" = some none)
 (Zie : PySem.W.nsIn K mainGlobals "range" = some none)
 (Zif : PySem.W.nsIn K mainGlobals "sorted" = some none)
 (Zig : PySem.W.nsIn K mainGlobals "sum" = some none)
 (ZhO : PySem.W.kitOne K (.type "NoneType") (.type "bool") = some false)
 (ZhR : PySem.W.kitOne K (.type "bool") (.type "bool") = some true)
 (ZhU : PySem.W.kitOne K (.type "int") (.type "bool") = some false)
 (Zh0 : PySem.W.kitOne K (.type "str") (.type "bool") = some false)
 (ZhX : PySem.W.kitOne K (.type "list") (.type "bool") = some false)
 (Zh3 : PySem.W.kitOne K (.type "tuple") (.type "bool") = some false)
 (ZhP : PySem.W.kitOne K (.type "NoneType") (.type "int") = some false)
 (ZhS : PySem.W.kitOne K (.type "bool") (.type "int") = some true)
 (ZhV : PySem.W.kitOne K (.type "int") (.type "int") = some true)
 (Zh1 : PySem.W.kitOne K (.type "str") (.type "int") = some false)
 (ZhY : PySem.W.kitOne K (.type "list") (.type "int") = some false)
 (Zh4 : PySem.W.kitOne K (.type "tuple") (.type "int") = some false)
 (ZhQ : PySem.W.kitOne K (.type "NoneType") (.type "list") = some false)
 (ZhT : PySem.W.kitOne K (.type "bool") (.type "list") = some false)
 (ZhW : PySem.W.kitOne K (.type "int") (.type "list") = some false)
 (Zh2 : PySem.W.kitOne K (.type "str") (.type "list") = some false)
 (ZhZ : PySem.W.kitOne K (.type "list") (.type "list") = some true)
 (Zh5 : PySem.W.kitOne K (.type "tuple") (.type "list") = some false)
 : ∃ fd : FuncData, (∀ (s : Shared) (v : Value), BindsTo s fd ⟨[v], []⟩ [("script", v)]) /\ ∀ base : Heap, K.In base -> base.Ns mainGlobals mg -> FnOk l.prog w K mg base CX0 4 fa fd ["script"] (Qr K) := by
 have e := hfa.symm.trans (PySem.W.mg_of X G a13)
 cases e
 have F0 : FunX K "reached_from" "reached_from" XQ f0 _ := (ZD (st := XQ) l0 c0 k0).x
 have b0 := (ZD (st := XQ) l0 c0 k0).binds (ps := ["table", "among", "room"]) fun _ _ _ _ _ _ us hl => match us, hl with | [_, _, _], _ => rfl
 have F1 : FunX K "tied_parts" "tied_parts" Xs f1 _ := (ZD (st := Xs) l1 c1 k1).x
 have b1 := (ZD (st := Xs) l1 c1 k1).binds (ps := ["table", "among"]) fun _ _ _ _ _ _ us hl => match us, hl with | [_, _], _ => rfl
 have F2 : FunX K "is_closed" "is_closed" Xb f2 _ := (ZD (st := Xb) l2 c2 k2).x
 have b2 := (ZD (st := Xb) l2 c2 k2).binds (ps := ["table", "among", "part"]) fun _ _ _ _ _ _ us hl => match us, hl with | [_, _, _], _ => rfl
 have F3 : FunX K "closed_part" "closed_part" Xc f3 _ := (ZD (st := Xc) l3 c3 k3).x
 have b3 := (ZD (st := Xc) l3 c3 k3).binds (ps := ["table", "weights"]) fun _ _ _ _ _ _ us hl => match us, hl with | [_, _], _ => rfl
 have F4 : FunX K "_law_cell_at" "_law_cell_at" XR f4 _ := (ZD (st := XR) l4 c4 k4).x
 have b4 := (ZD (st := XR) l4 c4 k4).binds (ps := ["script", "k"]) fun _ _ _ _ _ _ us hl => match us, hl with | [_, _], _ => rfl
 have F5 : FunX K "_law_is_whole" "_law_is_whole" XS f5 _ := (ZD (st := XS) l5 c5 k5).x
 have b5 := (ZD (st := XS) l5 c5 k5).binds (ps := ["found"]) fun _ _ _ _ _ _ us hl => match us, hl with | [_], _ => rfl
 have F6 : FunX K "_law_shrunk" "_law_shrunk" XT f6 _ := (ZD (st := XT) l6 c6 k6).x
 have b6 := (ZD (st := XT) l6 c6 k6).binds (ps := ["table", "n", "weights"]) fun _ _ _ _ _ _ us hl => match us, hl with | [_, _, _], _ => rfl
 have F7 : FunX K "_law_borne" "_law_borne" XU f7 _ := (ZD (st := XU) l7 c7 k7).x
 have b7 := (ZD (st := XU) l7 c7 k7).binds (ps := ["table", "n", "weights"]) fun _ _ _ _ _ _ us hl => match us, hl with | [_, _, _], _ => rfl
 have F8 : FunX K "_law_table" "_law_table" XV f8 _ := (ZD (st := XV) l8 c8 k8).x
 have b8 := (ZD (st := XV) l8 c8 k8).binds (ps := ["script", "many"]) fun _ _ _ _ _ _ us hl => match us, hl with | [_, _], _ => rfl
 have F9 : FunX K "_law_come_to" "_law_come_to" XW f9 _ := (ZD (st := XW) l9 c9 k9).x
 have b9 := (ZD (st := XW) l9 c9 k9).binds (ps := ["table", "weights", "room"]) fun _ _ _ _ _ _ us hl => match us, hl with | [_, _, _], _ => rfl
 have F10 : FunX K "_law_closed" "_law_closed" XX f10 _ := (ZD (st := XX) l10 c10 k10).x
 have b10 := (ZD (st := XX) l10 c10 k10).binds (ps := ["table", "weights", "room"]) fun _ _ _ _ _ _ us hl => match us, hl with | [_, _, _], _ => rfl
 have F11 : FunX K "_law_due" "_law_due" XY f11 _ := (ZD (st := XY) l11 c11 k11).x
 have b11 := (ZD (st := XY) l11 c11 k11).binds (ps := ["table", "weights"]) fun _ _ _ _ _ _ us hl => match us, hl with | [_, _], _ => rfl
 have F12 : FunX K "_law_bears" "_law_bears" XZ f12 _ := (ZD (st := XZ) l12 c12 k12).x
 have b12 := (ZD (st := XZ) l12 c12 k12).binds (ps := ["table", "n", "weights"]) fun _ _ _ _ _ _ us hl => match us, hl with | [_, _, _], _ => rfl
 have F13 : FunX K "law" "law" Ys fa _ := (ZD (st := Ys) l13 c13 k13).x
 have b13 := (ZD (st := Ys) l13 c13 k13).binds (ps := ["script"]) fun _ _ _ _ _ _ us hl => match us, hl with | [_], _ => rfl
 have T : Txt K mg { a_QB := f0, d_QB := _, a_QJ := f1, d_QJ := _, a_QL := f2, d_QL := _, a_QG := f3, d_QG := _, a_QC := f4, d_QC := _, a_QA := f5, d_QA := _, a_QE := f6, d_QE := _, a_QI := f7, d_QI := _, a_QK := f8, d_QK := _, a_QD := f9, d_QD := _, a_QF := f10, d_QF := _, a_QM := f11, d_QM := _, a_QH := f12, d_QH := _, a_QN := fa, d_QN := _ } := { f_QB := F0, b_QB := b0, g_QB := PySem.W.mg_of X G a0, k_QB := k0, f_QJ := F1, b_QJ := b1, g_QJ := PySem.W.mg_of X G a1, k_QJ := k1, f_QL := F2, b_QL := b2, g_QL := PySem.W.mg_of X G a2, k_QL := k2, f_QG := F3, b_QG := b3, g_QG := PySem.W.mg_of X G a3, k_QG := k3, f_QC := F4, b_QC := b4, g_QC := PySem.W.mg_of X G a4, k_QC := k4, f_QA := F5, b_QA := b5, g_QA := PySem.W.mg_of X G a5, k_QA := k5, f_QE := F6, b_QE := b6, g_QE := PySem.W.mg_of X G a6, k_QE := k6, f_QI := F7, b_QI := b7, g_QI := PySem.W.mg_of X G a7, k_QI := k7, f_QK := F8, b_QK := b8, g_QK := PySem.W.mg_of X G a8, k_QK := k8, f_QD := F9, b_QD := b9, g_QD := PySem.W.mg_of X G a9, k_QD := k9, f_QF := F10, b_QF := b10, g_QF := PySem.W.mg_of X G a10, k_QF := k10, f_QM := F11, b_QM := b11, g_QM := PySem.W.mg_of X G a11, k_QM := k11, f_QH := F12, b_QH := b12, g_QH := PySem.W.mg_of X G a12, k_QH := k12, f_QN := F13, b_QN := b13, g_QN := PySem.W.mg_of X G a13, k_QN := k13, n_all := PySem.W.mg_none_of X G Zh6, n_bool := PySem.W.mg_none_of X G Zh7, n_enumerate := PySem.W.mg_none_of X G Zh8, n_int := PySem.W.mg_none_of X G Zh9, n_isinstance := PySem.W.mg_none_of X G Zia, n_len := PySem.W.mg_none_of X G Zib, n_list := PySem.W.mg_none_of X G Zic, n_min := PySem.W.mg_none_of X G Zid, n_range := PySem.W.mg_none_of X G Zie, n_sorted := PySem.W.mg_none_of X G Zif, n_sum := PySem.W.mg_none_of X G Zig, isi_bool := Q6 (by intro p hp; simp only [Jz, List.mem_cons, List.mem_nil_iff, or_false] at hp; rcases hp with rfl | rfl | rfl | rfl | rfl | rfl <;> first | exact ZhO | exact ZhR | exact ZhU | exact Zh0 | exact ZhX | exact Zh3), isi_int := Q6 (by intro p hp; simp only [JA, List.mem_cons, List.mem_nil_iff, or_false] at hp; rcases hp with rfl | rfl | rfl | rfl | rfl | rfl <;> first | exact ZhP | exact ZhS | exact ZhV | exact Zh1 | exact ZhY | exact Zh4), isi_list := Q6 (by intro p hp; simp only [Qe, List.mem_cons, List.mem_nil_iff, or_false] at hp; rcases hp with rfl | rfl | rfl | rfl | rfl | rfl <;> first | exact ZhQ | exact ZhT | exact ZhW | exact Zh2 | exact ZhZ | exact Zh5) }
 exact ⟨PySem.W.fnOf "law" "law" (Z1 Ys) (ZJ Ys) (Zo Ys) .none kV13 dc13 pm13 an13 cd13 ct13, fun s v => .of_eq rfl, fun base _ _ => Zgh hall T⟩
theorem walk {l : PySem.W.OpenLaw} {q : Program} {loose : List Str} {XP : (Str -> Option Value) -> Heap -> Prop} {YP : World -> Heap -> Prop} {d : DefRec} {K : Params -> PySem.W.Frag} (hn : l.most = some 63) (hdf : d.params.defaults = [])
 (hY : ∀ (w : World) (h : Heap), YP w h -> (K w.params).In h)
 (F : ∀ (w : World) (mg : Str -> Option Value) (fa : Addr) (h : Heap), (K w.params).In h -> h.Ns mainGlobals mg -> mg d.name = some (.ref fa) ->
   ∃ fd : FuncData, (∀ (s : Shared) (u : Value), BindsTo s fd ⟨[u], []⟩ [("script", u)]) /\ ∀ base : Heap, (K w.params).In base -> base.Ns mainGlobals mg -> FnOk l.prog w (K w.params) mg base CX0 4 fa fd ["script"] (Qr (K w.params))) :
 PySem.W.WalkO q loose XP YP l.row.toRowW d [] (fun f vs => PySem.call f vs) :=
 L2.walk_of (n := 63) (k := 4) (x := "script") (CX := fun _ => CX0) (sp := fun w => Qr (K w.params)) hn (by decide) hdf ⟨rfl, by decide, by decide⟩ hY F (fun _ _ a ns hl _ hS => ⟨a, ns, rfl, hS, hl, fun _ => rfl⟩) fun _ _ _ _ _ z => z
end K32
open PySem PySem.W PyProof.Rows
set_option maxRecDepth 100000 in
set_option maxHeartbeats 0 in
theorem PySem.Challenge.cw_grooveway_k32_closed_parts_holds : PySem.Challenge.rw_grooveway_k32_closed_parts.Holds := by
 w_on; o_law; k_head; (case hw => w_witness2)
 k_fill
 refine K32.walk (l := PySem.Challenge.rw_grooveway_k32_closed_parts) rfl rfl (fun w h Y => PySem.W.kIn_of Y) ?F
 case F =>
  intro w mg fa h KX G hmg
  refine' K32.all_mk K32.all_true KX G hmg ?a0 ?l0 ?c0 ?k0 ?a1 ?l1 ?c1 ?k1 ?a2 ?l2 ?c2 ?k2 ?a3 ?l3 ?c3 ?k3 ?a4 ?l4 ?c4 ?k4 ?a5 ?l5 ?c5 ?k5 ?a6 ?l6 ?c6 ?k6 ?a7 ?l7 ?c7 ?k7 ?a8 ?l8 ?c8 ?k8 ?a9 ?l9 ?c9 ?k9 ?a10 ?l10 ?c10 ?k10 ?a11 ?l11 ?c11 ?k11 ?a12 ?l12 ?c12 ?k12 ?a13 ?l13 ?c13 ?k13 ?Zh6 ?Zh7 ?Zh8 ?Zh9 ?Zia ?Zib ?Zic ?Zid ?Zie ?Zif ?Zig ?ZhO ?ZhR ?ZhU ?Zh0 ?ZhX ?Zh3 ?ZhP ?ZhS ?ZhV ?Zh1 ?ZhY ?Zh4 ?ZhQ ?ZhT ?ZhW ?Zh2 ?ZhZ ?Zh5
  (case a0 | l0 | c0 | k0 | a1 | l1 | c1 | k1 | a2 | l2 | c2 | k2 | a3 | l3 | c3 | k3 | a4 | l4 | c4 | k4 | a5 | l5 | c5 | k5 | a6 | l6 | c6 | k6 | a7 | l7 | c7 | k7 | a8 | l8 | c8 | k8 | a9 | l9 | c9 | k9 | a10 | l10 | c10 | k10 | a11 | l11 | c11 | k11 | a12 | l12 | c12 | k12 | a13 | l13 | c13 | k13 | Zh6 | Zh7 | Zh8 | Zh9 | Zia | Zib | Zic | Zid | Zie | Zif | Zig => k_is)
  (case ZhO | ZhR | ZhU | Zh0 | ZhX | Zh3 | ZhP | ZhS | ZhV | Zh1 | ZhY | Zh4 | ZhQ | ZhT | ZhW | Zh2 | ZhZ | Zh5 => kit_is)
