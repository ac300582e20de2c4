import PyProof.Rows.All
import Wide.All
import OpenK.AllK
import Wide.FinOn
import Lean
import PyProof.EqAt
import PyProof.EqKinds
import PyProof.TupleCall
import PyProof.Rows.StrCountLaw
import PyProof.Rows.StrFirst
import PyProof.Rows.StrLast
import PyProof.Rows.StrNews2
import PyProof.Rows.StrSplitCount
import PyProof.StrBlockI
import PyProof.StrLawsIn
import PyProof.StrLawsLast
import PyProof.EnumMake
import PyProof.FString
import PyProof.ReprStr
import PyProof.StrLawsRepr
import PyProof.ListStr
import PyProof.ListRange
import PySem.Challenge.RW_grooveway_k22_no_row
set_option Elab.async false
set_option linter.all false
set_option maxRecDepth 100000
set_option maxHeartbeats 4000000
open PySem.W (keepIn nsIn mg_of fnOf codeIn kitOne mg_none_of isFn instObj emptyDict)
namespace L2
open PySem PySem.Spec PyProof.Rows
abbrev Key := Sum Int Str
def UJ : Key -> Value -> Bool
 | .inl k,v => Value.isInt k v
 | .inr x,v => Value.isStrOf x v
def ZkK (w : World) : Key -> Int
 | .inl k => hashInt k
 | .inr x => hashStr w x
theorem Vf : ∀ {k : Key} {v : Value},UJ k v = true -> (∃ i t,k = Sum.inl i /\ v = Value.int i t) \/ (∃ x t,k = Sum.inr x /\ v = Value.str x t)
 | .inl i,v,h => by
  obtain ⟨t,e⟩ := Value.isInt_shape (k:=i) (v:=v) h;exact .inl ⟨i,t,rfl,e⟩
 | .inr x,v,h => by
  obtain ⟨t,e⟩ := Value.isStrOf_shape (x:=x) (v:=v) h;exact .inr ⟨x,t,rfl,e⟩
theorem ZdV (i : Int) (t : Tok) : UJ (.inl i) (.int i t) = true := by simp [UJ,Value.isInt]
theorem ZdW (x : Str) (t : Tok) : UJ (.inr x) (.str x t) = true := by simp [UJ,Value.isStrOf]
theorem ZhE (a b : Int) : decide ((Sum.inl a : Key) = Sum.inl b) = (a == b) := by
 by_cases e : a = b
 · subst e; simp
 · have h : ¬ (Sum.inl a : Key) = Sum.inl b := fun q => e (Sum.inl.inj q)
   rw [decide_eq_false h];exact (beq_eq_false_iff_ne.mpr e).symm
theorem ZhF (a b : Str) : decide ((Sum.inr a : Key) = Sum.inr b) = decide (a = b) := by
 by_cases e : a = b
 · subst e; simp
 · have h : ¬ (Sum.inr a : Key) = Sum.inr b := fun q => e (Sum.inr.inj q)
   rw [decide_eq_false h,decide_eq_false e]
theorem ZhG (a : Int) (b : Str) : decide ((Sum.inl a : Key) = Sum.inr b) = false := decide_eq_false (fun q => nomatch q)
theorem ZhH (a : Str) (b : Int) : decide ((Sum.inr a : Key) = Sum.inl b) = false := decide_eq_false (fun q => nomatch q)
def Xc (prog : Program) (w : World) : PySem.KeyKind prog w Key where
 is := UJ
 hash := ZkK w
 inj := fun v a b ha hb => by
  rcases Vf ha with ⟨i,t,rfl,rfl⟩ | ⟨x,t,rfl,rfl⟩
  · rcases Vf hb with ⟨j,u,rfl,e⟩ | ⟨y,u,rfl,e⟩
    · injection e with e1 _; rw [e1]
    · exact nomatch e
  · rcases Vf hb with ⟨j,u,rfl,e⟩ | ⟨y,u,rfl,e⟩
    · exact nomatch e
    · injection e with e1 _; rw [e1]
 byValue := fun k v h => by
  rcases Vf h with ⟨i,t,rfl,rfl⟩ | ⟨x,t,rfl,rfl⟩ <;> rfl
 pyHash := fun hv h => by
  rcases Vf hv with ⟨i,t,rfl,rfl⟩ | ⟨x,t,rfl,rfl⟩
  · exact wpAny_pyHash_int h
  · exact wpAny_pyHash_str h
 eqBool := fun hu hv h => by
  rcases Vf hu with ⟨i,t,rfl,rfl⟩ | ⟨x,t,rfl,rfl⟩
  · rcases Vf hv with ⟨j,u,rfl,rfl⟩ | ⟨y,u,rfl,rfl⟩
    · rw [ZhE] at h; exact wpAny_eqBool_int h
    · rw [ZhG] at h; exact SeqAt.EqAt.int_str i t y u _ _ _ _ h
  · rcases Vf hv with ⟨j,u,rfl,rfl⟩ | ⟨y,u,rfl,rfl⟩
    · rw [ZhH] at h; exact SeqAt.EqAt.str_int x t j u _ _ _ _ h
    · rw [ZhF] at h; exact wpAny_eqBool_str h
 «strs» := fun k x t v h => by
  rcases Vf h with ⟨i,u,rfl,e⟩ | ⟨y,u,rfl,e⟩
  · exact nomatch e
  · injection e with e1 _
    subst e1;cases v <;> rfl
theorem ZbJ (prog : Program) (w : World) (i : Int) (t : Tok) : (Xc prog w).is (.inl i) (.int i t) = true := ZdV i t
theorem ZbK (prog : Program) (w : World) (x : Str) (t : Tok) : (Xc prog w).is (.inr x) (.str x t) = true := ZdW x t
end L2
namespace L2
open PySem PySem.Spec PyProof.Rows
inductive V where
 | non | bl (b : Bool) | int (i : Int) | str (x : Str) | byt (b : Array UInt8) | flt (b : UInt64) | ref (a : Addr) | ty (n : String)
 deriving DecidableEq
def RelV : V -> Value -> Prop
 | .non,u => u = Value.none
 | .bl b,u => u = Value.bool b
 | .int i,u => ∃ t,u = Value.int i t
 | .str x,u => ∃ t,u = Value.str x t
 | .byt b,u => ∃ t,u = Value.bytes b t
 | .flt b,u => ∃ t,u = Value.float b t
 | .ref a,u => u = Value.ref a
 | .ty n,u => u = Value.type n
abbrev Vals : List V -> List Value -> Prop := Paired RelV
theorem Vals.length {xs : List V} {us : List Value} (r : Vals xs us) : xs.length = us.length := Paired.length r
theorem Vals.get : ∀ {xs : List V} {us : List Value} {i : Nat} {x : V},Vals xs us -> xs[i]? = some x -> ∃ u,us[i]? = some u /\ RelV x u
 | _,_,_,_,.nil,e => by simp at e
 | _,_,0,_,.cons r _,e => by simp at e; subst e; exact ⟨_,rfl,r⟩
 | _,_,i + 1,x,.cons _ t,e => by
  obtain ⟨u,h1,h2⟩ := Vals.get (i:=i) (x:=x) t (by simpa using e);exact ⟨u,by simpa using h1,h2⟩
theorem Vals.set {x : V} {u : Value} (r : RelV x u) : ∀ {xs : List V} {us : List Value} (i : Nat),Vals xs us -> Vals (xs.set i x) (us.set i u)
 | _,_,_,.nil => .nil
 | _,_,0,.cons _ t => .cons r t
 | _,_,i + 1,.cons q t => .cons q (Vals.set r i t)
theorem Vals.append : ∀ {xs ys : List V} {us ws : List Value},Vals xs us -> Vals ys ws -> Vals (xs ++ ys) (us ++ ws)
 | _,_,_,_,.nil,s => s
 | _,_,_,_,.cons r t,s => .cons r (Vals.append t s)
theorem Vals.take : ∀ {xs : List V} {us : List Value} (n : Nat),Vals xs us -> Vals (xs.take n) (us.take n)
 | _,_,0,_ => .nil
 | _,_,_ + 1,.nil => .nil
 | _,_,n + 1,.cons r t => .cons r (Vals.take n t)
theorem Vals.drop : ∀ {xs : List V} {us : List Value} (n : Nat),Vals xs us -> Vals (xs.drop n) (us.drop n)
 | _,_,0,r => r
 | _,_,_ + 1,.nil => .nil
 | _,_,n + 1,.cons _ t => Vals.drop n t
def RelO : Option V -> Option Value -> Prop
 | some v,some u => RelV v u
 | none,none => True
 | _,_ => False
def KV {κ : Type} : List (κ × V) -> List (κ × Value) -> Prop := Paired fun (p : κ × V) (q : κ × Value) => p.1 = q.1 /\ RelV p.2 q.2
def kV : Key -> V
 | .inl i => .int i
 | .inr x => .str x
inductive HO where
 | lst (xs : List V)
 | tup (xs : List V)
 | dK (kvs : List (Key × V)) | dT (kvs : List (List Key × V))
 | set (S : Int -> Bool) (n : Nat)
 | ins (C dx : Addr) (fs : List (Str × V))
 | own (x : Addr)
 | xd (fs : List (Str × V))
 | met (f x : Addr)
 | rng (lo hi : Int)
 | frz (o : Obj) (u : HO)
 | tbl (ps : Array Value)
 | ext (φ : Heap -> Prop)
abbrev Hp := Addr -> Option HO
def upd (H : Hp) (a : Addr) (o : HO) : Hp := fun b => if b = a then some o else H b
theorem ZM {H : Hp} {a : Addr} {o : HO} : upd H a o a = some o := by unfold upd; rw [if_pos rfl]
theorem Zt {H : Hp} {a b : Addr} {o : HO} (h : b ≠ a) : upd H a o b = H b := by unfold upd; rw [if_neg h]
theorem ZiX {H : Hp} {a b : Addr} {o u : HO} (h : H a = some o) (h' : H b = some u) (d : o ≠ u) : a ≠ b := by
 intro e; subst e; rw [h] at h'; exact d (Option.some.inj h')
theorem Yn {H : Hp} {a b : Addr} {o : HO} (h : H a = some o) (h' : H b = none) : a ≠ b := by
 intro e; subst e; rw [h] at h'; cases h'
def TupN (h : Heap) (a : Addr) (its : Array Value) : Prop := ∃ o,h.get? a = some o /\ o.cls = .type "tuple" /\ (∃ n,o.data = .seq its n) /\ o.dict = none
theorem TupN.tup {h : Heap} {a : Addr} {its : Array Value} (x : TupN h a its) : IsTup h a its := let ⟨o,e,c,d,_⟩ := x; ⟨o,e,c,d⟩
theorem TupN.new (h : Heap) (its : Array Value) : TupN (h.push { cls := .type "tuple",data := .seq its }) h.objs.size its := ⟨_,Heap.get?_push_size _ rfl,rfl,⟨_,rfl⟩,rfl⟩
section
variable (P : Program) (w : World)
def ObjOk (H : Hp) (h : Heap) (a : Addr) : HO -> Prop
 | .lst xs => xs.length <= sizeLine /\ ∃ (its : List Value) (n : Nat),Vals xs its /\ h.get? a = some { cls := .type "list",data := .seq its.toArray n }
 | .tup xs => xs.length <= sizeLine /\ ∃ its : List Value,Vals xs its /\ TupN h a its.toArray
 | .dK kvs => kvs.length <= sizeLine /\ (a == sysModules) = false /\ ∃ vs,KV kvs vs /\ h.DictOf (Xc P w) a vs
 | .dT kvs => kvs.length <= sizeLine /\ (a == sysModules) = false /\ ∃ xs : List (List Key × Addr × Value),
  Paired (fun (p : List Key × V) (q : List Key × Addr × Value) => p.1 = q.1 /\ H q.2.1 = some (.tup (p.1.map kV)) /\ RelV p.2 q.2.2) kvs xs /\
  ∃ o es ep,h.get? a = some o /\ o.ExactDict /\ o.data = .dict es ep /\ es.toList = xs.map (entryOfKey (tupleKind (Xc P w))) /\ (xs.map (·.1)).Nodup
 | .set S n => h.SetOf (intKind P w) a S n
 | .ins C dx fs => H dx = some (.own a) /\ fs.length <= 1000 /\ dx ≠ a /\ h.get? a = some (instObj C dx) /\
  ∃ mA,h.Ns1 dx mA /\ (∀ f,RelO (fs.lookup f) (mA f)) /\ PySem.Within mA (fs.map (·.1))
 | .own _ => ∃ o,h.get? a = some o
 | .xd fs => ∃ mA,h.Ns1 a mA /\ ∀ f,RelO (fs.lookup f) (mA f)
 | .rng lo hi => ∃ t u v,h.get? a = some { cls := .type "range",data := .fields #[.int lo t,.int hi u,.int 1 v] }
 | .frz o u => h.get? a = some o /\ ObjOk H h a u
 | .tbl ps => h.get? a = some { cls := .none,data := .fields ps }
 | .met f x => h.get? a = some (PySem.W.methodObj (.ref f) (.ref x))
 | .ext φ => φ h /\ (∃ o,h.get? a = some o) /\ ∀ h1 h2 : Heap,φ h1 -> (∀ o,h1.get? a = some o -> h2.get? a = some o) -> φ h2
def HOk (H : Hp) (h : Heap) : Prop := ∀ a o,H a = some o -> ObjOk P w H h a o
end
section
variable {P : Program} {w : World} {H H' : Hp} {h h' : Heap} {a : Addr} {o : HO}
theorem ObjOk.lt (x : ObjOk P w H h a o) : a < h.objs.size := by
 cases o with
 | lst xs => obtain ⟨_,_,_,_,e⟩ := x; exact Heap.lt_size e
 | tup xs => obtain ⟨_,_,_,p⟩ := x; exact p.tup.lt
 | dK kvs => obtain ⟨_,_,_,_,o,_,_,e,_⟩ := x; exact Heap.lt_size e
 | dT kvs => obtain ⟨_,_,_,_,o,_,_,e,_⟩ := x; exact Heap.lt_size e
 | set S n => obtain ⟨o,_,_,_,e,_⟩ := x; exact Heap.lt_size e
 | ins C dx fs => obtain ⟨_,_,_,e,_⟩ := x; exact Heap.lt_size e
 | own y => obtain ⟨_,e⟩ := x; exact Heap.lt_size e
 | xd fs => obtain ⟨_,⟨_,_,_,e,_⟩,_⟩ := x; exact Heap.lt_size e
 | rng lo hi => obtain ⟨_,_,_,e⟩ := x; exact Heap.lt_size e
 | frz ob u => obtain ⟨e,_⟩ := x; exact Heap.lt_size e
 | tbl ps => exact Heap.lt_size (show h.get? a = some _ from x)
 | met f y => exact Heap.lt_size (show h.get? a = some _ from x)
 | ext φ => obtain ⟨_,⟨_,e⟩,_⟩ := x; exact Heap.lt_size e
theorem Paired.mapP {α β : Type} {F G : α -> β -> Prop} : ∀ {l₁ : List α} {l₂ : List β},Paired F l₁ l₂ -> (∀ a b,F a b -> G a b) -> Paired G l₁ l₂
 | _,_,.nil,_ => .nil
 | _,_,.cons r t,f => .cons (f _ _ r) (Paired.mapP t f)
theorem ObjOk.stay (x : ObjOk P w H h a o) (k : ∀ b u,(b = a \/ H b = some (.own a)) -> h.get? b = some u -> h'.get? b = some u)
 (ho : ∀ b,H b = some (.own a) -> H' b = some (.own a)) (ht : ∀ b xs,H b = some (.tup xs) -> H' b = some (.tup xs)) : ObjOk P w H' h' a o := by
 induction o with
 | lst xs => obtain ⟨z,its,n,r,e⟩ := x; exact ⟨z,its,n,r,k _ _ (.inl rfl) e⟩
 | tup xs => obtain ⟨z,its,r,ob,e,c⟩ := x; exact ⟨z,its,r,ob,k _ _ (.inl rfl) e,c⟩
 | dK kvs => obtain ⟨z,y,vs,r,ob,es,ep,e,c⟩ := x; exact ⟨z,y,vs,r,ob,es,ep,k _ _ (.inl rfl) e,c⟩
 | dT kvs =>
  obtain ⟨z,y,xs,r,ob,es,ep,e,c⟩ := x;exact ⟨z,y,xs,Paired.mapP r fun p q z => ⟨z.1,ht _ _ z.2.1,z.2.2⟩,ob,es,ep,k _ _ (.inl rfl) e,c⟩
 | set S n => obtain ⟨ob,es,ep,t,e,c⟩ := x; exact ⟨ob,es,ep,t,k _ _ (.inl rfl) e,c⟩
 | ins C dx fs =>
  obtain ⟨d,z,ne,e,mA,⟨od,es,ep,e2,c⟩,r⟩ := x;exact ⟨ho _ d,z,ne,k _ _ (.inl rfl) e,mA,⟨od,es,ep,k _ _ (.inr d) e2,c⟩,r⟩
 | own y => obtain ⟨ob,e⟩ := x; exact ⟨ob,k _ _ (.inl rfl) e⟩
 | xd fs => obtain ⟨mA,⟨od,es,ep,e,c⟩,r⟩ := x; exact ⟨mA,⟨od,es,ep,k _ _ (.inl rfl) e,c⟩,r⟩
 | rng lo hi => obtain ⟨t,u,v,e⟩ := x; exact ⟨t,u,v,k _ _ (.inl rfl) e⟩
 | frz ob u ih => obtain ⟨e,q⟩ := x; exact ⟨k _ _ (.inl rfl) e,ih q⟩
 | tbl ps =>
  have e : h.get? a = some { cls := .none,data := .fields ps } := x;show h'.get? a = some { cls := .none,data := .fields ps };exact k a _ (.inl rfl) e
 | met f y =>
  have e : h.get? a = some (PySem.W.methodObj (.ref f) (.ref y)) := x;show h'.get? a = some (PySem.W.methodObj (.ref f) (.ref y));exact k a _ (.inl rfl) e
 | ext φ => obtain ⟨p,⟨o,e⟩,st⟩ := x; exact ⟨st _ _ p fun o q => k _ _ (.inl rfl) q,⟨o,k _ _ (.inl rfl) e⟩,st⟩
theorem HOk.lt (x : HOk P w H h) (e : H a = some o) : a < h.objs.size := (x a o e).lt
theorem HOk.fresh (x : HOk P w H h) (e : h.objs.size <= a) : H a = none := by
 cases q : H a with
 | none => rfl
 | some u => exact absurd (Nat.lt_of_lt_of_le (x.lt q) e) (Nat.lt_irrefl _)
theorem HOk.kept (x : HOk P w H h) (k : ∀ b u,h.get? b = some u -> h'.get? b = some u) : HOk P w H h' := fun a o e =>
 (x a o e).stay (fun b u _ q => k b u q) (fun _ q => q) fun _ _ q => q
theorem HOk.laid (x : HOk P w H h) (k : ∀ b u,h.get? b = some u -> h'.get? b = some u) (hp : h.objs.size <= a) (new : ObjOk P w (upd H a o) h' a o) : HOk P w (upd H a o) h' := fun b u e => by
 have hn := x.fresh hp
 by_cases hb : b = a
 · subst hb; rw [ZM] at e; cases e; exact new
 · rw [Zt hb] at e
   exact (x b u e).stay (fun c v _ q => k c v q) (fun c q => by rw [Zt (Yn q hn)]; exact q) fun c xs q => by rw [Zt (Yn q hn)]; exact q
end
def Rd (H : Hp) (a : Addr) (u : HO) : Prop := H a = some u \/ ∃ o,H a = some (.frz o u)
theorem Rd.ok {P : Program} {w : World} {H : Hp} {h : Heap} {a : Addr} {u : HO} (r : Rd H a u) (x : HOk P w H h) : ObjOk P w H h a u := by
 rcases r with r | ⟨o,r⟩
 · exact x a u r
 · obtain ⟨_,q⟩ := x a _ r
   exact q
def Mut : Option HO -> Prop
 | some (.lst _) => True
 | some (.dK _) => True
 | some (.dT _) => True
 | some (.set _ _) => True
 | some (.ins _ _ _) => True
 | some (.ext _) => True
 | _ => False
section
variable {P : Program} {w : World} {H : Hp} {h h' : Heap} {x e : Addr} {o' : HO}
theorem HOk.write (ok : HOk P w H h) (mu : Mut (H x)) (he : e = x \/ H e = some (.own x)) (k : ∀ b u,b ≠ e -> h.get? b = some u -> h'.get? b = some u) (heo : ∃ u,h'.get? e = some u)
 (new : ObjOk P w (upd H x o') h' x o') : HOk P w (upd H x o') h' := fun b u q => by
 have nown : ∀ c y,H c = some (.own y) -> c ≠ x := fun c y r z => by subst z; rw [r] at mu; exact mu
 have ntup : ∀ c xs,H c = some (.tup xs) -> c ≠ x := fun c xs r z => by subst z; rw [r] at mu; exact mu
 by_cases hb : b = x
 · subst hb; rw [ZM] at q; cases q; exact new
 · rw [Zt hb] at q
   by_cases hbe : b = e
   · have q' : H b = some (.own x) := by
      rcases he with z | z
      · exact absurd (hbe.trans z) hb
      · rw [hbe]; exact z
     rw [q] at q'; cases q';obtain ⟨v,hv⟩ := heo;exact ⟨v,by rw [hbe]; exact hv⟩
   · refine (ok b u q).stay (fun c v hc r => k c v ?_ r) (fun c r => by rw [Zt (nown c b r)]; exact r) fun c xs r => by rw [Zt (ntup c xs r)]; exact r
     rcases hc with rfl | hc
     · exact hbe
     · rintro rfl
       rcases he with z | z
       · exact nown c b hc z
       · rw [hc] at z; cases z; exact hb rfl
end
structure Un (fs ex : List Addr) (H H' : Hp) (h h' : Heap) : Prop where
 keep : ∀ b o,h.get? b = some o -> H b = none -> b ∉ fs -> b ∉ ex -> h'.get? b = some o
 slot : ∀ b o,h.get? b = some o -> H b = none -> b ∈ fs -> b ∉ ex -> ∃ sl,h'.get? b = some { o with slots := sl }
 free : ∀ b o,h.get? b = some o -> H b = none -> b ∉ ex -> H' b = none
 there : ∀ b o,h.get? b = some o -> b ∉ ex -> ∃ o',h'.get? b = some o'
 tups : ∀ b xs,H b = some (.tup xs) -> H' b = some (.tup xs)
 frzs : ∀ b o u,H b = some (.frz o u) -> H' b = some (.frz o u)
 tbls : ∀ b ps,H b = some (.tbl ps) -> ∃ more,H' b = some (.tbl (ps ++ more))
section
variable {fs fs' ex ex' : List Addr} {H H1 H2 : Hp} {h h1 h2 h' : Heap} {a x e : Addr} {o : HO}
theorem Un.any (u : Un fs ex H H1 h h1) {b : Addr} {ob : Obj} (q : h.get? b = some ob) (n : H b = none) (hx : b ∉ ex) : ∃ sl,h1.get? b = some { ob with slots := sl } := by
 by_cases hb : b ∈ fs
 · exact u.slot b ob q n hb hx
 · exact ⟨ob.slots,u.keep b ob q n hb hx⟩
theorem Un.trans (a : Un fs ex H H1 h h1) (b : Un fs ex H1 H2 h1 h2) : Un fs ex H H2 h h2 where
 keep := fun c ob q n hc hx => b.keep c ob (a.keep c ob q n hc hx) (a.free c ob q n hx) hc hx
 slot := fun c ob q n hc hx => by
  obtain ⟨sl,e1⟩ := a.slot c ob q n hc hx;obtain ⟨sl',e2⟩ := b.slot c _ e1 (a.free c ob q n hx) hc hx;exact ⟨sl',e2⟩
 free := fun c ob q n hx => by
  obtain ⟨o',e1⟩ := a.there c ob q hx;exact b.free c o' e1 (a.free c ob q n hx) hx
 there := fun c ob q hx => by
  obtain ⟨o',e1⟩ := a.there c ob q hx;exact b.there c o' e1 hx
 tups := fun c xs q => b.tups c xs (a.tups c xs q)
 frzs := fun c ob xs q => b.frzs c ob xs (a.frzs c ob xs q)
 tbls := fun c ps q => by
  obtain ⟨m1,e1⟩ := a.tbls c ps q;obtain ⟨m2,e2⟩ := b.tbls c _ e1;exact ⟨m1 ++ m2,by rw [e2,Array.append_assoc]⟩
theorem Un.kept (k : ∀ b u,h.get? b = some u -> h'.get? b = some u) : Un fs ex H H h h' :=
 ⟨fun b ob q _ _ _ => k b ob q,fun b ob q _ _ _ => ⟨ob.slots,k b ob q⟩,fun _ _ _ n _ => n,fun b ob q _ => ⟨ob,k b ob q⟩,fun _ _ q => q,fun _ _ _ q => q,fun _ ps q => ⟨#[],by rw [q]; simp⟩⟩
theorem Un.refl : Un fs ex H H h h := Un.kept fun _ _ q => q
theorem Un.laid (k : ∀ b u,h.get? b = some u -> h'.get? b = some u) (hp : h.objs.size <= a) (hn : H a = none) : Un fs ex H (upd H a o) h h' where
 keep := fun b u q _ _ _ => k b u q
 slot := fun b u q _ _ _ => ⟨u.slots,k b u q⟩
 free := fun b u q n _ => by rw [Zt (Nat.ne_of_lt (Nat.lt_of_lt_of_le (Heap.lt_size q) hp))]; exact n
 there := fun b u q _ => ⟨u,k b u q⟩
 tups := fun b xs q => by rw [Zt (Yn q hn)]; exact q
 frzs := fun b u xs q => by rw [Zt (Yn q hn)]; exact q
 tbls := fun b ps q => ⟨#[],by rw [Zt (Yn q hn),q]; simp⟩
theorem Un.write (mu : Mut (H x)) (he : e = x \/ H e = some (.own x)) (k : ∀ b u,b ≠ e -> h.get? b = some u -> h'.get? b = some u) (heo : ∃ u,h'.get? e = some u) : Un fs ex H (upd H x o) h h' := by
 have hx : ∀ b,H b = none -> b ≠ x := fun b n z => by subst z; rw [n] at mu; exact mu
 have hb : ∀ b,H b = none -> b ≠ e := fun b n z => by
  subst z;rcases he with r | r
  · exact hx b n r
  · rw [n] at r; cases r
 have hm : ∀ b u,H b = some u -> ¬ Mut (some u) -> b ≠ x := fun b u q nm z => by subst z; rw [q] at mu; exact nm mu
 refine ⟨fun b u q n _ _ => k b u (hb b n) q,fun b u q n _ _ => ⟨u.slots,k b u (hb b n) q⟩,fun b u q n _ => by rw [Zt (hx b n)]; exact n,fun b u q _ => ?_,
  fun b xs q => by rw [Zt (hm b _ q fun z => z)]; exact q,fun b u xs q => by rw [Zt (hm b _ q fun z => z)]; exact q,fun b ps q => ⟨#[],by rw [Zt (hm b _ q fun z => z),q]; simp⟩⟩
 by_cases hbe : b = e
 · subst hbe; exact heo
 · exact ⟨u,k b u hbe q⟩
end
def trk (h : Heap) (H : Hp) : List Addr := (List.range h.objs.size).filter fun a => (H a).isSome
def Vg (h : Heap) (H : Hp) : Heap := PySem.W.hideAll h (trk h H)
theorem ZdX (h : Heap) (H : Hp) : (Vg h H).objs.size = h.objs.size := PySem.W.hideAll_size _ _
theorem ZeA {h : Heap} {H : Hp} {b : Addr} {o : Obj} (e : h.get? b = some o) (n : H b = none) : (Vg h H).get? b = some o :=
 PySem.W.hideAll_get _ e fun hm => by
  have q : (H b).isSome = true := (List.mem_filter.mp hm).2;rw [n] at q; simp at q
theorem Zf4 {h : Heap} {H : Hp} {b : Addr} {o : Obj} (e : (Vg h H).get? b = some o) : h.get? b = some o /\ H b = none := by
 have e' : h.get? b = some o := PySem.W.of_hideAll (trk h H) e;refine ⟨e',?_⟩;cases q : H b with
 | none => rfl
 | some x =>
  have hm : b ∈ trk h H := List.mem_filter.mpr ⟨List.mem_range.mpr (Heap.lt_size e'),by simp [q]⟩;have z : (Vg h H).get? b = none := PySem.W.hideAll_none (trk h H) hm;rw [z] at e; cases e
end L2
namespace L2
open PySem PySem.Spec PyProof.Rows
structure Mod (K : PySem.W.Frag) (mg : Str -> Option Value) (base : Heap) : Prop where
 kin : K.In base
 glob : base.Ns mainGlobals mg
 blt : ∃ mb,base.Ns builtinsNs mb /\ ∀ x : Str,x ≠ "__name__" -> mb x = bootBuiltins x
 nolimit : base.NoLimit
structure Cx where
 prog : Program
 w : World
 K : PySem.W.Frag
 mg : Str -> Option Value
 base : Heap
 A : Around
 N : List Str
 s₀ : Shared
 H₀ : Hp
 env : Env
 outer : List Env
 stack : List Env
 ex : List Addr
 fn : Str -> Bool
 calm : Bool
 pn : List (Addr × Obj)
 xe : Value -> Shared -> Prop
def frs (l : List Env) : List Addr := l.filterMap (·.frame)
abbrev Cx.fs (X : Cx) : List Addr := frs X.outer
def Vis (sc : Scope) (x : Str) : Prop := sc.names.lookup x = some .local \/ sc.names.lookup x = some .cell \/ sc.names.lookup x = some .free
def Loc (sc : Scope) (x : Str) : Prop := sc.names.lookup x = some .local \/ sc.names.lookup x = some .cell
def Zkp (env : Env) (h : Heap) (m : Str -> Option Value) (x : Str) (u : Value) : Prop :=
 (env.kindOf x = some .local /\ m x = some u) \/ ((env.kindOf x = some .cell \/ env.kindOf x = some .free) /\ ∃ c,env.cells.lookup x = some c /\ h.IsCell c (some u))
structure Cx.Ok (X : Cx) : Prop where
 mod : Mod X.K X.mg X.base
 kind : X.env.scope.kind = .function
 glob : X.env.globals = mainGlobals
 blt : X.env.builtins = builtinsNs
 above : X.s₀.heap.objs.size <= X.env.locals
 inj : ∀ x y c,X.env.cells.lookup x = some c -> X.env.cells.lookup y = some c -> x = y
 has : ∀ x,(X.env.kindOf x = some .cell \/ X.env.kindOf x = some .free) -> ∃ c,X.env.cells.lookup x = some c
 cab : ∀ x c,X.fn x = true -> X.env.cells.lookup x = some c -> X.s₀.heap.objs.size <= c
 hd : X.calm = true -> X.A.handled = none
 frames : X.A.frames = some X.stack
 stk : X.stack = X.outer \/ (X.stack = X.env :: X.outer /\ X.env.frame = some X.env.locals)
 exf : ∀ b ∈ X.ex,b ≠ X.env.locals /\ ∀ x c,X.env.cells.lookup x = some c -> c ≠ b
 bs : ∀ b o,X.base.get? b = some o -> X.s₀.heap.get? b = some o /\ X.H₀ b = none
 bsz : X.base.objs.size <= X.s₀.heap.objs.size
 noex : ∀ b o,X.base.get? b = some o -> b ∉ X.ex
 exfs : ∀ b ∈ X.ex,b ∉ X.fs
 funs : X.s₀.heap.FunFrames X.base X.outer
 frf : ∀ b ∈ X.fs,X.H₀ b = none
structure Inv (X : Cx) (pins : List (Addr × Obj)) (σ : List (Option V)) (H : Hp) (s : Shared) : Prop where
 ok : X.Ok
 os : s.os = X.s₀.os
 bare : AllBare s.gens
 base : Un X.fs X.ex X.H₀ H X.s₀.heap s.heap
 loc : ∃ m,s.heap.Ns X.env.locals m /\ ∀ (i : Nat) (x : Str) (v : V),X.N[i]? = some x -> σ[i]? = some (some v) -> Vis X.env.scope x -> ∃ u,RelV v u /\ Zkp X.env s.heap m x u
 cell : ∀ x c,X.env.cells.lookup x = some c -> ∃ v,s.heap.IsCell c v
 free : H X.env.locals = none
 freeC : ∀ x c,X.env.cells.lookup x = some c -> H c = none
 pin : ∀ p ∈ X.pn ++ pins,s.heap.get? p.1 = some p.2 /\ H p.1 = none /\ p.1 ≠ X.env.locals /\ p.1 ∉ X.fs /\ ∀ v,p.2.data ≠ .cell v
 hok : HOk X.prog X.w H s.heap
 len : σ.length = X.N.length
section
variable {X : Cx} {pins : List (Addr × Obj)} {σ : List (Option V)} {H H' : Hp} {s : Shared} {h' : Heap}
theorem Cx.Ok.nofr (ok : X.Ok) {b : Addr} {o : Obj} (e : X.base.get? b = some o) : b ∉ X.fs := fun hb => by
 have := (ok.funs.mem hb).1;rw [e] at this; cases this
theorem Inv.bs (I : Inv X pins σ H s) : ∀ b o,X.base.get? b = some o -> s.heap.get? b = some o /\ H b = none := fun b o e =>
 ⟨I.base.keep b o (I.ok.bs b o e).1 (I.ok.bs b o e).2 (I.ok.nofr e) (I.ok.noex b o e),I.base.free b o (I.ok.bs b o e).1 (I.ok.bs b o e).2 (I.ok.noex b o e)⟩
theorem Inv.bk (I : Inv X pins σ H s) : ∀ b o,X.base.get? b = some o -> s.heap.get? b = some o := fun b o e => (I.bs b o e).1
theorem Inv.mod (I : Inv X pins σ H s) : Mod X.K X.mg X.base := I.ok.mod
theorem Inv.kIn (I : Inv X pins σ H s) : X.K.In s.heap := I.ok.mod.kin.keeps I.bk
theorem Inv.nolimit (I : Inv X pins σ H s) : s.heap.NoLimit := I.ok.mod.nolimit.keeps I.bk
theorem Inv.fr (I : Inv X pins σ H s) : ∃ m,Fr X.base X.env.locals s.heap m :=
 let ⟨m,hn,_⟩ := I.loc
 ⟨m,hn,I.bk,Nat.le_trans I.ok.bsz I.ok.above⟩
theorem Inv.lt (I : Inv X pins σ H s) : X.env.locals < s.heap.objs.size := let ⟨_,hn,_⟩ := I.loc; hn.lt
theorem Inv.sz (I : Inv X pins σ H s) : X.s₀.heap.objs.size <= s.heap.objs.size := Nat.le_trans I.ok.above (Nat.le_of_lt I.lt)
theorem Inv.nofs (I : Inv X pins σ H s) {a : Addr} (h : s.heap.objs.size <= a) : a ∉ X.fs := fun hb => by
 obtain ⟨_,o,ho,_⟩ := I.ok.funs.mem hb;exact absurd (Nat.lt_of_lt_of_le (Heap.lt_size ho) (Nat.le_trans I.sz h)) (Nat.lt_irrefl _)
theorem Inv.cne (I : Inv X pins σ H s) : ∀ x c,X.env.cells.lookup x = some c -> c ≠ X.env.locals := fun x c e z => by
 obtain ⟨v,o,ho,hd⟩ := I.cell x c e;obtain ⟨m,⟨o',es,ep,ho',hd',_⟩,_⟩ := I.loc;rw [z,ho'] at ho; cases ho; rw [hd'] at hd; cases hd
theorem Inv.funs (I : Inv X pins σ H s) : s.heap.FunFrames X.base X.outer := by
 have all : ∀ (l : List Env),(∀ b ∈ frs l,b ∈ X.fs) -> X.s₀.heap.FunFrames X.base l -> s.heap.FunFrames X.base l := by
  intro l
  induction l with
  | nil => intro _ _; trivial
  | cons env r ih =>
   intro hs hl;obtain ⟨hk,⟨L,o,hf,hn,ho,hd⟩,hr⟩ := hl;have hL : L ∈ X.fs := hs L (by unfold frs; rw [List.filterMap_cons,hf]; exact List.mem_cons_self);obtain ⟨sl,e⟩ := I.base.slot L o ho (I.ok.frf L hL) hL fun z => I.ok.exfs L z hL
   exact ⟨hk,⟨L,_,hf,hn,e,hd⟩,ih (fun b hb => hs b (by unfold frs; rw [List.filterMap_cons,hf]; exact List.mem_cons_of_mem _ hb)) hr⟩
 exact all X.outer (fun _ hb => hb) I.ok.funs
theorem Inv.stack (I : Inv X pins σ H s) : s.heap.FunFrames X.base X.stack := by
 rcases I.ok.stk with e | ⟨e,hf⟩
 · rw [e]; exact I.funs
 · rw [e]
   obtain ⟨m,hn,_⟩ := I.loc;refine .cons (by rw [I.ok.kind]; decide) hf hn ?_ I.funs;exact Heap.get?_none_of_le (Nat.le_trans I.ok.bsz I.ok.above)
theorem Inv.stkSub (I : Inv X pins σ H s) : ∀ b ∈ frs X.stack,b ∈ X.env.locals :: X.fs := fun b hb => by
 rcases I.ok.stk with e | ⟨e,hf⟩
 · rw [e] at hb; exact List.mem_cons_of_mem _ hb
 · rw [e] at hb
   unfold frs at hb;rw [List.filterMap_cons,hf] at hb;exact hb
theorem Inv.stkFree (I : Inv X pins σ H s) : ∀ b ∈ frs X.stack,H b = none := fun b hb => by
 rcases List.mem_cons.mp (I.stkSub b hb) with e | hb
 · rw [e]; exact I.free
 · obtain ⟨_,o,ho,_⟩ := I.ok.funs.mem hb
   exact I.base.free b o ho (I.ok.frf b hb) fun z => I.ok.exfs b z hb
theorem Inv.step {g' : Array GenState} {t' : Nat} {d' : Drawn} {ch : List Addr} (I : Inv X pins σ H s)
 (hch : ∀ b ∈ ch,(b ∈ X.ex \/ X.s₀.heap.objs.size <= b) /\ b ≠ X.env.locals /\ (∀ x c,X.env.cells.lookup x = some c -> c ≠ b) /\ ∀ p ∈ X.pn ++ pins,p.1 ≠ b)
 (keep : ∀ b o,b ≠ X.env.locals -> b ∉ X.fs -> b ∉ ch -> s.heap.get? b = some o -> H b = none -> h'.get? b = some o)
 (slot : ∀ b o,b ≠ X.env.locals -> b ∈ X.fs -> b ∉ ch -> s.heap.get? b = some o -> H b = none -> ∃ sl,h'.get? b = some { o with slots := sl }) (free : ∀ b o,b ∉ ch -> s.heap.get? b = some o -> H b = none -> H' b = none)
 (there : ∀ b o,b ∉ ch -> s.heap.get? b = some o -> ∃ o',h'.get? b = some o')
 (tups : ∀ b xs,H b = some (.tup xs) -> H' b = some (.tup xs)) (frzs : ∀ b o u,H b = some (.frz o u) -> H' b = some (.frz o u)) (tbls : ∀ b ps,H b = some (.tbl ps) -> ∃ more,H' b = some (.tbl (ps ++ more)))
 (ns : ∀ m,s.heap.Ns X.env.locals m -> h'.Ns X.env.locals m) (hok : HOk X.prog X.w H' h') (hg : AllBare g') :
 Inv X pins σ H' { s with heap := h',gens := g',drawn := d',toks := t' } := by
 have neL : ∀ b o,X.s₀.heap.get? b = some o -> b ≠ X.env.locals := fun b o e => Nat.ne_of_lt (Nat.lt_of_lt_of_le (Heap.lt_size e) I.ok.above)
 have neC : ∀ b o,X.s₀.heap.get? b = some o -> b ∉ X.ex -> b ∉ ch := fun b o e hx hb => by
  rcases (hch b hb).1 with z | z
  · exact hx z
  · exact absurd (Nat.lt_of_lt_of_le (Heap.lt_size e) z) (Nat.lt_irrefl _)
 have cellK : ∀ x c,X.env.cells.lookup x = some c -> ∀ v,s.heap.IsCell c v -> h'.IsCell c v := fun x c e v ⟨o,ho,hd⟩ => by
  have nch : c ∉ ch := fun z => (hch c z).2.2.1 x c e rfl
  by_cases hc : c ∈ X.fs
  · obtain ⟨sl,q⟩ := slot c o (I.cne x c e) hc nch ho (I.freeC x c e)
    exact ⟨_,q,hd⟩
  · exact ⟨o,keep c o (I.cne x c e) hc nch ho (I.freeC x c e),hd⟩
 refine ⟨I.ok,I.os,hg,⟨fun b o e n hb hx => ?_,fun b o e n hb hx => ?_,fun b o e n hx => ?_,fun b o e hx => ?_,fun b xs e => tups b xs (I.base.tups b xs e),fun b o xs e => frzs b o xs (I.base.frzs b o xs e),fun b ps e => ?_⟩,?_,fun x c e => ?_,?_,fun x c e => ?_,fun p hp => ?_,hok,I.len⟩
 · exact keep b o (neL b o e) hb (neC b o e hx) (I.base.keep b o e n hb hx) (I.base.free b o e n hx)
 · obtain ⟨sl,e1⟩ := I.base.slot b o e n hb hx
   obtain ⟨sl',e2⟩ := slot b _ (neL b o e) hb (neC b o e hx) e1 (I.base.free b o e n hx);exact ⟨sl',e2⟩
 · obtain ⟨o',e1⟩ := I.base.there b o e hx
   exact free b o' (neC b o e hx) e1 (I.base.free b o e n hx)
 · obtain ⟨o',e1⟩ := I.base.there b o e hx
   exact there b o' (neC b o e hx) e1
 · obtain ⟨m1,e1⟩ := I.base.tbls b ps e
   obtain ⟨m2,e2⟩ := tbls b _ e1;exact ⟨m1 ++ m2,by rw [e2,Array.append_assoc]⟩
 · obtain ⟨m,hn,hl⟩ := I.loc
   refine ⟨m,ns m hn,fun i x v e1 e2 e3 => ?_⟩;obtain ⟨u,r,l⟩ := hl i x v e1 e2 e3;refine ⟨u,r,?_⟩;rcases l with l | ⟨k,c,e,z⟩
   · exact .inl l
   · exact .inr ⟨k,c,e,cellK x c e _ z⟩
 · obtain ⟨v,z⟩ := I.cell x c e
   exact ⟨v,cellK x c e v z⟩
 · obtain ⟨m,⟨o,_,_,ho,_⟩,_⟩ := I.loc
   exact free _ o (fun z => (hch _ z).2.1 rfl) ho I.free
 · obtain ⟨v,o,ho,hd⟩ := I.cell x c e
   exact free c o (fun z => (hch c z).2.2.1 x c e rfl) ho (I.freeC x c e)
 · obtain ⟨e,n,ne,nf,d⟩ := I.pin p hp
   have nch : p.1 ∉ ch := fun z => (hch p.1 z).2.2.2 p hp rfl
   exact ⟨keep p.1 p.2 ne nf nch e n,free p.1 p.2 nch e n,ne,nf,d⟩
theorem Inv.un {t' : Nat} (I : Inv X pins σ H s) (u : Un X.fs [] H H' s.heap h') (hok : HOk X.prog X.w H' h') : Inv X pins σ H' { s with heap := h',toks := t' } := by
 obtain ⟨m,⟨o,es,ep,ho,r⟩,_⟩ := id I.loc;obtain ⟨sl,hL⟩ := u.any ho I.free (by simp)
 exact I.step (g' := s.gens) (d' := s.drawn) (ch:=[]) (fun _ z => nomatch z) (fun b o _ hb _ e n => u.keep b o e n hb (by simp)) (fun b o _ hb _ e n => u.slot b o e n hb (by simp)) (fun b o _ e n => u.free b o e n (by simp)) (fun b o _ e => u.there b o e (by simp)) u.tups u.frzs u.tbls (fun m' hm => by
  obtain ⟨o',es',ep',ho',r'⟩ := hm;rw [ho] at ho'; cases ho';exact ⟨_,es',ep',hL,r'⟩) hok I.bare
theorem Inv.call {g' : Array GenState} {t' : Nat} {d' : Drawn} {ch : List Addr} (I : Inv X pins σ H s) (u : Un (frs X.stack) ch H H' s.heap h') (hok : HOk X.prog X.w H' h') (hg : AllBare g')
 (hch : ∀ b ∈ ch,(b ∈ X.ex \/ X.s₀.heap.objs.size <= b) /\ b ≠ X.env.locals /\ (∀ x c,X.env.cells.lookup x = some c -> c ≠ b) /\ ∀ p ∈ X.pn ++ pins,p.1 ≠ b) :
 Inv X pins σ H' { s with heap := h',gens := g',drawn := d',toks := t' } := by
 obtain ⟨m,⟨o,es,ep,ho,r⟩,_⟩ := id I.loc;obtain ⟨sl,hL⟩ := u.any ho I.free fun z => (hch _ z).2.1 rfl
 exact I.step (ch:=ch) hch (fun b o hL hb hc e n => u.keep b o e n (fun z => (List.mem_cons.mp (I.stkSub b z)).elim hL hb) hc) (fun b o _ _ hc e n => u.any e n hc) (fun b o hc e n => u.free b o e n hc) (fun b o hc e => u.there b o e hc) u.tups u.frzs u.tbls (fun m' hm => by
  obtain ⟨o',es',ep',ho',r'⟩ := hm;rw [ho] at ho'; cases ho';exact ⟨_,es',ep',hL,r'⟩) hok hg
theorem Inv.turned {t' : Nat} {it : Addr} (I : Inv X pins σ H s) (k : ∀ b o,b ≠ it -> s.heap.get? b = some o -> h'.get? b = some o) (hn : H it = none) (hL : it ≠ X.env.locals)
 (h1 : it ∈ X.ex \/ X.s₀.heap.objs.size <= it) (h2 : ∀ x c,X.env.cells.lookup x = some c -> c ≠ it) (h3 : ∀ p ∈ X.pn ++ pins,p.1 ≠ it) : Inv X pins σ H { s with heap := h',toks := t' } := by
 have nit : ∀ b u,H b = some u -> b ≠ it := fun b u e z => by rw [z,hn] at e; cases e
 refine I.step (g' := s.gens) (d' := s.drawn) (ch:=[it]) (fun b hb => ?_) (fun b o _ _ hc e _ => k b o (fun z => hc (by simp [z])) e) (fun b o _ _ hc e _ => ⟨o.slots,k b o (fun z => hc (by simp [z])) e⟩) (fun _ _ _ _ n => n)
  (fun b o hc e => ⟨o,k b o (fun z => hc (by simp [z])) e⟩) (fun _ _ e => e) (fun _ _ _ e => e) (fun b ps e => ⟨#[],by rw [e]; simp⟩) (fun m hm => ?_) (fun b u e => ?_) I.bare
 · have e : b = it := by simpa using hb
   subst e;exact ⟨h1,hL,h2,h3⟩
 · obtain ⟨o,es,ep,ho,r⟩ := hm
   exact ⟨o,es,ep,k _ o (Ne.symm hL) ho,r⟩
 · refine (I.hok b u e).stay (fun c v hc q => k c v ?_ q) (fun _ q => q) fun _ _ q => q
   rcases hc with z | z
   · rw [z]; exact nit b u e
   · exact nit c _ z
theorem Inv.tok (I : Inv X pins σ H s) (t : Nat) : Inv X pins σ H { s with toks := t } := I.un (h' := s.heap) (t' := t) Un.refl I.hok
theorem Inv.kept {t' : Nat} (I : Inv X pins σ H s) (k : ∀ b u,s.heap.get? b = some u -> h'.get? b = some u) : Inv X pins σ H { s with heap := h',toks := t' } := I.un (Un.kept k) (I.hok.kept k)
theorem Inv.laid {a : Addr} {o : HO} {t' : Nat} (I : Inv X pins σ H s) (k : ∀ b u,s.heap.get? b = some u -> h'.get? b = some u) (hp : s.heap.objs.size <= a) (new : ObjOk X.prog X.w (upd H a o) h' a o) :
 Inv X pins σ (upd H a o) { s with heap := h',toks := t' } := I.un (Un.laid k hp (I.hok.fresh hp)) (I.hok.laid k hp new)
theorem Inv.write {x e : Addr} {o : HO} {t' : Nat} (I : Inv X pins σ H s) (mu : Mut (H x)) (he : e = x \/ H e = some (.own x)) (k : ∀ b u,b ≠ e -> s.heap.get? b = some u -> h'.get? b = some u) (heo : ∃ u,h'.get? e = some u)
 (new : ObjOk X.prog X.w (upd H x o) h' x o) : Inv X pins σ (upd H x o) { s with heap := h',toks := t' } := I.un (Un.write mu he k heo) (I.hok.write mu he k heo new)
theorem Inv.pins_of {pins' : List (Addr × Obj)} (I : Inv X pins σ H s) (h : ∀ p ∈ pins',s.heap.get? p.1 = some p.2 /\ H p.1 = none /\ p.1 ≠ X.env.locals /\ p.1 ∉ X.fs /\ ∀ v,p.2.data ≠ .cell v) : Inv X pins' σ H s :=
 ⟨I.ok,I.os,I.bare,I.base,I.loc,I.cell,I.free,I.freeC,fun p hp => (List.mem_append.mp hp).elim (fun z => I.pin p (List.mem_append_left _ z)) (h p),I.hok,I.len⟩
theorem J0 {N : List Str} (hN : N.Nodup) {i j : Nat} {x : Str} (a : N[i]? = some x) (b : N[j]? = some x) : i = j := by
 obtain ⟨h1,e1⟩ := List.getElem?_eq_some_iff.mp a;obtain ⟨h2,e2⟩ := List.getElem?_eq_some_iff.mp b;exact (List.getElem_inj hN).mp (e1.trans e2.symm)
theorem ZaY {M : Model} {A : Around} {E : Value -> Shared -> Prop} {i : Nat} {x : Str} {v : V} {u : Value} {Q : Unit -> Shared -> Prop} (I : Inv X pins σ H s) (hN : X.N.Nodup) (hi : X.N[i]? = some x) (hx : Loc X.env.scope x) (r : RelV v u)
 (h : ∀ s',Inv X pins (σ.set i (some v)) H s' -> (∃ a,Heap.SameBut a s.heap s'.heap /\ (a = X.env.locals \/ X.env.cells.lookup x = some a)) -> Q () s') (hf : X.fn x = true \/ X.env.scope.names.lookup x = some .local := by first | exact .inl rfl | exact .inr rfl | assumption) : wpAny M A (storeName X.env x u) Q E s := by
 obtain ⟨m,hn,hl⟩ := id I.loc;have hcls : (X.env.scope.kind == .class || (X.env.scope.kind == .module && X.env.locals != X.env.globals)) = false := by rw [I.ok.kind]; rfl
 have hiσ : i < σ.length := by rw [I.len]; exact (List.getElem?_eq_some_iff.mp hi).1
 have cne := I.cne
 have tracked : ∀ {a : Addr} {h' : Heap},(∃ o,s.heap.get? a = some o /\ H a = none) -> Heap.SameBut a s.heap h' -> HOk X.prog X.w H h' := fun {a h'} ha hs b ob e => by
  obtain ⟨_,_,hfree⟩ := ha;refine (I.hok b ob e).stay (fun c w' hc q => (hs.2 c ?_).trans q) (fun _ q => q) fun _ _ q => q
  rintro rfl
  rcases hc with rfl | hc
  · rw [hfree] at e; cases e
  · rw [hfree] at hc; cases hc
 rcases hx with hk | hk
 · refine wpAny_storeName_local hk hn (fun h' hn' hs => ?_) hcls
   obtain ⟨oL,_,_,hoL,_⟩ := id hn;refine h _ ⟨I.ok,I.os,I.bare,⟨fun b o e n hb hx => ?_,fun b o e n hb hx => ?_,I.base.free,fun b o e hx => ?_,I.base.tups,I.base.frzs,I.base.tbls⟩,⟨_,hn',fun j y v' e1 e2 e3 => ?_⟩,fun y c e => ?_,I.free,I.freeC,fun p hp => ?_,tracked ⟨oL,hoL,I.free⟩ hs,by simpa using I.len⟩ ⟨_,hs,.inl rfl⟩
   · exact (hs.2 b (Nat.ne_of_lt (Nat.lt_of_lt_of_le (Heap.lt_size e) I.ok.above))).trans (I.base.keep b o e n hb hx)
   · obtain ⟨sl,e1⟩ := I.base.slot b o e n hb hx
     exact ⟨sl,(hs.2 b (Nat.ne_of_lt (Nat.lt_of_lt_of_le (Heap.lt_size e) I.ok.above))).trans e1⟩
   · obtain ⟨o',e1⟩ := I.base.there b o e hx
     exact ⟨o',(hs.2 b (Nat.ne_of_lt (Nat.lt_of_lt_of_le (Heap.lt_size e) I.ok.above))).trans e1⟩
   · by_cases hj : j = i
     · subst hj
       rw [hi] at e1; cases e1;rw [List.getElem?_set_self hiσ] at e2;cases e2;exact ⟨u,r,.inl ⟨hk,by simp⟩⟩
     · rw [List.getElem?_set_ne (Ne.symm hj)] at e2
       obtain ⟨u',r',q⟩ := hl j y v' e1 e2 e3;refine ⟨u',r',?_⟩;rcases q with ⟨k,e⟩ | ⟨k,c,e,z⟩
       · refine .inl ⟨k,?_⟩
         have : y ≠ x := fun e => hj (J0 hN e1 (e ▸ hi))
         simp [this,e]
       · exact .inr ⟨k,c,e,z.sameBut hs (cne y c e)⟩
   · obtain ⟨w',z⟩ := I.cell y c e
     exact ⟨w',z.sameBut hs (cne y c e)⟩
   · obtain ⟨e,n,ne,nf,d⟩ := I.pin p hp
     exact ⟨(hs.2 p.1 ne).trans e,n,ne,nf,d⟩
 · have hfn : X.fn x = true := by
    rcases hf with z | z
    · exact z
    · rw [z] at hk; cases hk
   obtain ⟨c,hc⟩ := I.ok.has x (.inl hk);obtain ⟨w',z⟩ := I.cell x c hc;refine wpAny_storeName_cell I.ok.kind hk hc z (fun h' hc' hs => ?_);obtain ⟨oc,hoc,hocd⟩ := id z;refine h { s with heap := h' } ⟨I.ok,I.os,I.bare,⟨fun b o e n hb hx => ?_,fun b o e n hb hx => ?_,I.base.free,fun b o e hx => ?_,I.base.tups,I.base.frzs,I.base.tbls⟩,⟨m,hn.sameBut hs (Ne.symm (cne x c hc)),fun j y v' e1 e2 e3 => ?_⟩,fun y c' e => ?_,I.free,I.freeC,fun p hp => ?_,tracked ⟨oc,hoc,I.freeC x c hc⟩ hs,by simpa using I.len⟩ ⟨c,hs,.inr hc⟩
   · exact (hs.2 b (Nat.ne_of_lt (Nat.lt_of_lt_of_le (Heap.lt_size e) (I.ok.cab x c hfn hc)))).trans (I.base.keep b o e n hb hx)
   · obtain ⟨sl,e1⟩ := I.base.slot b o e n hb hx
     exact ⟨sl,(hs.2 b (Nat.ne_of_lt (Nat.lt_of_lt_of_le (Heap.lt_size e) (I.ok.cab x c hfn hc)))).trans e1⟩
   · obtain ⟨o',e1⟩ := I.base.there b o e hx
     exact ⟨o',(hs.2 b (Nat.ne_of_lt (Nat.lt_of_lt_of_le (Heap.lt_size e) (I.ok.cab x c hfn hc)))).trans e1⟩
   · by_cases hj : j = i
     · subst hj
       rw [hi] at e1; cases e1;rw [List.getElem?_set_self hiσ] at e2;cases e2;exact ⟨u,r,.inr ⟨.inl hk,c,hc,hc'⟩⟩
     · rw [List.getElem?_set_ne (Ne.symm hj)] at e2
       obtain ⟨u',r',q⟩ := hl j y v' e1 e2 e3;refine ⟨u',r',?_⟩;rcases q with q | ⟨k,c',e,z'⟩
       · exact .inl q
       · refine .inr ⟨k,c',e,z'.sameBut hs ?_⟩
         rintro rfl
         exact hj (J0 hN e1 (I.ok.inj _ _ _ e hc ▸ hi))
   · by_cases hcc : c' = c
     · subst hcc; exact ⟨_,hc'⟩
     · obtain ⟨w2,z2⟩ := I.cell y c' e
       exact ⟨w2,z2.sameBut hs hcc⟩
   · obtain ⟨e,n,ne,nf,d⟩ := I.pin p hp
     refine ⟨(hs.2 p.1 ?_).trans e,n,ne,nf,d⟩;intro q;rw [q,hoc] at e;have q' : oc = p.2 := Option.some.inj e;exact d w' (by rw [<- q']; exact hocd)
theorem J4 {M : Model} {A : Around} {E : Value -> Shared -> Prop} {i : Nat} {x : Str} {v : V} {u : Value} {Q : Unit -> Shared -> Prop} (I : Inv X pins σ H s) (hN : X.N.Nodup) (hi : X.N[i]? = some x) (hx : Loc X.env.scope x) (r : RelV v u)
 (h : ∀ s',Inv X pins (σ.set i (some v)) H s' -> Q () s') (hf : X.fn x = true \/ X.env.scope.names.lookup x = some .local := by first | exact .inl rfl | exact .inr rfl | assumption) : wpAny M A (storeName X.env x u) Q E s :=
 ZaY I hN hi hx r (fun s' I' _ => h s' I') hf
theorem Inv.call' {s' : Shared} {ch : List Addr} (I : Inv X pins σ H s) (ho : s'.os = s.os) (u : Un (frs X.stack) ch H H' s.heap s'.heap) (hok : HOk X.prog X.w H' s'.heap) (hg : AllBare s'.gens)
 (hch : ∀ b ∈ ch,(b ∈ X.ex \/ X.s₀.heap.objs.size <= b) /\ b ≠ X.env.locals /\ (∀ x c,X.env.cells.lookup x = some c -> c ≠ b) /\ ∀ p ∈ X.pn ++ pins,p.1 ≠ b) : Inv X pins σ H' s' := by
 obtain ⟨h',g',d',t',o'⟩ := s';have e : o' = s.os := ho;subst e;exact I.call (g' := g') (t' := t') (d' := d') u hok hg hch
end
abbrev XK := Value -> Option Addr -> Hp -> Prop
abbrev St := List (Option V)
abbrev VK := V -> Hp -> Prop
abbrev TE := St -> Hp -> VK -> Prop
abbrev TT := St -> Hp -> (Bool -> Hp -> Prop) -> Prop
abbrev TA := St -> Hp -> (List V -> Hp -> Prop) -> Prop
structure Ends where
 nx : St -> Hp -> Prop
 rt : VK
 bk : St -> Hp -> Prop := fun _ _ => False
 ct : St -> Hp -> Prop := fun _ _ => False
abbrev TS := Ends -> St -> Hp -> Prop
def EP (X : Cx) (pins : List (Addr × Obj)) (σ : St) (Q : VK) (u : Value) (s' : Shared) : Prop := ∃ v H',Inv X pins σ H' s' /\ RelV v u /\ Q v H'
def TP (X : Cx) (pins : List (Addr × Obj)) (σ : St) (Q : Bool -> Hp -> Prop) (b : Bool) (s' : Shared) : Prop := ∃ H',Inv X pins σ H' s' /\ Q b H'
def AP (X : Cx) (pins : List (Addr × Obj)) (σ : St) (Q : List V -> Hp -> Prop) (us : List Value) (s' : Shared) : Prop := ∃ vs H',Inv X pins σ H' s' /\ Vals vs us /\ Q vs H'
def SP (X : Cx) (pins : List (Addr × Obj)) (D : Ends) (f : Flow) (s' : Shared) : Prop :=
 match f with
 | .next => ∃ σ' H',Inv X pins σ' H' s' /\ D.nx σ' H'
 | .brk => ∃ σ' H',Inv X pins σ' H' s' /\ D.bk σ' H'
 | .cont => ∃ σ' H',Inv X pins σ' H' s' /\ D.ct σ' H'
 | .ret u => ∃ v σ' H',Inv X pins σ' H' s' /\ RelV v u /\ D.rt v H'
def PE (X : Cx) (e : Expr) (t : TE) : Prop :=
 ∀ (pins : List (Addr × Obj)) (s : Shared) (σ : St) (H : Hp) (Q : VK),Inv X pins σ H s -> t σ H Q -> wpAny (model X.prog X.w) X.A (eval e X.env) (EP X pins σ Q) X.xe s
def PT (X : Cx) (e : Expr) (t : TT) : Prop :=
 ∀ (pins : List (Addr × Obj)) (s : Shared) (σ : St) (H : Hp) (Q : Bool -> Hp -> Prop),Inv X pins σ H s -> t σ H Q -> wpAny (model X.prog X.w) X.A (isTrue e X.env (eval e X.env)) (TP X pins σ Q) X.xe s
def PW (X : Cx) (e : Expr) (t : TT) : Prop :=
 ∀ (whole : Sem Value) (pins : List (Addr × Obj)) (s : Shared) (σ : St) (H : Hp) (Q : Bool -> Hp -> Prop),Inv X pins σ H s -> t σ H Q -> wpAny (model X.prog X.w) X.A (isTrue e X.env whole) (TP X pins σ Q) X.xe s
theorem PW.pt {X : Cx} {e : Expr} {t : TT} (h : PW X e t) : PT X e t := h _
def PA (X : Cx) (es : List Expr) (t : TA) : Prop :=
 ∀ (pos : Pos) (pins : List (Addr × Obj)) (s : Shared) (σ : St) (H : Hp) (Q : List V -> Hp -> Prop),Inv X pins σ H s -> t σ H Q -> wpAny (model X.prog X.w) X.A (spliced (backTo pos (starEach es X.env))) (AP X pins σ Q) X.xe s
def PS (X : Cx) (st : Stmt) (t : TS) : Prop :=
 ∀ (pins : List (Addr × Obj)) (s : Shared) (σ : St) (H : Hp) (D : Ends),Inv X pins σ H s -> t D σ H -> wpAny (model X.prog X.w) X.A (exec st X.env) (SP X pins D) X.xe s
def PSs (X : Cx) (st : List Stmt) (t : TS) : Prop :=
 ∀ (pins : List (Addr × Obj)) (s : Shared) (σ : St) (H : Hp) (D : Ends),Inv X pins σ H s -> t D σ H -> wpAny (model X.prog X.w) X.A (execs st X.env) (SP X pins D) X.xe s
theorem thn {α : Type} {t : Sem α} {Q Q' : α -> Shared -> Prop} {M : Model} {A : Around} {E : Value -> Shared -> Prop} {s : Shared} (h : wpAny M A t Q E s) (hQ : ∀ a s,Q a s -> Q' a s) : wpAny M A t Q' E s := wpAny_mono h hQ fun _ _ x => x
end L2
namespace L2
open PySem PySem.Spec PyProof.Rows
section
variable {X : Cx}
def YO (i : Nat) : TE := fun σ H Q => ∃ v,σ[i]? = some (some v) /\ Q v H
def tC (v : V) : TE := fun _ H Q => Q v H
theorem ZhI {i : Nat} {x : Str} {pos : Pos} (hN : X.N[i]? = some x) (hv : Vis X.env.scope x) (hd : (x == ("__debug__" : Str)) = false := by decide) (hcd : (x == ("__classdict__" : Str)) = false := by decide) : PE X (.Name x pos) (YO i) := by
 intro pins s σ H Q I h;obtain ⟨v,e,h⟩ := h;obtain ⟨m,hn,hl⟩ := I.loc;obtain ⟨u,r,l⟩ := hl i x v hN e hv;have fin : EP X pins σ Q u s := ⟨v,H,I,r,h⟩
 rcases l with ⟨hk,hm⟩ | ⟨hk,c,hc,hcell⟩
 · exact wpAny_Name (wpAny_loadName_local I.ok.kind hk hn hm fin) hd
 · rcases hk with hk | hk
   · exact wpAny_Name (wpAny_loadName_cell I.ok.kind hk hc hcell fin) hd
   · exact wpAny_Name (wpAny_loadName_free I.ok.kind hk hc hcell fin hcd) hd
theorem Zx {i j pos} : PE X (.Constant (.int i) j pos) (tC (.int i)) := fun _ _ _ H _ I h => wpAny_Constant_int ⟨.int i,H,I.tok _,⟨_,rfl⟩,h⟩
theorem ZV {b j pos} : PE X (.Constant (.bool b) j pos) (tC (.bl b)) := fun _ _ _ H _ I h => Constant_bool ⟨.bl b,H,I,rfl,h⟩
theorem J5 {j pos} : PE X (.Constant .none j pos) (tC .non) := fun _ _ _ H _ I h => Constant_none ⟨.non,H,I,rfl,h⟩
theorem ZhJ {x j pos} : PE X (.Constant (.str x) j pos) (tC (.str x)) := fun _ _ _ H _ I h => Calls.Constant_str ⟨.str x,H,I.tok _,⟨_,rfl⟩,h⟩
def Gl (X : Cx) (x : Str) : Prop := X.env.kindOf x = some .globalImplicit
theorem Ue {E : Value -> Shared -> Prop} {pins : List (Addr × Obj)} {s : Shared} {σ : St} {H : Hp} {x : Str} {u : Value} {pos : Pos} {Q : Value -> Shared -> Prop} (I : Inv X pins σ H s) (hg : Gl X x) (hm : X.mg x = some u) (h : Q u s)
 (hd : (x == ("__debug__" : Str)) = false := by decide) : wpAny (model X.prog X.w) X.A (eval (.Name x pos) X.env) Q E s :=
 Calls.Name_function_global I.ok.kind hg (Calls.loadGlobal_global (by rw [I.ok.glob]; exact I.mod.glob.keeps I.bk) hm h) hd
theorem Uf {E : Value -> Shared -> Prop} {pins : List (Addr × Obj)} {s : Shared} {σ : St} {H : Hp} {x : Str} {u : Value} {pos : Pos} {Q : Value -> Shared -> Prop} (I : Inv X pins σ H s) (hg : Gl X x) (hm : X.mg x = none) (hv : bootBuiltins x = some u) (h : Q u s)
 (hn : x ≠ "__name__" := by decide) (hd : (x == ("__debug__" : Str)) = false := by decide) : wpAny (model X.prog X.w) X.A (eval (.Name x pos) X.env) Q E s := by
 obtain ⟨mb,h1,h2⟩ := I.mod.blt;exact Calls.Name_function_global I.ok.kind hg (Calls.loadGlobal_builtin (by rw [I.ok.glob]; exact I.mod.glob.keeps I.bk) hm (by rw [I.ok.blt]; exact h1.keeps I.bk) ((h2 x hn).trans hv) h) hd
theorem Xq {x : Str} {v : V} {u : Value} {pos : Pos} (hg : Gl X x) (hm : X.mg x = some u) (r : RelV v u) (hd : (x == ("__debug__" : Str)) = false := by decide) : PE X (.Name x pos) (tC v) :=
 fun _ _ _ H _ I h => Ue I hg hm ⟨v,H,I,r,h⟩ hd
theorem Zda {x : Str} {v : V} {u : Value} {pos : Pos} (hg : Gl X x) (hm : X.mg x = none) (hv : bootBuiltins x = some u) (r : RelV v u) (hn : x ≠ "__name__" := by decide) (hd : (x == ("__debug__" : Str)) = false := by decide) : PE X (.Name x pos) (tC v) :=
 fun _ _ _ H _ I h => Uf I hg hm hv ⟨v,H,I,r,h⟩ hn hd
variable {a b : Expr} {ta tb : TE} {pos : Pos}
def PC (X : Cx) (op : CmpOp) (a b : Expr) (t : TE) : Prop :=
 ∀ (pins : List (Addr × Obj)) (s : Shared) (σ : St) (H : Hp) (Q : VK),Inv X pins σ H s -> t σ H Q ->
  wpAny (model X.prog X.w) X.A (eval a X.env) (fun v s₁ => wpAny (model X.prog X.w) X.A (eval b X.env) (fun u s₂ => wpAny (model X.prog X.w) X.A (compareOp op v u) (EP X pins σ Q) X.xe s₂) X.xe s₁) X.xe s
theorem ZeB (b : Expr) {op : CmpOp} (h : op ≠ .In) (h2 : op ≠ .NotIn) : behindInMarks op b = false := by
 have e1 : (op == CmpOp.In) = false := by cases op <;> first | rfl | exact absurd rfl h
 have e2 : (op == CmpOp.NotIn) = false := by cases op <;> first | rfl | exact absurd rfl h2
 cases b <;> simp [behindInMarks,e1,e2]
def J6 (ta : TE) : TE := fun σ H Q => ta σ H fun x H1 => Q (.bl (decide (x = .non))) H1
def Zg5 (ta : TE) : TE := fun σ H Q => ta σ H fun x H1 => Q (.bl (!decide (x = .non))) H1
theorem RelV.none_iff {x : V} {v : Value} (r : RelV x v) : (v == Value.none) = decide (x = .non) := by
 cases x with
 | non => cases r; rfl
 | bl _ => cases r; rfl
 | int _ => obtain ⟨t,rfl⟩ := r; rfl
 | str _ => obtain ⟨t,rfl⟩ := r; rfl
 | byt _ => obtain ⟨t,rfl⟩ := r; rfl
 | flt _ => obtain ⟨t,rfl⟩ := r; rfl
 | ref _ => cases r; rfl
 | ty _ => cases r; rfl
theorem Qj {j pos'} (ha : PE X a ta) : PC X .Is a (.Constant .none j pos') (J6 ta) := by
 intro pins s σ H Q I h;refine thn (ha pins s σ H _ I h) fun v s1 ⟨x,H1,I1,r1,q1⟩ => ?_
 exact Constant_none (is_none_gen ⟨.bl _,H1,I1,by rw [r1.none_iff]; rfl,q1⟩)
theorem QY {j pos'} (ha : PE X a ta) : PC X .IsNot a (.Constant .none j pos') (Zg5 ta) := by
 intro pins s σ H Q I h;refine thn (ha pins s σ H _ I h) fun v s1 ⟨x,H1,I1,r1,q1⟩ => ?_
 exact Constant_none (isnot_none_gen ⟨.bl _,H1,I1,by rw [r1.none_iff]; rfl,q1⟩)
def tB (t : TE) : TT := fun σ H Q => t σ H fun x H1 => ∃ c,x = .bl c /\ Q c H1
theorem XT {op : CmpOp} {t : TE} (h : PC X op a b t) (h1 : behindInMarks op b = false := by first | exact ZeB _ (by decide) (by decide) | rfl) : PT X (.Compare a [op] [b] pos) (tB t) := by
 intro pins s σ H Q I hw;refine wpAny_isTrue_Compare1 (thn (h pins s σ H _ I hw) fun v s1 h1 => thn h1 fun u s2 h2 => thn h2 fun c s3 ⟨x,H1,I1,r1,q1⟩ => ?_) h1;obtain ⟨d,rfl,q⟩ := q1;cases r1;exact wpAny_truthy_bool ⟨H1,I1,q⟩
theorem Zfb {e : Expr} {t : TE} (h : PE X e t) (he : ∀ whole,isTrue e X.env whole = (do let v <- whole; standAt e.pos; holding [v] (truthy v)) := by intro _; rfl) : PT X e (tB t) := by
 intro pins s σ H Q I hw;refine isTrue_plain (thn (h pins s σ H _ I hw) fun v s1 ⟨x,H1,I1,r1,q1⟩ => ?_) (he _);obtain ⟨d,rfl,q⟩ := q1;cases r1;exact wpAny_truthy_bool ⟨H1,I1,q⟩
variable {tA tB' : TT} {rest : List Expr}
def Zkq (t u : TT) : TT := fun σ H Q => t σ H fun c H1 => if c = true then u σ H1 Q else Q false H1
def tOr (t u : TT) : TT := fun σ H Q => t σ H fun c H1 => if c = true then Q true H1 else u σ H1 Q
def Zkr (t : TT) : TT := fun σ H Q => t σ H fun c H1 => Q (!c) H1
theorem Zdb (ha : PT X a tA) : PW X (.BoolOp .And [a] pos) tA := by
 intro wh pins s σ H Q I h;refine isTrue_and (thn (ha pins s σ H Q I h) fun c s1 e => ?_);cases c with
 | true => exact isTrue_and_nil e
 | false => exact e
theorem ZhK (ha : PT X a tA) : PW X (.BoolOp .Or [a] pos) tA := by
 intro wh pins s σ H Q I h;refine isTrue_or (thn (ha pins s σ H Q I h) fun c s1 e => ?_);cases c with
 | false => exact isTrue_or_nil e
 | true => exact e
theorem Zfc (ha : PT X a tA) (hb : PW X (.BoolOp .And (b :: rest) pos) tB') : PW X (.BoolOp .And (a :: b :: rest) pos) (Zkq tA tB') := by
 intro wh pins s σ H Q I h;refine isTrue_and (thn (ha pins s σ H _ I h) fun c s1 ⟨H1,I1,q1⟩ => ?_);cases c with
 | true => exact hb wh pins s1 σ H1 Q I1 q1
 | false => exact ⟨H1,I1,q1⟩
theorem ZiY (ha : PT X a tA) (hb : PW X (.BoolOp .Or (b :: rest) pos) tB') : PW X (.BoolOp .Or (a :: b :: rest) pos) (tOr tA tB') := by
 intro wh pins s σ H Q I h;refine isTrue_or (thn (ha pins s σ H _ I h) fun c s1 ⟨H1,I1,q1⟩ => ?_);cases c with
 | true => exact ⟨H1,I1,q1⟩
 | false => exact hb wh pins s1 σ H1 Q I1 q1
theorem Zfd (ha : PT X a tA) : PT X (.UnaryOp .Not a pos) (Zkr tA) := by
 intro pins s σ H Q I h;exact isTrue_not (ha pins s σ H (fun c H1 => Q (!c) H1) I h)
def Zg6 (ta tb : TE) : TE := fun σ H Q => ta σ H fun x H1 => ∃ c,x = .bl c /\ if c = true then tb σ H1 Q else Q (.bl false) H1
theorem ZhL {op} {t : TE} (h : PE X a t) : PE X (.BoolOp op [a] pos) t := fun pins s σ H Q I hw => BoolOp_one (h pins s σ H Q I hw)
theorem ZhM (ha : PE X a ta) (hb : PE X (.BoolOp .And (b :: rest) pos) tb) : PE X (.BoolOp .And (a :: b :: rest) pos) (Zg6 ta tb) := by
 intro pins s σ H Q I h;refine BoolOp_and (thn (ha pins s σ H _ I h) fun v s1 ⟨x,H1,I1,r1,q1⟩ => ?_);obtain ⟨c,rfl,q1⟩ := q1;cases r1;refine wpAny_truthy_bool ?_;cases c with
 | true => exact hb pins s1 σ H1 Q I1 q1
 | false => exact ⟨.bl false,H1,I1,rfl,q1⟩
end
end L2
namespace L2
open PySem PySem.Spec PyProof.Rows
def SqL (K : PySem.W.Frag) (H : Hp) (a : Addr) (xs : List V) : Prop :=
 Rd H a (.lst xs) \/
  ∃ (o : Obj) (its : Array Value) (n : Nat),K.lookup a = some o /\ o.cls = .type "list" /\ o.dict = none /\ o.data = .seq its n /\ its.size <= sizeLine /\ Vals xs its.toList
def SqT (K : PySem.W.Frag) (H : Hp) (a : Addr) (xs : List V) : Prop :=
 Rd H a (.tup xs) \/
  ∃ (o : Obj) (its : Array Value) (n : Nat),K.lookup a = some o /\ o.cls = .type "tuple" /\ o.data = .seq its n /\ its.size <= sizeLine /\ Vals xs its.toList
def ZkL : Value -> Option V
 | .none => some .non
 | .bool b => some (.bl b)
 | .int i _ => some (.int i)
 | .str x _ => some (.str x)
 | .bytes b _ => some (.byt b)
 | .float b _ => some (.flt b)
 | .ref a => some (.ref a)
 | .type n => some (.ty n)
 | _ => none
theorem RelV.abs {x : V} {u : Value} (r : RelV x u) : ZkL u = some x := by
 cases x with
 | non => cases r; rfl
 | bl _ => cases r; rfl
 | int _ => obtain ⟨t,rfl⟩ := r; rfl
 | str _ => obtain ⟨t,rfl⟩ := r; rfl
 | byt _ => obtain ⟨t,rfl⟩ := r; rfl
 | flt _ => obtain ⟨t,rfl⟩ := r; rfl
 | ref _ => cases r; rfl
 | ty _ => cases r; rfl
theorem RelV.inj {x y : V} {u : Value} (r : RelV x u) (q : RelV y u) : x = y := Option.some.inj (r.abs.symm.trans q.abs)
theorem Vals.inj : ∀ {xs ys : List V} {us : List Value},Vals xs us -> Vals ys us -> xs = ys
 | _,_,_,.nil,.nil => rfl
 | _,_,_,.cons r t,.cons r' t' => by rw [r.inj r',Vals.inj t t']
section
variable {X : Cx} {pins : List (Addr × Obj)} {σ : St} {H : Hp} {s : Shared} {a : Addr} {xs ys : List V}
theorem SqL.of {K : PySem.W.Frag} (h : H a = some (.lst xs)) : SqL K H a xs := .inl (.inl h)
theorem SqT.of {K : PySem.W.Frag} (h : H a = some (.tup xs)) : SqT K H a xs := .inl (.inl h)
theorem Inv.list (I : Inv X pins σ H s) (h : SqL X.K H a xs) : ∃ its : List Value,Vals xs its /\ PlainL s.heap a its.toArray /\ xs.length <= sizeLine := by
 rcases h with h | ⟨o,its,n,hk,hc,hd,hs,hz,r⟩
 · obtain ⟨z,its,n,r,e⟩ := h.ok I.hok
   exact ⟨its,r,⟨_,n,e,rfl,rfl,rfl⟩,z⟩
 · refine ⟨its.toList,r,⟨o,n,I.kIn a o hk,hc,hd,by simpa using hs⟩,?_⟩
   have e := r.length;simp only [Array.length_toList] at e;omega
theorem Inv.tuple (I : Inv X pins σ H s) (h : SqT X.K H a xs) : ∃ its : List Value,Vals xs its /\ IsTup s.heap a its.toArray /\ xs.length <= sizeLine := by
 rcases h with h | ⟨o,its,n,hk,hc,hs,hz,r⟩
 · obtain ⟨z,its,r,p⟩ := h.ok I.hok
   exact ⟨its,r,p.tup,z⟩
 · refine ⟨its.toList,r,⟨o,I.kIn a o hk,hc,n,by simpa using hs⟩,?_⟩
   have e := r.length;simp only [Array.length_toList] at e;omega
theorem Inv.list_inj (I : Inv X pins σ H s) (h : SqL X.K H a xs) (h' : SqL X.K H a ys) : xs = ys := by
 obtain ⟨its,r,⟨o,n,e,_,_,d⟩,_⟩ := I.list h;obtain ⟨its',r',⟨o',n',e',_,_,d'⟩,_⟩ := I.list h';rw [e] at e'; cases e';rw [d] at d';injection d' with d1 _
 have : its = its' := by simpa using congrArg Array.toList d1
 subst this;exact r.inj r'
theorem Inv.tuple_inj (I : Inv X pins σ H s) (h : SqT X.K H a xs) (h' : SqT X.K H a ys) : xs = ys := by
 obtain ⟨its,r,⟨o,e,_,n,d⟩,_⟩ := I.tuple h;obtain ⟨its',r',⟨o',e',_,n',d'⟩,_⟩ := I.tuple h';rw [e] at e'; cases e';rw [d] at d';injection d' with d1 _
 have : its = its' := by simpa using congrArg Array.toList d1
 subst this;exact r.inj r'
end
abbrev Cx.wish (X : Cx) (E : Value -> Shared -> Prop) : Cx := { X with xe := E }
abbrev Cx.nox (X : Cx) : Cx := X.wish fun _ _ => False
theorem Cx.Ok.wish {X : Cx} (ok : X.Ok) (E : Value -> Shared -> Prop) : (X.wish E).Ok :=
 ⟨ok.mod,ok.kind,ok.glob,ok.blt,ok.above,ok.inj,ok.has,ok.cab,ok.hd,ok.frames,ok.stk,ok.exf,ok.bs,ok.bsz,ok.noex,ok.exfs,ok.funs,ok.frf⟩
theorem Cx.Ok.unwish {X : Cx} {E : Value -> Shared -> Prop} (ok : (X.wish E).Ok) : X.Ok :=
 ⟨ok.mod,ok.kind,ok.glob,ok.blt,ok.above,ok.inj,ok.has,ok.cab,ok.hd,ok.frames,ok.stk,ok.exf,ok.bs,ok.bsz,ok.noex,ok.exfs,ok.funs,ok.frf⟩
section
variable {X : Cx} {pins : List (Addr × Obj)} {σ : St} {H : Hp} {s : Shared} {E : Value -> Shared -> Prop}
theorem Inv.wish (I : Inv X pins σ H s) (E : Value -> Shared -> Prop) : Inv (X.wish E) pins σ H s := ⟨I.ok.wish E,I.os,I.bare,I.base,I.loc,I.cell,I.free,I.freeC,I.pin,I.hok,I.len⟩
theorem Inv.unwish (I : Inv (X.wish E) pins σ H s) : Inv X pins σ H s := ⟨I.ok.unwish,I.os,I.bare,I.base,I.loc,I.cell,I.free,I.freeC,I.pin,I.hok,I.len⟩
theorem SP.unwish {D : Ends} {f : Flow} {s' : Shared} (h : SP (X.wish E) pins D f s') : SP X pins D f s' := by
 cases f with
 | next => obtain ⟨σ',H',I,q⟩ := h; exact ⟨σ',H',I.unwish,q⟩
 | brk => obtain ⟨σ',H',I,q⟩ := h; exact ⟨σ',H',I.unwish,q⟩
 | cont => obtain ⟨σ',H',I,q⟩ := h; exact ⟨σ',H',I.unwish,q⟩
 | ret u => obtain ⟨v,σ',H',I,r,q⟩ := h; exact ⟨v,σ',H',I.unwish,r,q⟩
theorem PSs.nox {st : List Stmt} {t : TS} (h : PSs X.nox st t) : PSs X st t := fun pins s σ H D I hw =>
 wpAny_mono (h pins s σ H D (I.wish _) hw) (fun _ _ q => q.unwish) fun _ _ z => False.elim z
end
section
variable {X : Cx} {st : Stmt} {rest : List Stmt} {t u : TS} {e : Expr} {te : TE} {pos : Pos}
def tNext : TS := fun D σ H => D.nx σ H
def Qk (t u : TS) : TS := fun D σ H => t { D with nx := u D } σ H
theorem YQ : PSs X [] tNext := fun _ _ σ H _ I h => wpAny_execs_nil ⟨σ,H,I,h⟩
theorem Zq (h1 : PS X st t) (h2 : PSs X rest u) : PSs X (st :: rest) (Qk t u) := by
 intro pins s σ H D I h;refine wpAny_execs_cons (thn (h1 pins s σ H { D with nx := u D } I h) fun f s1 q => ?_);cases f with
 | next =>
  obtain ⟨σ',H',I',q⟩ := q;exact h2 pins s1 σ' H' D I' q
 | ret v => exact q
 | brk => exact q
 | cont => exact q
theorem ZA (h1 : PS X st t) : PSs X [st] t := by
 intro pins s σ H D I h;refine wpAny_execs_cons (thn (h1 pins s σ H D I h) fun f s1 q => ?_);cases f with
 | next => exact wpAny_execs_nil q
 | ret v => exact q
 | brk => exact q
 | cont => exact q
theorem Inv.quiet {pins : List (Addr × Obj)} {σ : St} {H : Hp} {s : Shared} (I : Inv X pins σ H s) : interactive X.env = false := by simp [interactive,I.ok.kind]
def Ug (te : TE) : TS := fun D σ H => te σ H fun _ H1 => D.nx σ H1
theorem Qm (he : PE X e te) (hs : swapsWith e none pos.line X.env = pure false := by rfl) : PS X (.Expr e pos) (Ug te) := by
 intro pins s σ H D I h;exact wpAny_Expr_any (thn (he pins s σ H _ I h) fun v s1 ⟨x,H1,I1,r1,q1⟩ => ⟨σ,H1,I1,q1⟩) I.quiet hs
def QZ (te : TE) : TS := fun D σ H => te σ H D.rt
theorem ZQ (he : PE X e te) : PS X (.Return (some e) pos) (QZ te) := by
 intro pins s σ H D I h;exact wpAny_Return_some (thn (he pins s σ H _ I h) fun v s1 ⟨x,H1,I1,r1,q1⟩ => ⟨x,σ,H1,I1,r1,q1⟩)
def Qn (c : TT) (t u : TS) : TS := fun D σ H => c σ H fun b H1 => if b = true then t D σ H1 else u D σ H1
theorem YR {c : Expr} {a b : List Stmt} {tc : TT} (hc : PT X c tc) (ha : PSs X a t) (hb : PSs X b u) : PS X (.If c a b pos) (Qn tc t u) := by
 intro pins s σ H D I h;refine wpAny_If (thn (hc pins s σ H _ I h) fun d s1 ⟨H1,I1,q1⟩ => ?_);cases d with
 | true => exact ha pins s1 σ H1 D I1 q1
 | false => exact hb pins s1 σ H1 D I1 q1
end
abbrev TG := V -> St -> Hp -> (St -> Hp -> Prop) -> Prop
abbrev TGs := List V -> St -> Hp -> (St -> Hp -> Prop) -> Prop
def PG (X : Cx) (target : Expr) (t : TG) : Prop :=
 ∀ (pins : List (Addr × Obj)) (s : Shared) (σ : St) (H : Hp) (v : V) (u : Value) (Q : St -> Hp -> Prop),Inv X pins σ H s -> RelV v u -> t v σ H Q ->
  wpAny (model X.prog X.w) X.A (assign target X.env u) (fun _ s' => ∃ σ' H',Inv X pins σ' H' s' /\ Q σ' H') X.xe s
def PGs (X : Cx) (ts : List Expr) (t : TGs) : Prop :=
 ∀ (pins : List (Addr × Obj)) (s : Shared) (σ : St) (H : Hp) (vs : List V) (us : List Value) (Q : St -> Hp -> Prop),Inv X pins σ H s -> Vals vs us -> t vs σ H Q ->
  wpAny (model X.prog X.w) X.A (assignInOrder ((assignEach ts X.env).map (·.2)) us) (fun _ s' => ∃ σ' H',Inv X pins σ' H' s' /\ Q σ' H') X.xe s
abbrev TSet := V -> V -> V -> Hp -> (Hp -> Prop) -> Prop
def Zks (X : Cx) (t : TSet) : Prop :=
 ∀ (pins : List (Addr × Obj)) (s : Shared) (σ : St) (H : Hp) (o i v : V) (ov iv u : Value) (Q : Hp -> Prop),Inv X pins σ H s -> RelV o ov -> RelV i iv -> RelV v u -> t o i v H Q ->
  wpAny (model X.prog X.w) X.A (setItem ov iv u) (fun _ s' => ∃ H',Inv X pins σ H' s' /\ Q H') X.xe s
section
variable {X : Cx} {pos : Pos}
def YX (i : Nat) : TG := fun v σ H Q => Q (σ.set i (some v)) H
theorem ZZ {i : Nat} {x : Str} (hN : X.N.Nodup) (hi : X.N[i]? = some x := by rfl) (hx : Loc X.env.scope x := by first | exact Or.inl rfl | exact Or.inr rfl) (hf : X.fn x = true \/ X.env.scope.names.lookup x = some .local := by first | exact .inl rfl | exact .inr rfl | assumption) : PG X (.Name x pos) (YX i) := by
 intro pins s σ H v u Q I r h;exact wpAny_assign_Name (J4 I hN hi hx r (fun s' I' => ⟨_,H,I',h⟩) hf)
def gNil : TGs := fun vs σ H Q => vs = [] /\ Q σ H
def Zg7 (t : TG) (u : TGs) : TGs := fun vs σ H Q => ∃ v r,vs = v :: r /\ t v σ H fun σ' H' => u r σ' H' Q
theorem Zf5 : PGs X [] gNil := by
 intro pins s σ H vs us Q I r h;obtain ⟨e,h⟩ := h;subst e;cases r;exact assignInOrder_nil ⟨σ,H,I,h⟩
theorem ZbS {e : Expr} {es : List Expr} {t : TG} {u : TGs} (h1 : PG X e t) (h2 : PGs X es u)
 (hs : (assignEach (e :: es) X.env).map (·.2) = assign e X.env :: (assignEach es X.env).map (·.2) := by rfl) : PGs X (e :: es) (Zg7 t u) := by
 intro pins s σ H vs us Q I r h;obtain ⟨v,vr,e1,h⟩ := h;subst e1;cases r with
 | cons r rr =>
  rw [hs];refine assignInOrder_cons (thn (h1 pins s σ H _ _ _ I r h) fun _ s1 ⟨σ1,H1,I1,q1⟩ => ?_);exact h2 pins s1 σ1 H1 _ _ Q I1 rr q1
def J7 (K : PySem.W.Frag) (n : Nat) (t : TGs) : TG := fun v σ H Q => ∃ a xs,v = .ref a /\ SqT K H a xs /\ xs.length = n /\ t xs σ H Q
theorem ZhN {es : List Expr} {k : Nat} {t : TGs} {n : Nat} (hc : X.calm = true) (h : PGs X es t)
 (hn : (assignEach es X.env).length = n := by rfl) (hst : (assignEach es X.env).findIdx? (·.1) = none := by rfl) : PG X (.Tuple es k pos) (J7 X.K n t) := by
 intro pins s σ H v u Q I r hw;obtain ⟨a,xs,e1,hq,hl,hw⟩ := hw;subst e1;cases r;obtain ⟨its,rv,ht,hz⟩ := I.tuple hq;refine assign_Tuple_tuple (I.ok.hd hc) ht (by simp [hn,<- hl,rv.length]) hst fun h' hx => ?_
 have I1 : Inv X pins σ H { s with heap := h' } := I.kept (t' := s.toks) fun b o e => hx b o (Nat.ne_of_lt (Heap.lt_size e)) e
 exact h pins _ σ H xs _ Q I1 (by simpa using rv) hw
def J8 (to ti : TE) (t : TSet) : TG := fun v σ H Q => to σ H fun o H1 => ti σ H1 fun i H2 => t o i v H2 fun H3 => Q σ H3
theorem J9 {o i : Expr} {to ti : TE} {t : TSet} (ho : PE X o to) (hi : PE X i ti) (hs : Zks X t)
 (ha : ∀ v,assign (.Subscript o i pos) X.env v = (do
   let ov <- holding [v] (eval o X.env)
   let iv <- holding [v,ov] (eval i X.env)
   standAt pos
   holding [v,ov,iv] (setItem ov iv v)
   release [v,ov,iv] []) := by intro _; rfl) : PG X (.Subscript o i pos) (J8 to ti t) := by
 intro pins s σ H v u Q I r h;rw [ha];refine wpAny_bind (wpAny_holding (thn (ho pins s σ H _ I h) fun ov s1 ⟨x,H1,I1,r1,q1⟩ => ?_));refine wpAny_bind (wpAny_holding (thn (hi pins s1 σ H1 _ I1 q1) fun iv s2 ⟨y,H2,I2,r2,q2⟩ => ?_));refine wpAny_bind (wpAny_standAt (wpAny_bind (wpAny_holding (thn (hs pins s2 σ H2 x y v ov iv u _ I2 r1 r2 r q2) fun _ s3 ⟨H3,I3,q3⟩ => ?_))));exact wpAny_release ⟨σ,H3,I3,q3⟩
def YY (te : TE) (g : TG) : TS := fun D σ H => te σ H fun x H1 => g x σ H1 D.nx
theorem ZcR {tg e : Expr} {te : TE} {g : TG} (he : PE X e te) (hg : PG X tg g) (hs : swapsWithSole [tg] e pos.line X.env = pure false := by rfl) (hw : swappedStores [tg] e X.env = pure none := by rfl)
 (h1 : (assignEach [tg] X.env).map (·.2) = [assign tg X.env] := by rfl) : PS X (.Assign [tg] e pos) (YY te g) := by
 intro pins s σ H D I h;refine wpAny_Assign_stores (thn (he pins s σ H _ I h) fun v s1 ⟨x,H1,I1,r1,q1⟩ => ?_) hs hw;rw [h1];exact thn (hg pins s1 σ H1 x v _ I1 r1 q1) fun _ s2 q => q
theorem ZF {i : Nat} {x : Str} {e : Expr} {te : TE} {pos' : Pos} (hN : X.N.Nodup) (hi : X.N[i]? = some x) (hx : Loc X.env.scope x) (he : PE X e te) (hs : swapsWith e (some (.Name x pos')) pos.line X.env = pure false := by rfl) (hf : X.fn x = true \/ X.env.scope.names.lookup x = some .local := by first | exact .inl rfl | exact .inr rfl | assumption) :
 PS X (.Assign [.Name x pos'] e pos) (YY te (YX i)) := by
 intro pins s σ H D I h;refine wpAny_Assign_Name (thn (he pins s σ H _ I h) fun v s1 ⟨y,H1,I1,r1,q1⟩ => ?_) hs;exact J4 I1 hN hi hx r1 (fun s2 I2 => ⟨_,H1,I2,q1⟩) hf
end
section
variable {X : Cx} {pos : Pos}
end
structure It where
 go : Nat -> Hp -> Prop
 yld : Nat -> Hp -> V -> Hp -> Prop
 stop : Nat -> Hp -> Prop
def Xd (X : Cx) (pins : List (Addr × Obj)) (H : Hp) (b : Addr) : Prop :=
 H b = none /\ b ≠ X.env.locals /\ b ∉ X.fs /\ (b ∈ X.ex \/ X.s₀.heap.objs.size <= b) /\ (∀ x c,X.env.cells.lookup x = some c -> c ≠ b) /\ ∀ p ∈ X.pn ++ pins,p.1 ≠ b
theorem Inv.fpOk {X : Cx} {pins : List (Addr × Obj)} {σ : St} {H H' : Hp} {s : Shared} {b : Addr} (I : Inv X pins σ H s) (hb : s.heap.objs.size <= b) (hn : H' b = none) : Xd X pins H' b := by
 refine ⟨hn,Nat.ne_of_gt (Nat.lt_of_lt_of_le I.lt hb),I.nofs hb,.inr (Nat.le_trans I.sz hb),fun x c e z => ?_,fun p hp z => ?_⟩
 · obtain ⟨v,q⟩ := I.cell x c e
   exact absurd (Nat.lt_of_lt_of_le q.lt (by rw [z]; exact hb)) (Nat.lt_irrefl _)
 · exact absurd (Nat.lt_of_lt_of_le (Heap.lt_size (I.pin p hp).1) (by rw [z]; exact hb)) (Nat.lt_irrefl _)
structure Turn (P : Program) (w : World) (K : PySem.W.Frag) (tg : Expr) (J : It) (fp : List Addr) (it : Addr) (tn : Nat -> Heap -> Prop) : Prop where
 mem : it ∈ fp
 obj : ∀ i h,tn i h -> ∀ b ∈ fp,∃ o,h.get? b = some o /\ ∀ v,o.data ≠ .cell v
 keep : ∀ i h h',tn i h -> (∀ b ∈ fp,∀ o,h.get? b = some o -> h'.get? b = some o) -> tn i h'
 item : ∀ (X : Cx),X.prog = P -> X.w = w -> X.K = K -> X.calm = true -> ∀ (i : Nat) (pins : List (Addr × Obj)) (s : Shared) (σ : St) (H : Hp) (E : Value -> Shared -> Prop),Inv X pins σ H s -> (∀ b ∈ fp,Xd X pins H b) -> tn i s.heap -> J.go i H ->
  wpAny (model P w) X.A (pyNext (.ref it)) (fun r s1 => ∃ u,r = some u /\
   wpAny (model P w) X.A (letOwnedTupleGo tg (.ref it) u) (fun _ s2 => ∃ x H',Inv X pins σ H' s2 /\ RelV x u /\ J.yld i H x H' /\ tn (i + 1) s2.heap /\ ∀ b ∈ fp,H' b = none) E s1) E s
 done : ∀ (X : Cx),X.prog = P -> X.w = w -> X.K = K -> X.calm = true -> ∀ (i : Nat) (pins : List (Addr × Obj)) (s : Shared) (σ : St) (H : Hp) (E : Value -> Shared -> Prop),Inv X pins σ H s -> (∀ b ∈ fp,Xd X pins H b) -> tn i s.heap -> J.stop i H ->
  wpAny (model P w) X.A (pyNext (.ref it)) (fun r s1 => r = none /\ Inv X pins σ H s1) E s
 self : ∀ (A : Around) (i : Nat) (s : Shared) (Q : Value -> Shared -> Prop) (E : Value -> Shared -> Prop),tn i s.heap -> Q (.ref it) s -> wpAny (model P w) A (pyIter (.ref it)) Q E s
abbrev TI := St -> Hp -> (It -> Hp -> Prop) -> Prop
def PIE (X : Cx) (pins : List (Addr × Obj)) (σ : St) (tg : Expr) (R : It -> Hp -> Prop) (itv : Value) (s2 : Shared) : Prop :=
 ∃ (it : Addr) (fp : List Addr) (tn : Nat -> Heap -> Prop) (J : It) (H' : Hp),itv = .ref it /\ Inv X pins σ H' s2 /\ Turn X.prog X.w X.K tg J fp it tn /\ tn 0 s2.heap /\ (∀ b ∈ fp,Xd X pins H' b) /\ R J H'
def PI (X : Cx) (tg iter : Expr) (wi : TI) : Prop :=
 ∀ (pins : List (Addr × Obj)) (s : Shared) (σ : St) (H : Hp) (R : It -> Hp -> Prop),Inv X pins σ H s -> wi σ H R ->
  wpAny (model X.prog X.w) X.A (eval iter X.env) (fun v s1 => wpAny (model X.prog X.w) X.A (pyIter v) (PIE X pins σ tg R) X.xe s1) X.xe s
theorem Qo {M : Model} {A : Around} {E : Value -> Shared -> Prop} {s : Shared} {tg : Expr} {it : Addr} {u : Value} {o : Obj} {n : String} {vs : Array Value} {Q : Unit -> Shared -> Prop} (ho : s.heap.get? it = some o) (hc : o.cls = .type n) (hd : o.data = .fields vs)
 (hn : ["enumerate", "zip", "dict_itemiterator", "dict_reverseitemiterator", "odict_iterator", "itertools.zip_longest", "itertools.pairwise"].contains n = false) (hQ : Q () s) : wpAny M A (letOwnedTupleGo tg (.ref it) u) Q E s := by
 unfold letOwnedTupleGo
 cases tg <;> first
  | exact wpAny_pure hQ
  | (cases u <;> first
      | exact wpAny_pure hQ
      | (refine wpAny_bind (wpAny_load ho ?_)
         rw [hc,hd];show wpAny M A (if (["enumerate", "zip", "dict_itemiterator", "dict_reverseitemiterator", "odict_iterator", "itertools.zip_longest", "itertools.pairwise"].contains n && vs[0]? == some (rawInt _)) = true then _ else _) Q E s;rw [if_neg (by intro h; rw [hn,Bool.false_and] at h; cases h)];exact wpAny_pure hQ))
def Itl (K : PySem.W.Frag) (a : Addr) : It :=
 ⟨fun i H => ∃ xs x,SqL K H a xs /\ xs[i]? = some x,fun i H x H' => H' = H /\ ∀ xs,SqL K H a xs -> xs[i]? = some x,fun i H => ∃ xs,SqL K H a xs /\ xs.length <= i⟩
def Itt (K : PySem.W.Frag) (a : Addr) : It :=
 ⟨fun i H => ∃ xs x,SqT K H a xs /\ xs[i]? = some x,fun i H x H' => H' = H /\ ∀ xs,SqT K H a xs -> xs[i]? = some x,fun i H => ∃ xs,SqT K H a xs /\ xs.length <= i⟩
def Itr (lo : Int) (n : Nat) : It := ⟨fun i _ => i < n,fun i H x H' => H' = H /\ x = .int (lo + i),fun i _ => n <= i⟩
theorem ZdY {P : Program} {w : World} {K : PySem.W.Frag} {tg : Expr} (a it : Addr) : Turn P w K tg (Itl K a) [it] it (fun i h => h.IsListIter it a i) where
 mem := by simp
 obj := fun i h st b hb => by
  have e : b = it := by simpa using hb
  subst e;obtain ⟨o,e,c,d⟩ := st;exact ⟨o,e,fun v z => by rw [d] at z; cases z⟩
 keep := fun i h h' st k => st.at fun o e => k it (by simp) o e
 item := by
  intro X hP hw hK hc i pins s σ H E I hf st hg;subst hP hw hK;obtain ⟨xs,x,hq,hx⟩ := hg;obtain ⟨its,rv,p,hz⟩ := I.list hq;obtain ⟨u,hu,ru⟩ := rv.get hx;obtain ⟨f0,f1,f2,f3,f4,f5⟩ := hf it (by simp);refine wpAny_pyNext_list_item st p.isList (x:=u) (by simpa using hu) fun h' st' sb => ?_
  have I1 : Inv X pins σ H { s with heap := h' } := I.turned (t' := s.toks) (fun b o hb e => (sb.2 b hb).trans e) f0 f1 f3 f4 f5;obtain ⟨o,e,c,d⟩ := id st';exact ⟨u,rfl,Qo (s:={ s with heap := h' }) e c d (by decide) ⟨x,H,I1,ru,⟨rfl,fun ys hy => by rw [I.list_inj hy hq]; exact hx⟩,st',fun b hb => (hf b hb).1⟩⟩
 done := by
  intro X hP hw hK hc i pins s σ H E I hf st hg;subst hP hw hK;obtain ⟨xs,hq,hx⟩ := hg;obtain ⟨its,rv,p,hz⟩ := I.list hq;obtain ⟨f0,f1,f2,f3,f4,f5⟩ := hf it (by simp);have hl := rv.length;exact wpAny_pyNext_list_end (I.ok.hd hc) st p.isList (by simp; omega) fun h' eb => ⟨rfl,I.turned (t' := s.toks) (fun b o hb e => eb b o hb e) f0 f1 f3 f4 f5⟩
 self := fun _ _ _ _ _ st h => wpAny_pyIter_listiter st h
theorem Zaz {P : Program} {w : World} {K : PySem.W.Frag} {tg : Expr} (a it : Addr) : Turn P w K tg (Itt K a) [it] it (fun i h => h.IsTupleIter it a i) where
 mem := by simp
 obj := fun i h st b hb => by
  have e : b = it := by simpa using hb
  subst e;obtain ⟨o,e,c,d⟩ := st;exact ⟨o,e,fun v z => by rw [d] at z; cases z⟩
 keep := fun i h h' st k => st.at fun o e => k it (by simp) o e
 item := by
  intro X hP hw hK hc i pins s σ H E I hf st hg;subst hP hw hK;obtain ⟨xs,x,hq,hx⟩ := hg;obtain ⟨its,rv,p,hz⟩ := I.tuple hq;obtain ⟨u,hu,ru⟩ := rv.get hx;obtain ⟨f0,f1,f2,f3,f4,f5⟩ := hf it (by simp);refine wpAny_pyNext_tuple_item st (show s.heap.IsTuple a its.toArray from p) (x:=u) (by simpa using hu) fun h' st' sb => ?_
  have I1 : Inv X pins σ H { s with heap := h' } := I.turned (t' := s.toks) (fun b o hb e => (sb.2 b hb).trans e) f0 f1 f3 f4 f5;obtain ⟨o,e,c,d⟩ := id st';exact ⟨u,rfl,Qo (s:={ s with heap := h' }) e c d (by decide) ⟨x,H,I1,ru,⟨rfl,fun ys hy => by rw [I.tuple_inj hy hq]; exact hx⟩,st',fun b hb => (hf b hb).1⟩⟩
 done := by
  intro X hP hw hK hc i pins s σ H E I hf st hg;subst hP hw hK;obtain ⟨xs,hq,hx⟩ := hg;obtain ⟨its,rv,p,hz⟩ := I.tuple hq;obtain ⟨f0,f1,f2,f3,f4,f5⟩ := hf it (by simp);have hl := rv.length;exact wpAny_pyNext_tuple_end (I.ok.hd hc) st (show s.heap.IsTuple a its.toArray from p) (by simp; omega) fun h' eb => ⟨rfl,I.turned (t' := s.toks) (fun b o hb e => eb b o hb e) f0 f1 f3 f4 f5⟩
 self := fun _ _ _ _ _ st h => wpAny_pyIter_tupleiter st h
theorem Zck {P : Program} {w : World} {K : PySem.W.Frag} {tg : Expr} (it : Addr) (lo : Int) (n : Nat) : Turn P w K tg (Itr lo n) [it] it (fun i h => IsRangeIter h it (lo + (i : Nat) * 1) ((n : Int) - (i : Nat)) 1) where
 mem := by simp
 obj := fun i h st b hb => by
  have e : b = it := by simpa using hb
  subst e
  exact ⟨_,st,fun v z => by
   have z' : Data.fields _ = Data.cell v := z;cases z'⟩
 keep := fun i h h' st k => k it (by simp) _ st
 item := by
  intro X hP hw hK hc i pins s σ H E I hf st hg;subst hP hw hK;obtain ⟨f0,f1,f2,f3,f4,f5⟩ := hf it (by simp);have W := Walks.range (prog:=X.prog) (w:=X.w) (I.ok.hd hc) it lo 1 n;refine W.item i s _ _ hg st fun v h' tk hv st' kk => ?_
  obtain ⟨t,rfl⟩ := hv;have I1 : Inv X pins σ H { s with heap := h',toks := tk } := I.turned (fun b o hb e => kk b o (by simpa using hb) e) f0 f1 f3 f4 f5;refine ⟨_,rfl,Qo (s:={ s with heap := h',toks := tk }) (n:="range_iterator") st' rfl rfl (by decide) ⟨.int (lo + i),H,I1,⟨t,?_⟩,⟨rfl,rfl⟩,st',fun b hb => (hf b hb).1⟩⟩;rw [Int.mul_one]
 done := by
  intro X hP hw hK hc i pins s σ H E I hf st hg;subst hP hw hK;obtain ⟨f0,f1,f2,f3,f4,f5⟩ := hf it (by simp);exact wpAny_pyNext_range_end (I.ok.hd hc) st (by have : n <= i := hg; omega) fun h' eb => ⟨rfl,I.turned (t' := s.toks) (fun b o hb e => eb b o hb e) f0 f1 f3 f4 f5⟩
 self := fun _ _ _ _ _ st h => wpAny_pyIter_rangeiter st h
end L2
namespace L2
open PySem PySem.Spec PyProof.Rows
section
variable {X : Cx} {tg : Expr}
def ZkM (K : PySem.W.Frag) (tl : TE) : TI := fun σ H R => tl σ H fun x H1 => ∃ a,x = .ref a /\ (∃ xs,SqT K H1 a xs) /\ R (Itt K a) H1
theorem ZhO {l : Expr} {tl : TE} (hl : PE X l tl) : PI X tg l (ZkM X.K tl) := by
 intro pins s σ H R I h;refine thn (hl pins s σ H _ I h) fun v s1 ⟨x,H1,I1,r1,q1⟩ => ?_
 obtain ⟨a,e,⟨xs,hq⟩,q⟩ := q1;subst e;cases r1;obtain ⟨its,rv,p,hz⟩ := I1.tuple hq;refine wpAny_pyIter_tuple (show s1.heap.IsTuple a its.toArray from p) ?_;refine ⟨s1.heap.objs.size,[s1.heap.objs.size],_,_,H1,rfl,I1.kept (t' := s1.toks) fun b o e => Heap.get?_push_of_some _ e,Zaz a _,⟨_,Heap.get?_push_size _ rfl,rfl,rfl⟩,fun b hb => ?_,q⟩;have e : b = s1.heap.objs.size := by simpa using hb
 subst e;exact I1.fpOk (Nat.le_refl _) (I1.hok.fresh (Nat.le_refl _))
theorem ZbT {pins : List (Addr × Obj)} {σ : St} {H : Hp} {s : Shared} {R : It -> Hp -> Prop} {E : Value -> Shared -> Prop} {lo hi : Int} {t u v : Tok} {tk : Nat} (I : Inv X pins σ H s) (h1 : -(2 ^ 62) <= lo) (h2 : lo < 2 ^ 62) (h3 : -(2 ^ 62) <= hi) (h4 : hi < 2 ^ 62)
 (q : R (Itr lo (hi - lo).toNat) H) : wpAny (model X.prog X.w) X.A (pyIter (.ref s.heap.objs.size)) (PIE X pins σ tg R) E { s with heap := s.heap.push { cls := .type "range",data := .fields #[.int lo t,.int hi u,.int 1 v] },toks := tk } := by
 refine wpAny_pyIter_range (IsRange.new ..) (small_one h1 h2 h3 h4) ?_;have I1 : Inv X pins σ H { s with heap := s.heap.push { cls := .type "range",data := .fields #[.int lo t,.int hi u,.int 1 v] },toks := tk } := I.kept fun b o e => Heap.get?_push_of_some _ e
 refine ⟨(s.heap.push { cls := .type "range",data := .fields #[.int lo t,.int hi u,.int 1 v] }).objs.size,[(s.heap.push { cls := .type "range",data := .fields #[.int lo t,.int hi u,.int 1 v] }).objs.size],_,_,H,rfl,
  I1.kept (t' := tk) fun b o e => Heap.get?_push_of_some _ e,Zck _ lo (hi - lo).toNat,?_,fun b hb => ?_,q⟩
 · have e1 : lo + ((0 : Nat) : Int) * 1 = lo := by simp
   have e2 : (((hi - lo).toNat : Nat) : Int) - ((0 : Nat) : Int) = Builtin.Range.rangeSize lo hi 1 := by rw [rangeSize_one]; split <;> omega
   show IsRangeIter _ _ (lo + ((0 : Nat) : Int) * 1) ((((hi - lo).toNat : Nat) : Int) - ((0 : Nat) : Int)) 1;rw [e1,e2];exact Heap.get?_push_size _ rfl
 · have e : b = (s.heap.push { cls := .type "range",data := .fields #[.int lo t,.int hi u,.int 1 v] }).objs.size := by simpa using hb
   subst e;exact I1.fpOk (Nat.le_refl _) (I1.hok.fresh (Nat.le_refl _))
def ZfM (ta : TA) : TI := fun σ H R => ta σ H fun vs H1 => ∃ j : Int,vs = [.int j] /\ -(2 ^ 62) <= j /\ j < 2 ^ 62 /\ R (Itr 0 j.toNat) H1
def ZfN (ta : TA) : TI := fun σ H R => ta σ H fun vs H1 => ∃ i j : Int,vs = [.int i,.int j] /\ (-(2 ^ 62) <= i /\ i < 2 ^ 62 /\ -(2 ^ 62) <= j /\ j < 2 ^ 62) /\ R (Itr i (j - i).toNat) H1
theorem XI {a : Expr} {ta : TA} {p pos : Pos} (hg : Gl X "range") (hm : X.mg "range" = none) (ha : PA X [a] ta) (hs : starEach [a] X.env = [(false,eval a X.env)] := by rfl) : PI X tg (.Call (.Name "range" p) [a] [] pos) (ZfM ta) := by
 intro pins s σ H R I h;refine Call_ (Uf I hg hm boot_range (PyProof.Rows.callWith_type1 (thn (ha pos pins s σ H _ I h) fun us s1 ⟨vs,H1,I1,r1,q1⟩ => ?_) hs rfl));obtain ⟨j,e,q1,q2,q⟩ := q1;subst e;cases r1 with
 | cons r rr =>
  cases rr;obtain ⟨t,rfl⟩ := r;exact call_range_1 (ZbT I1 (by omega) (by omega) q1 q2 (by simpa using q))
theorem ZaZ {a b : Expr} {ta : TA} {p pos : Pos} (hg : Gl X "range") (hm : X.mg "range" = none) (ha : PA X [a,b] ta) (hs : starEach [a,b] X.env = [(false,eval a X.env),(false,eval b X.env)] := by rfl) (hs2 : starEach [b] X.env = [(false,eval b X.env)] := by rfl) :
 PI X tg (.Call (.Name "range" p) [a,b] [] pos) (ZfN ta) := by
 intro pins s σ H R I h;refine Call_ (Uf I hg hm boot_range (PyProof.Rows.callWith_type1 (thn (ha pos pins s σ H _ I h) fun us s1 ⟨vs,H1,I1,r1,q1⟩ => ?_) (by rw [hs,hs2]) (by rw [hs2]; rfl)));obtain ⟨i,j,e,⟨q1,q2,q3,q4⟩,q⟩ := q1;subst e;cases r1 with
 | cons r rr =>
  cases rr with
  | cons r' rr =>
   cases rr;obtain ⟨t,rfl⟩ := r;obtain ⟨t',rfl⟩ := r';exact call_range_2 (ZbT I1 q1 q2 q3 q4 q)
def Q0 (wi : TI) (g : TG) (tb : TS) : TS := fun D σ H => wi σ H fun J H1 => ∃ W : Nat -> Nat -> St -> Hp -> Prop,(∃ m,W 0 m σ H1) /\ ∀ i m σ H,W i m σ H ->
 (J.stop i H /\ D.nx σ H) \/ (J.go i H /\ ∃ N : St -> Hp -> Prop,(∀ σ' H',N σ' H' -> ∃ m',m' < m /\ W (i + 1) m' σ' H') /\ ∀ x H',J.yld i H x H' -> g x σ H' fun σ2 H2 => tb { D with nx := N,ct := N,bk := D.nx } σ2 H2)
def XU (fp : List Addr) (h : Heap) : List (Addr × Obj) := fp.filterMap fun b => (h.get? b).map fun o => (b,o)
theorem Q1 {fp : List Addr} {h : Heap} {b : Addr} {o : Obj} (hb : b ∈ fp) (e : h.get? b = some o) : (b,o) ∈ XU fp h := List.mem_filterMap.mpr ⟨b,hb,by rw [e]; rfl⟩
theorem Za0 {fp : List Addr} {h : Heap} {p : Addr × Obj} (hp : p ∈ XU fp h) : p.1 ∈ fp /\ h.get? p.1 = some p.2 := by
 obtain ⟨b,hb,e⟩ := List.mem_filterMap.mp hp;cases q : h.get? b with
 | none => rw [q] at e; cases e
 | some o =>
  rw [q] at e;have e' : (b,o) = p := Option.some.inj e;subst e';exact ⟨hb,q⟩
theorem Inv.pinned {pins : List (Addr × Obj)} {σ : St} {H : Hp} {s : Shared} {fp : List Addr} (I : Inv X pins σ H s) (hf : ∀ b ∈ fp,Xd X pins H b) (ho : ∀ b ∈ fp,∃ o,s.heap.get? b = some o /\ ∀ v,o.data ≠ .cell v) : Inv X (pins ++ XU fp s.heap) σ H s :=
 I.pins_of fun p hp => (List.mem_append.mp hp).elim (fun z => I.pin p (List.mem_append_right _ z)) fun z => by
  obtain ⟨hb,e⟩ := Za0 z;obtain ⟨f0,f1,f2,_⟩ := hf p.1 hb;obtain ⟨o,e',d⟩ := ho p.1 hb;rw [e] at e'; cases e';exact ⟨e,f0,f1,f2,d⟩
theorem Inv.unpinned {pins pl : List (Addr × Obj)} {σ : St} {H : Hp} {s : Shared} (I : Inv X (pins ++ pl) σ H s) : Inv X pins σ H s := I.pins_of fun p hp => I.pin p (List.mem_append_right _ (List.mem_append_left _ hp))
theorem YS {iter : Expr} {body : List Stmt} {wi : TI} {g : TG} {tb : TS} {pos : Pos} (hp : PassesOwn (model X.prog X.w) X.A X.env X.xe) (hc : X.calm = true) (hi : PI X tg iter wi) (hg : PG X tg g) (hb : PSs X body tb)
 (hs : ∀ x,foldedSetIterable iter X.env x = pure x := by intro _; rfl) : PS X (.For tg iter body [] pos) (Q0 wi g tb) := by
 intro pins s σ H D I h;refine wpAny_For (thn (hi pins s σ H _ I h) fun v s1 h1 => thn h1 fun itv s2 h2 => ?_) hs;obtain ⟨it,fp,tn,J,H2,e,I2,T,st2,f2,W,⟨m0,w0⟩,turn⟩ := h2;subst e;have stat : ∀ {H' : Hp},(∀ b ∈ fp,H' b = none) -> ∀ b ∈ fp,Xd X pins H' b := fun hn b hb => ⟨hn b hb,(f2 b hb).2⟩
 refine codeAny_forLoop_any (fun n s' => ∃ i σ' H',Inv X pins σ' H' s' /\ tn i s'.heap /\ (∀ b ∈ fp,H' b = none) /\ W i n σ' H') ?_ m0 ⟨0,σ,H2,I2,st2,fun b hb => (f2 b hb).1,w0⟩
 rintro n s3 ⟨i,σ3,H3,I3,st3,fr3,w3⟩
 rcases turn i n σ3 H3 w3 with ⟨stop,qn⟩ | ⟨go,N,hN,step⟩
 · refine wpAny_passesOwn hp (thn (T.done X rfl rfl rfl hc i pins s3 σ3 H3 X.xe I3 (stat fr3) st3 stop) fun r s4 ⟨hr,I4⟩ => ?_)
   subst hr;exact wpAny_execs_nil ⟨σ3,H3,I4,qn⟩
 · refine wpAny_passesOwn hp (thn (T.item X rfl rfl rfl hc i pins s3 σ3 H3 X.xe I3 (stat fr3) st3 go) fun r s4 ⟨u,hr,h4⟩ => ?_)
   subst hr;refine wpAny_passesOwn hp (thn h4 fun _ s5 ⟨x,H5,I5,r5,y5,st5,fr5⟩ => ?_);have I5' := I5.pinned (stat fr5) (T.obj _ _ st5);refine wpAny_passesOwn hp (thn (hg _ s5 σ3 H5 x u _ I5' r5 (step x H5 y5)) fun _ s6 ⟨σ6,H6,I6,q6⟩ => ?_);refine wpAny_passesOwn hp (thn (hb _ s6 σ6 H6 _ I6 q6) fun f s7 q7 => ?_)
   have again : ∀ {σ7 : St} {H7 : Hp},Inv X (pins ++ XU fp s5.heap) σ7 H7 s7 -> N σ7 H7 -> ∃ m,m < n /\ ∃ i σ' H',Inv X pins σ' H' s7 /\ tn i s7.heap /\ (∀ b ∈ fp,H' b = none) /\ W i m σ' H' := fun {σ7 H7} I7 n7 => by
    obtain ⟨m',hm,w7⟩ := hN σ7 H7 n7;refine ⟨m',hm,i + 1,σ7,H7,I7.unpinned,T.keep _ _ _ st5 fun b hb o e => (I7.pin (b,o) (List.mem_append_right _ (List.mem_append_right _ (Q1 hb e)))).1,fun b hb => ?_,w7⟩;obtain ⟨o,e,d⟩ := T.obj _ _ st5 b hb;exact (I7.pin (b,o) (List.mem_append_right _ (List.mem_append_right _ (Q1 hb e)))).2.1
   cases f with
   | next => obtain ⟨σ7,H7,I7,n7⟩ := q7; exact again I7 n7
   | cont => obtain ⟨σ7,H7,I7,n7⟩ := q7; exact again I7 n7
   | brk => obtain ⟨σ7,H7,I7,q7⟩ := q7; exact ⟨σ7,H7,I7.unpinned,q7⟩
   | ret v => obtain ⟨x7,σ7,H7,I7,r7,q7⟩ := q7; exact ⟨x7,σ7,H7,I7.unpinned,r7,q7⟩
end
end L2
namespace L2
open PySem PySem.Spec PyProof.Rows
abbrev R2 := V -> V -> Hp -> VK -> Prop
def OpR (X : Cx) (f : Value -> Value -> Sem Value) (r : R2) : Prop :=
 ∀ (pins : List (Addr × Obj)) (s : Shared) (σ : St) (H : Hp) (x y : V) (v u : Value) (Q : VK),Inv X pins σ H s -> RelV x v -> RelV y u -> r x y H Q ->
  wpAny (model X.prog X.w) X.A (f v u) (EP X pins σ Q) X.xe s
def UnR (X : Cx) (f : Value -> Sem Value) (r : V -> Hp -> VK -> Prop) : Prop :=
 ∀ (pins : List (Addr × Obj)) (s : Shared) (σ : St) (H : Hp) (x : V) (v : Value) (Q : VK),Inv X pins σ H s -> RelV x v -> r x H Q ->
  wpAny (model X.prog X.w) X.A (f v) (EP X pins σ Q) X.xe s
def Xe (X : Cx) (f : Value) (r : List V -> Hp -> VK -> Prop) : Prop :=
 ∀ (pins : List (Addr × Obj)) (s : Shared) (σ : St) (H : Hp) (xs : List V) (us : List Value) (Q : VK),Inv X pins σ H s -> Vals xs us -> r xs H Q ->
  wpAny (model X.prog X.w) X.A (call f us) (EP X pins σ Q) X.xe s
def tOp (r : R2) (ta tb : TE) : TE := fun σ H Q => ta σ H fun x H1 => tb σ H1 fun y H2 => r x y H2 Q
def tUn (r : V -> Hp -> VK -> Prop) (ta : TE) : TE := fun σ H Q => ta σ H fun x H1 => r x H1 Q
def rI (C : Int -> Int -> Prop) (g : Int -> Int -> V) : R2 := fun x y H Q => ∃ i j,x = .int i /\ y = .int j /\ C i j /\ Q (g i j) H
def rI0 (g : Int -> Int -> V) : R2 := fun x y H Q => ∃ i j,x = .int i /\ y = .int j /\ Q (g i j) H
def rU (g : Int -> V) : V -> Hp -> VK -> Prop := fun x H Q => ∃ i,x = .int i /\ Q (g i) H
section
variable {X : Cx} {a b c : Expr} {ta tb tc : TE} {pos : Pos}
theorem ZiC (ha : PE X a ta) (hb : PE X b tb) {pins : List (Addr × Obj)} {s : Shared} {σ : St} {H : Hp} {R : V -> V -> Hp -> Prop} (I : Inv X pins σ H s)
 (h : ta σ H fun x H1 => tb σ H1 fun y H2 => R x y H2) {Q : Value -> Shared -> Prop} {f : Value -> Value -> Sem Value}
 (hf : ∀ v u s2 x y H2,Inv X pins σ H2 s2 -> RelV x v -> RelV y u -> R x y H2 -> wpAny (model X.prog X.w) X.A (f v u) Q X.xe s2) :
 wpAny (model X.prog X.w) X.A (eval a X.env) (fun v s₁ => wpAny (model X.prog X.w) X.A (eval b X.env) (fun u s₂ => wpAny (model X.prog X.w) X.A (f v u) Q X.xe s₂) X.xe s₁) X.xe s := by
 refine thn (ha pins s σ H _ I h) fun v s1 ⟨x,H1,I1,r1,q1⟩ => ?_
 refine thn (hb pins s1 σ H1 _ I1 q1) fun u s2 ⟨y,H2,I2,r2,q2⟩ => ?_
 exact hf v u s2 x y H2 I2 r1 r2 q2
theorem Zu {op : Operator} {r : R2} (ho : OpR X (binaryOp op) r) (ha : PE X a ta) (hb : PE X b tb) : PE X (.BinOp a op b pos) (tOp r ta tb) := by
 intro pins s σ H Q I h;exact wpAny_BinOp (ZiC ha hb I h fun v u s2 x y H2 I2 rx ry q => ho pins s2 σ H2 x y v u Q I2 rx ry q)
theorem Qp {op : UnaryOp} {r : V -> Hp -> VK -> Prop} (ho : UnR X (unaryOp op) r) (ha : PE X a ta) : PE X (.UnaryOp op a pos) (tUn r ta) := by
 intro pins s σ H Q I h;exact UnaryOp_ (thn (ha pins s σ H _ I h) fun v s1 ⟨x,H1,I1,r1,q1⟩ => ho pins s1 σ H1 x v Q I1 r1 q1)
theorem opI {f : Value -> Value -> Sem Value} {C : Int -> Int -> Prop} {g : Int -> Int -> Int}
 (rule : ∀ (i j : Int) (t u : Tok) (s : Shared) (Q : Value -> Shared -> Prop) (E : Value -> Shared -> Prop),C i j -> Q (.int (g i j) s.toks) { s with toks := s.toks + 1 } -> wpAny (model X.prog X.w) X.A (f (.int i t) (.int j u)) Q E s) :
 OpR X f (rI C fun i j => .int (g i j)) := by
 intro pins s σ H x y v u Q I rx ry h;obtain ⟨i,j,rfl,rfl,hc,q⟩ := h;obtain ⟨t,rfl⟩ := rx;obtain ⟨t',rfl⟩ := ry;exact rule i j t t' s _ _ hc ⟨.int (g i j),H,I.tok _,⟨_,rfl⟩,q⟩
theorem Zkt {f : Value -> Value -> Sem Value} {g : Int -> Int -> Int}
 (rule : ∀ (i j : Int) (t u : Tok) (s : Shared) (Q : Value -> Shared -> Prop) (E : Value -> Shared -> Prop),Q (.int (g i j) s.toks) { s with toks := s.toks + 1 } -> wpAny (model X.prog X.w) X.A (f (.int i t) (.int j u)) Q E s) :
 OpR X f (rI0 fun i j => .int (g i j)) := by
 intro pins s σ H x y v u Q I rx ry h;obtain ⟨i,j,rfl,rfl,q⟩ := h;obtain ⟨t,rfl⟩ := rx;obtain ⟨t',rfl⟩ := ry;exact rule i j t t' s _ _ ⟨.int (g i j),H,I.tok _,⟨_,rfl⟩,q⟩
theorem Q2 {f : Value -> Value -> Sem Value} {g : Int -> Int -> Bool}
 (rule : ∀ (i j : Int) (t u : Tok) (s : Shared) (Q : Value -> Shared -> Prop) (E : Value -> Shared -> Prop),Q (.bool (g i j)) s -> wpAny (model X.prog X.w) X.A (f (.int i t) (.int j u)) Q E s) :
 OpR X f (rI0 fun i j => .bl (g i j)) := by
 intro pins s σ H x y v u Q I rx ry h;obtain ⟨i,j,rfl,rfl,q⟩ := h;obtain ⟨t,rfl⟩ := rx;obtain ⟨t',rfl⟩ := ry;exact rule i j t t' s _ _ ⟨.bl (g i j),H,I,rfl,q⟩
def Qq (i j : Int) : Prop := 0 < j /\ j < 1073741824
def Uh (i j : Int) : Prop := 0 <= j /\ j <= 1000000 /\ i.natAbs < 2 ^ 64
def CMul (i j : Int) : Prop := (-(2 ^ 64) < i /\ i < 2 ^ 64) \/ (-(2 ^ 64) < j /\ j < 2 ^ 64)
theorem CMul.ok {i j : Int} (h : CMul i j) : IntMulOk i j := by
 rcases h with ⟨h1,h2⟩ | ⟨h1,h2⟩
 · exact .of_left (intBits_le_64 h1 h2)
 · exact .of_right (intBits_le_64 h1 h2)
theorem op_add : OpR X (binaryOp .Add) (rI0 fun i j => .int (i + j)) := Zkt fun _ _ _ _ _ _ _ q => add_int q
theorem Qr : OpR X (binaryOp .Sub) (rI0 fun i j => .int (i - j)) := Zkt fun _ _ _ _ _ _ _ q => sub_int q
theorem Z9 : OpR X (binaryOp .Mod) (rI (fun _ j => j ≠ 0) fun i j => .int (i.fmod j)) := opI fun _ _ _ _ _ _ _ hc q => mod_int' hc q
theorem ZhP : OpR X (binaryOp .Pow) (rI Uh fun i j => .int (i ^ j.toNat)) := opI fun _ _ _ _ _ _ _ hc q => pow_int_small hc.1 hc.2.1 hc.2.2 q
theorem unI {f : Value -> Sem Value} {g : Int -> Int}
 (rule : ∀ (i : Int) (t : Tok) (s : Shared) (Q : Value -> Shared -> Prop) (E : Value -> Shared -> Prop),Q (.int (g i) s.toks) { s with toks := s.toks + 1 } -> wpAny (model X.prog X.w) X.A (f (.int i t)) Q E s) :
 UnR X f (rU fun i => .int (g i)) := by
 intro pins s σ H x v Q I rx h;obtain ⟨i,rfl,q⟩ := h;obtain ⟨t,rfl⟩ := rx;exact rule i t s _ _ ⟨.int (g i),H,I.tok _,⟨_,rfl⟩,q⟩
theorem Qs : UnR X (unaryOp .USub) (rU fun i => .int (-i)) := unI fun _ _ _ _ _ q => neg_int q
end
def scal : V -> V -> Bool
 | .non,.non => true | .non,.int _ => true | .int _,.non => true | .non,.bl _ => true | .bl _,.non => true | .non,.str _ => true | .str _,.non => true
 | .int _,.int _ => true | .bl _,.bl _ => true | .str _,.str _ => true | .byt _,.byt _ => true
 | .int _,.str _ => true | .str _,.int _ => true | .bl _,.str _ => true | .str _,.bl _ => true
 | _,_ => false
def rEq : R2 := fun x y H Q => scal x y = true /\ Q (.bl (decide (x = y))) H
def rNe : R2 := fun x y H Q => scal x y = true /\ Q (.bl (!decide (x = y))) H
theorem Zdc {i j : Int} : decide (V.int i = V.int j) = (i == j) := by
 rw [Bool.eq_iff_iff];simp
theorem Zfe {i j : Bool} : decide (V.bl i = V.bl j) = (i == j) := by
 rw [Bool.eq_iff_iff];simp
theorem Zdd {i j : Str} : decide (V.str i = V.str j) = (i == j) := by
 rw [Bool.eq_iff_iff];simp
theorem Zde {i j : Array UInt8} : decide (V.byt i = V.byt j) = (i.toList == j.toList) := by
 rw [Bool.eq_iff_iff];cases i;cases j;simp
section
variable {X : Cx} {a b c : Expr} {ta tb tc : TE} {pos : Pos}
theorem ZO {pins : List (Addr × Obj)} {σ : St} {H : Hp} {s : Shared} {Q : VK} {k k' : Bool} (I : Inv X pins σ H s) (q : Q (.bl k) H) (e : k = k') : EP X pins σ Q (.bool k') s := by
 subst e;exact ⟨.bl k,H,I,rfl,q⟩
theorem ZiZ : OpR X (compareOp .Eq) rEq := by
 intro pins s σ H x y v u Q I rx ry h;obtain ⟨hs,q⟩ := h;cases x with
 | non =>
  cases rx;cases y with
  | non => cases ry; exact PySem.EqNone.eq_none_none (ZO I q (by simp))
  | bl j => cases ry; exact PySem.EqNone.eq_none_bool (ZO I q (by simp))
  | int j => obtain ⟨t',rfl⟩ := ry; exact PySem.EqNone.eq_none_int (ZO I q (by simp))
  | str j => obtain ⟨t',rfl⟩ := ry; exact PySem.EqNone.eq_none_str (ZO I q (by simp))
  | _ => exact absurd (show false = true from hs) Bool.false_ne_true
 | bl i =>
  cases rx;cases y with
  | non => cases ry; exact PySem.EqNone.eq_bool_none (ZO I q (by simp))
  | bl j => cases ry; exact eq_bool (ZO I q Zfe)
  | str j => obtain ⟨t',rfl⟩ := ry; exact PySem.EqMixed.eq_bool_str (ZO I q (by simp))
  | _ => exact absurd (show false = true from hs) Bool.false_ne_true
 | int i =>
  obtain ⟨t,rfl⟩ := rx;cases y with
  | non => cases ry; exact PySem.EqNone.eq_int_none (ZO I q (by simp))
  | int j => obtain ⟨t',rfl⟩ := ry; exact eq_int (ZO I q Zdc)
  | str j => obtain ⟨t',rfl⟩ := ry; exact PySem.EqMixed.eq_int_str (ZO I q (by simp))
  | _ => exact absurd (show false = true from hs) Bool.false_ne_true
 | str i =>
  obtain ⟨t,rfl⟩ := rx;cases y with
  | non => cases ry; exact PySem.EqNone.eq_str_none (ZO I q (by simp))
  | bl j => cases ry; exact PySem.EqMixed.eq_str_bool (ZO I q (by simp))
  | int j => obtain ⟨t',rfl⟩ := ry; exact PySem.EqMixed.eq_str_int (ZO I q (by simp))
  | str j => obtain ⟨t',rfl⟩ := ry; exact eq_str (ZO I q Zdd)
  | _ => exact absurd (show false = true from hs) Bool.false_ne_true
 | byt i =>
  obtain ⟨t,rfl⟩ := rx;cases y with
  | byt j => obtain ⟨t',rfl⟩ := ry; exact PySem.W.eq_bytes (ZO I q Zde)
  | _ => exact absurd (show false = true from hs) Bool.false_ne_true
 | _ => cases y <;> exact absurd (show false = true from hs) Bool.false_ne_true
theorem Zi0 : OpR X (compareOp .NotEq) rNe := by
 intro pins s σ H x y v u Q I rx ry h;obtain ⟨hs,q⟩ := h;cases x with
 | non =>
  cases rx;cases y with
  | non => cases ry; exact PySem.EqNone.ne_none_none (ZO I q (by simp))
  | bl j => cases ry; exact PySem.EqNone.ne_none_bool (ZO I q (by simp))
  | int j => obtain ⟨t',rfl⟩ := ry; exact PySem.EqNone.ne_none_int (ZO I q (by simp))
  | str j => obtain ⟨t',rfl⟩ := ry; exact PySem.EqNone.ne_none_str (ZO I q (by simp))
  | _ => exact absurd (show false = true from hs) Bool.false_ne_true
 | bl i =>
  cases rx;cases y with
  | non => cases ry; exact PySem.EqNone.ne_bool_none (ZO I q (by simp))
  | bl j => cases ry; exact ne_bool (ZO I q (congrArg not Zfe))
  | str j => obtain ⟨t',rfl⟩ := ry; exact PySem.EqMixed.ne_bool_str (ZO I q (by simp))
  | _ => exact absurd (show false = true from hs) Bool.false_ne_true
 | int i =>
  obtain ⟨t,rfl⟩ := rx;cases y with
  | non => cases ry; exact PySem.EqNone.ne_int_none (ZO I q (by simp))
  | int j => obtain ⟨t',rfl⟩ := ry; exact ne_int (ZO I q (congrArg not Zdc))
  | str j => obtain ⟨t',rfl⟩ := ry; exact PySem.EqMixed.ne_int_str (ZO I q (by simp))
  | _ => exact absurd (show false = true from hs) Bool.false_ne_true
 | str i =>
  obtain ⟨t,rfl⟩ := rx;cases y with
  | non => cases ry; exact PySem.EqNone.ne_str_none (ZO I q (by simp))
  | bl j => cases ry; exact PySem.EqMixed.ne_str_bool (ZO I q (by simp))
  | int j => obtain ⟨t',rfl⟩ := ry; exact PySem.EqMixed.ne_str_int (ZO I q (by simp))
  | str j => obtain ⟨t',rfl⟩ := ry; exact ne_str (ZO I q (congrArg not Zdd))
  | _ => exact absurd (show false = true from hs) Bool.false_ne_true
 | byt i =>
  obtain ⟨t,rfl⟩ := rx;cases y with
  | byt j => obtain ⟨t',rfl⟩ := ry; exact PySem.W.ne_bytes (ZO I q (congrArg not Zde))
  | _ => exact absurd (show false = true from hs) Bool.false_ne_true
 | _ => cases y <;> exact absurd (show false = true from hs) Bool.false_ne_true
theorem Zg8 : OpR X (compareOp .Lt) (rI0 fun i j => .bl (decide (i < j))) := Q2 fun _ _ _ _ _ _ _ q => lt_int q
theorem Zi1 : OpR X (compareOp .LtE) (rI0 fun i j => .bl (decide (i <= j))) := Q2 fun _ _ _ _ _ _ _ q => le_int q
theorem Zi2 : OpR X (compareOp .Gt) (rI0 fun i j => .bl (decide (j < i))) := Q2 fun _ _ _ _ _ _ _ q => gt_int q
theorem Zi3 : OpR X (compareOp .GtE) (rI0 fun i j => .bl (decide (j <= i))) := Q2 fun _ _ _ _ _ _ _ q => ge_int q
theorem ZdZ : OpR X (compareOp .In) (fun x y H Q => ∃ i j,x = .str i /\ y = .str j /\ Q (.bl (!(Builtin.Str.occurrences j i 0 j.length 1).isEmpty)) H) := by
 intro pins s σ H x y v u Q I rx ry h;obtain ⟨i,j,rfl,rfl,q⟩ := h;obtain ⟨t,rfl⟩ := rx;obtain ⟨t',rfl⟩ := ry;exact in_str (ZO I q rfl)
theorem Zbn : OpR X (compareOp .NotIn) (fun x y H Q => ∃ i j,x = .str i /\ y = .str j /\ Q (.bl (!(!(Builtin.Str.occurrences j i 0 j.length 1).isEmpty))) H) := by
 intro pins s σ H x y v u Q I rx ry h;obtain ⟨i,j,rfl,rfl,q⟩ := h;obtain ⟨t,rfl⟩ := rx;obtain ⟨t',rfl⟩ := ry;exact notIn_str (ZO I q rfl)
theorem OpR.or {f : Value -> Value -> Sem Value} {r r' : R2} (h : OpR X f r) (h' : OpR X f r') : OpR X f (fun x y H Q => r x y H Q \/ r' x y H Q) := by
 intro pins s σ H x y v u Q I rx ry q;rcases q with q | q
 · exact h pins s σ H x y v u Q I rx ry q
 · exact h' pins s σ H x y v u Q I rx ry q
theorem Xf (b : Expr) {op : CmpOp} (h : op ≠ .In := by decide) (h2 : op ≠ .NotIn := by decide) : behindInMarks op b = false := by
 have e1 : (op == CmpOp.In) = false := by cases op <;> first | rfl | exact absurd rfl h
 have e2 : (op == CmpOp.NotIn) = false := by cases op <;> first | rfl | exact absurd rfl h2
 cases b <;> simp [behindInMarks,e1,e2]
theorem Zbu {op : CmpOp} {r : R2} (ho : OpR X (compareOp op) r) (ha : PE X a ta) (hb : PE X b tb) (hm : behindInMarks op b = false) : PE X (.Compare a [op] [b] pos) (tOp r ta tb) := by
 intro pins s σ H Q I h;exact wpAny_Compare1 (ZiC ha hb I h fun v u s2 x y H2 I2 rx ry q => ho pins s2 σ H2 x y v u Q I2 rx ry q) hm
def Zg9 (t : TE) : TT := fun σ H Q => t σ H fun x H' => ∃ k,x = .bl k /\ Q k H'
theorem Xg {op : CmpOp} {r : R2} (ho : OpR X (compareOp op) r) (ha : PE X a ta) (hb : PE X b tb) (hm : behindInMarks op b = false) : PT X (.Compare a [op] [b] pos) (Zg9 (tOp r ta tb)) := by
 intro pins s σ H Q I h
 refine wpAny_isTrue_Compare1 (thn (ha pins s σ H _ I h) fun v s1 ⟨x,H1,I1,r1,q1⟩ => thn (hb pins s1 σ H1 _ I1 q1) fun u s2 ⟨y,H2,I2,r2,q2⟩ =>
  thn (ho pins s2 σ H2 x y v u _ I2 r1 r2 q2) fun c s3 ⟨z,H3,I3,r3,k,e,q3⟩ => ?_) hm
 subst e;cases r3;exact wpAny_truthy_bool ⟨H3,I3,q3⟩
theorem UK : (sizeLine : Nat) < 2 ^ 63 := by rw [sizeLine_eq]; decide
theorem Zcl : OpR X (binaryOp .Add) (fun x y H Q => ∃ i j,x = .str i /\ y = .str j /\ i.length + j.length <= sizeLine /\ Q (.str (i ++ j)) H) := by
 intro pins s σ H x y v u Q I rx ry h;obtain ⟨i,j,rfl,rfl,hz,q⟩ := h;obtain ⟨t,rfl⟩ := rx;obtain ⟨t',rfl⟩ := ry;exact add_str (fun t' tk => ⟨.str (i ++ j),H,I.tok _,⟨_,rfl⟩,q⟩) hz
theorem Vh {x : V} {us : List Value} (r : Vals [x] us) : ∃ u,us = [u] /\ RelV x u := by
 cases r with
 | cons r1 r2 => cases r2; exact ⟨_,rfl,r1⟩
theorem Zha {x y : V} {us : List Value} (r : Vals [x,y] us) : ∃ u w',us = [u,w'] /\ RelV x u /\ RelV y w' := by
 cases r with
 | cons r1 r2 =>
  cases r2 with
  | cons r3 r4 => cases r4; exact ⟨_,_,rfl,r1,r3⟩
end
end L2
namespace L2
open PySem PySem.Spec PyProof.Rows
structure ObjM (h : Heap) (x dx C : Addr) (mA : Str -> Option Value) : Prop where
 obj : h.get? x = some (instObj C dx)
 ns : h.Ns1 dx mA
 ne : dx ≠ x
theorem Zd0 {h : Heap} {dx : Addr} {mA : Str -> Option Value} (n : h.Ns1 dx mA) : ∃ od,h.get? dx = some od /\ ∀ name,PySem.W.lookIn name od = some (mA name) := by
 obtain ⟨o,es,ep,ho,hd,hk,_,hm⟩ := n;refine ⟨o,ho,fun name => ?_⟩;have e := hm name;unfold nsFind findBy at e;rw [<- Array.find?_toList] at e;unfold PySem.W.lookIn;rw [hd];dsimp only
 split
 · rename_i y q
   rw [q] at e;exact congrArg some e
 · rename_i q
   rw [q] at e
   have a : es.toList.any (·.refKey) = false := by
    rw [List.any_eq_false];intro y hy;obtain ⟨z,t,hkey⟩ := hk y (Array.mem_toList_iff.mp hy);simp [DictEntry.refKey,hkey]
   have a' : ¬ es.toList.any (·.refKey) = true := by rw [a]; exact Bool.false_ne_true
   rw [if_neg a'];exact congrArg some e
theorem ObjM.look {h : Heap} {x dx C : Addr} {mA : Str -> Option Value} (I : ObjM h x dx C mA) : ∃ od,PySem.W.InstAt h x (instObj C dx) C (some od) /\ ∀ name,PySem.W.lookIn name od = some (mA name) :=
 let ⟨od,ho,hl⟩ := Zd0 I.ns
 ⟨od,⟨I.obj,rfl,rfl,ho⟩,hl⟩
section
variable {prog : Program} {w : World} {A : Around} {E : Value -> Shared -> Prop} {s : Shared} {K : PySem.W.Frag} {x dx C f : Addr} {mA : Str -> Option Value} {name : Str} {v : Value}
theorem Zf6 {expr : Bool} {Q : Value -> Shared -> Prop} (X : K.In s.heap) (I : ObjM s.heap x dx C mA) (hg : PySem.W.plainGet K C name = true) (hh : PySem.W.hasDictIn K C = true)
 (ha : PySem.W.findIn K (.ref C) name = some none) (hv : mA name = some v) (hv' : PySem.W.handedIn v = true) (h : Q v { s with toks := s.toks + 1 }) :
 wpAny (model prog w) A (getAttr (.ref x) name expr) Q E s := by
 obtain ⟨od,J,hl⟩ := I.look;exact PySem.W.get_value X J (PySem.W.plainGet_of hg).1 (PySem.W.findObj_own hh ha rfl (by rw [hl,hv])) hv' h
theorem ZeC {pl : Sem Bool} {Q : Value × List Value -> Shared -> Prop} (X : K.In s.heap) (I : ObjM s.heap x dx C mA) (hg : PySem.W.plainGet K C name = true)
 (hf : PySem.W.findIn K (.ref C) name = some (some (.ref f))) (ht : isFn K (.ref f) = true) (hv : mA name = none) (h : Q (.ref f,[.ref x]) s) :
 wpAny (model prog w) A (getMethod (.ref x) name pl) Q E s := by
 obtain ⟨od,J,hl⟩ := I.look;exact PySem.W.method_fn X J (PySem.W.plainGet_of hg).1 (PySem.W.plainGet_of hg).2 hf (beq_iff_eq.mp ht) (by show (PySem.W.lookIn name od).map (·.isSome) = some false; rw [hl,hv]; rfl) h
theorem Zf7 {ns : List Str} {Q : Unit -> Shared -> Prop} (X : K.In s.heap) (I : ObjM s.heap x dx C mA)
 (hs : PySem.W.findIn K (.ref C) "__setattr__" = some (some (.builtin "object.__setattr__"))) (hp : PySem.W.plainOver K C = true) (ht : PySem.W.takerIn K C name = some none) (hh : PySem.W.hasDictIn K C = true)
 (hw : PySem.Within mA ns) (hsz : ns.length <= sizeLine)
 (h : ∀ h',ObjM h' x dx C (fun y => if y = name then some v else mA y) -> Heap.SameBut dx s.heap h' -> Q () { s with heap := h',toks := s.toks + 2 }) :
 wpAny (model prog w) A (setAttr (.ref x) name v) Q E s := by
 obtain ⟨od,J,hl⟩ := I.look;refine PySem.W.set_plain X J hs (PySem.W.osa_open (s:={ s with toks := s.toks + 1 }) (r:=none) X J hp ht fun b => ?_);obtain ⟨cd,hc,hd'⟩ := PySem.W.any_some hh;have hx : s.heap.get? x = some ⟨.ref C,some dx,.plain,#[]⟩ := I.obj;refine wpAny_bind (wpAny_pure (wpAny_bind (wpAny_bind (wpAny_loadPart hx (wpAny_bind (PySem.W.Looks.here (s:={ s with toks := s.toks + 1 }) (PySem.W.looks_clsIn X hc) ?_))))))
 rw [hd'];refine wpAny_pure (a:=some dx) (wpAny_bind (wpAny_pure (wpAny_bind ?_)));refine wpAny_nsSet1 (s:={ s with toks := s.toks + 1 }) I.ns fun h' hn2 hs2 => ?_
 obtain ⟨oD,esD,epD,hoD,hdD,hcD⟩ := hn2.count (PySem.Within.cons name v hw);refine wpAny_bind (wpAny_lookBehind hoD (by rw [hdD]; exact pastItsLine_dict (Nat.le_trans hcD (by rw [List.length_cons]; omega))) ?_);exact wpAny_pure (h _ ⟨(hs2.2 _ (Ne.symm I.ne)).trans I.obj,hn2,I.ne⟩ hs2)
theorem ZeD {R : Result -> Shared -> Prop} {vs : List Value} {kw : List (Str × Value)} (X : K.In s.heap) (hm : PySem.W.makesIn K C = true)
 (hi : PySem.W.findIn K (.ref C) "__init__" = some (some (.ref f))) (hf : PySem.W.typeIn K (.ref f) = some (.type "function"))
 (h : codeAny (model prog w) (A.under (.builtin "type.__call__" ⟨.ref C :: vs,kw⟩)) (.call (.ref f) ⟨.ref (s.heap.objs.size + 1) :: vs,kw⟩) (PySem.W.InitBack (s.heap.objs.size + 1) R)
   { s with heap := (s.heap.push emptyDict).push (instObj C s.heap.objs.size) }) :
 codeAny (model prog w) A (.call (.ref C) ⟨vs,kw⟩) R s := by
 obtain ⟨hh,g,d,t,os⟩ := s;exact PySem.W.make_core (PySem.W.makes_of X hm) (PySem.W.looks_findIn X hi) (fun self => PySem.W.bind_fn X self hf) (.inl rfl) h
end
def Yp (f : Str) (v : V) : List (Str × V) -> List (Str × V)
 | [] => [(f,v)]
 | (g,x) :: r => if g = f then (g,v) :: r else (g,x) :: Yp f v r
theorem Zat (f g : Str) (v : V) : ∀ fs : List (Str × V),(Yp f v fs).lookup g = if g = f then some v else fs.lookup g
 | [] => by
  show List.lookup g [(f,v)] = _
  by_cases h : g = f
  · have hb : (g == f) = true := beq_iff_eq.mpr h
    simp only [List.lookup,hb,if_pos h]
  · have hb : (g == f) = false := beq_eq_false_iff_ne.mpr h
    simp only [List.lookup,hb,if_neg h]
 | (k,x) :: r => by
  have ih := Zat f g v r;rw [show Yp f v ((k,x) :: r) = (if k = f then (k,v) :: r else (k,x) :: Yp f v r) from rfl]
  by_cases hk : k = f
  · rw [if_pos hk]
    by_cases h : g = k
    · have hb : (g == k) = true := beq_iff_eq.mpr h
      simp only [List.lookup,hb,if_pos (h.trans hk)]
    · have hb : (g == k) = false := beq_eq_false_iff_ne.mpr h
      simp only [List.lookup,hb,if_neg (fun e : g = f => h (e.trans hk.symm))]
  · rw [if_neg hk]
    by_cases h : g = k
    · have hb : (g == k) = true := beq_iff_eq.mpr h
      simp only [List.lookup,hb,if_neg (fun e : g = f => hk (h.symm.trans e))]
    · have hb : (g == k) = false := beq_eq_false_iff_ne.mpr h
      simp only [List.lookup,hb];exact ih
theorem Zam (f : Str) (v : V) : ∀ fs : List (Str × V),f ∈ (Yp f v fs).map (·.1) /\ ∀ g,g ∈ fs.map (·.1) -> g ∈ (Yp f v fs).map (·.1)
 | [] => ⟨by simp [Yp],fun g h => by simp at h⟩
 | (k,x) :: r => by
  obtain ⟨i1,i2⟩ := Zam f v r;rw [show Yp f v ((k,x) :: r) = (if k = f then (k,v) :: r else (k,x) :: Yp f v r) from rfl]
  by_cases hk : k = f
  · rw [if_pos hk]
    subst hk;exact ⟨by simp,fun g h => by simpa using h⟩
  · rw [if_neg hk]
    refine ⟨?_,fun g h => ?_⟩
    · rw [List.map_cons]
      exact List.mem_cons_of_mem _ i1
    · rw [List.map_cons] at h ⊢
      rcases List.mem_cons.mp h with e | e
      · exact List.mem_cons.mpr (.inl e)
      · exact List.mem_cons_of_mem _ (i2 g e)
theorem Zau (f : Str) (v : V) : ∀ fs : List (Str × V),(Yp f v fs).length <= fs.length + 1
 | [] => by simp [Yp]
 | (k,x) :: r => by
  have ih := Zau f v r;rw [show Yp f v ((k,x) :: r) = (if k = f then (k,v) :: r else (k,x) :: Yp f v r) from rfl]
  by_cases hk : k = f
  · rw [if_pos hk,List.length_cons,List.length_cons]; omega
  · rw [if_neg hk,List.length_cons,List.length_cons]; omega
theorem RelO.some_of {v : V} {o : Option Value} (r : RelO (some v) o) : ∃ u,o = some u /\ RelV v u := by
 cases o with
 | none => exact (show False from r).elim
 | some u => exact ⟨u,rfl,r⟩
theorem RelO.none_of {o : Option Value} (r : RelO none o) : o = none := by
 cases o with
 | none => rfl
 | some u => exact (show False from r).elim
theorem Zd1 {v : V} {u : Value} (r : RelV v u) : PySem.W.handedIn u = true := by
 cases v with
 | non => cases (show u = Value.none from r); rfl
 | bl b => cases (show u = Value.bool b from r); rfl
 | int i => obtain ⟨t,e⟩ := (show ∃ t,u = Value.int i t from r); cases e; rfl
 | str x => obtain ⟨t,e⟩ := (show ∃ t,u = Value.str x t from r); cases e; rfl
 | byt b => obtain ⟨t,e⟩ := (show ∃ t,u = Value.bytes b t from r); cases e; rfl
 | flt b => obtain ⟨t,e⟩ := (show ∃ t,u = Value.float b t from r); cases e; rfl
 | ref a => cases (show u = Value.ref a from r); rfl
 | ty n => cases (show u = Value.type n from r); rfl
section
variable {P : Program} {w : World} {H H' : Hp} {h h' : Heap} {a C dx : Addr} {fs fs' : List (Str × V)}
theorem Zbv (hok : HOk P w H h) (e : H a = some (.ins C dx fs)) : ∃ mA,ObjM h a dx C mA /\ (∀ f,RelO (fs.lookup f) (mA f)) /\ PySem.Within mA (fs.map (·.1)) /\ fs.length <= 1000 /\ H dx = some (.own a) := by
 obtain ⟨d,z,ne,ob,mA,n,r,q⟩ := (show ObjOk P w H h a (.ins C dx fs) from hok a _ e)
 exact ⟨mA,⟨ob,n,ne⟩,r,q,z,d⟩
end
structure Cls (K : PySem.W.Frag) (C : Addr) : Prop where
 pg : PySem.W.plainGet K C Str.empty = true
 hd : PySem.W.hasDictIn K C = true
 po : PySem.W.plainOver K C = true
 sa : PySem.W.findIn K (.ref C) "__setattr__" = some (some (.builtin "object.__setattr__"))
theorem Cls.get {K : PySem.W.Frag} {C : Addr} (c : Cls K C) (f : Str) : PySem.W.plainGet K C f = true := c.pg
def NoAttr (K : PySem.W.Frag) (C : Addr) (f : Str) : Prop := PySem.W.findIn K (.ref C) f = some none
theorem NoAttr.taker {K : PySem.W.Frag} {C : Addr} {f : Str} (n : NoAttr K C f) : PySem.W.takerIn K C f = some none := by
 unfold PySem.W.takerIn;rw [show PySem.W.findIn K (.ref C) f = some none from n];rfl
structure Con (K : PySem.W.Frag) (C : Addr) (f : Str) (v : V) (u : Value) : Prop where
 at_ : PySem.W.findIn K (.ref C) f = some (some u)
 rel : RelV v u
 get : PySem.W.specialIn K u "__get__" = some none
 cp : PySem.W.copiedNames.contains f = false
structure Meth (K : PySem.W.Frag) (C : Addr) (m : Str) (f : Addr) : Prop where
 at_ : PySem.W.findIn K (.ref C) m = some (some (.ref f))
 fn : isFn K (.ref f) = true
 kp : keepIn K (.ref f) = true
section
variable {X : Cx} {pins : List (Addr × Obj)} {σ : St} {H : Hp} {s : Shared} {a C dx : Addr} {fs : List (Str × V)} {f : Str} {v : V} {A : Around} {E : Value -> Shared -> Prop}
theorem Zcm {b : Bool} {Q : Value -> Shared -> Prop} (I : Inv X pins σ H s) (e : H a = some (.ins C dx fs)) (c : Cls X.K C) (n : NoAttr X.K C f) (l : fs.lookup f = some v)
 (h : ∀ u s',Inv X pins σ H s' -> RelV v u -> Q u s') : wpAny (model X.prog X.w) A (getAttr (.ref a) f b) Q E s := by
 obtain ⟨mA,O,r,_,_,_⟩ := Zbv I.hok e;obtain ⟨u,hu,ru⟩ := RelO.some_of (v:=v) (o:=mA f) (by rw [<- l]; exact r f);exact Zf6 I.kIn O (c.get f) c.hd n hu (Zd1 ru) (h u _ (I.tok _) ru)
theorem ZaA {m : Str} {g : Addr} {pl : Sem Bool} {Q : Value × List Value -> Shared -> Prop} (I : Inv X pins σ H s) (e : H a = some (.ins C dx fs)) (c : Cls X.K C) (k : Meth X.K C m g) (l : fs.lookup m = none)
 (h : Q (.ref g,[.ref a]) s) : wpAny (model X.prog X.w) A (getMethod (.ref a) m pl) Q E s := by
 obtain ⟨mA,O,r,_,_,_⟩ := Zbv I.hok e;have hn : mA m = none := RelO.none_of (by rw [<- l]; exact r m);exact ZeC I.kIn O (c.get m) k.at_ k.fn hn h
theorem Zcn {y : V} {u : Value} {Q : Unit -> Shared -> Prop} (I : Inv X pins σ H s) (e : H a = some (.ins C dx fs)) (c : Cls X.K C) (n : NoAttr X.K C f) (hl : fs.length < 1000) (ry : RelV y u)
 (h : ∀ s',Inv X pins σ (upd H a (.ins C dx (Yp f y fs))) s' -> Q () s') : wpAny (model X.prog X.w) A (setAttr (.ref a) f u) Q E s := by
 obtain ⟨mA,O,r,wi,_,ho⟩ := Zbv I.hok e;have hz : (fs.map (·.1)).length <= sizeLine := by rw [List.length_map,sizeLine_eq]; omega
 refine Zf7 I.kIn O c.sa c.po n.taker c.hd wi hz fun h' O' sb => h _ ?_
 have hd : ∃ o,h'.get? dx = some o := let ⟨o,_,_,e',_⟩ := O'.ns; ⟨o,e'⟩
 refine I.write (x:=a) (e:=dx) (by rw [e]; exact True.intro) (.inr ho) (fun b q hb z => (sb.2 b hb).trans z) hd ?_;refine ⟨by rw [Zt O.ne]; exact ho,?_,O.ne,O'.obj,_,O'.ns,fun g => ?_,fun g hg => ?_⟩
 · have := Zau f y fs; omega
 · show RelO ((Yp f y fs).lookup g) (if g = f then some u else mA g)
   rw [Zat]
   by_cases q : g = f
   · rw [if_pos q,if_pos q]; exact ry
   · rw [if_neg q,if_neg q]; exact r g
 · by_cases q : g = f
   · rw [q]; exact (Zam f y fs).1
   · refine (Zam f y fs).2 g (wi g fun z => hg ?_)
     show (if g = f then some u else mA g) = none;rw [if_neg q]; exact z
theorem Inv.made (I : Inv X pins σ H s) : Inv X pins σ (upd (upd H s.heap.objs.size (.own (s.heap.objs.size + 1))) (s.heap.objs.size + 1) (.ins C s.heap.objs.size []))
 { s with heap := (s.heap.push emptyDict).push (instObj C s.heap.objs.size) } := by
 have e1 : (s.heap.push emptyDict).get? s.heap.objs.size = some emptyDict := Heap.get?_push_size s.heap rfl
 have e2 : ((s.heap.push emptyDict).push (instObj C s.heap.objs.size)).get? (s.heap.objs.size + 1) = some (instObj C s.heap.objs.size) := by
  have := Heap.get?_push_size (s.heap.push emptyDict) (o:=instObj C s.heap.objs.size) rfl
  rwa [Heap.size_push] at this
 have e3 : (s.heap.push emptyDict).Ns s.heap.objs.size (fun _ => none) := ⟨emptyDict,#[],_,e1,rfl,(fun e he => absurd he (by simp)),fun _ => rfl⟩
 have I1 := I.laid (a:=s.heap.objs.size) (o:=.own (s.heap.objs.size + 1)) (h' := s.heap.push emptyDict) (t' := s.toks) (fun b u q => Heap.get?_push_of_some _ q) (Nat.le_refl _) ⟨_,e1⟩;refine I1.laid (a:=s.heap.objs.size + 1) (o:=.ins C s.heap.objs.size []) (t' := s.toks) (fun b u q => Heap.get?_push_of_some _ q) (Nat.le_of_eq (Heap.size_push _ _)) ?_;have ne : s.heap.objs.size ≠ s.heap.objs.size + 1 := Nat.ne_of_lt (Nat.lt_succ_self _)
 refine ⟨by rw [Zt ne,ZM],Nat.zero_le _,ne,e2,fun _ => none,(Heap.Ns1.of_empty e3).at fun o q => Heap.get?_push_of_some _ q,fun _ => True.intro,fun y hy => absurd rfl hy⟩
theorem Zf8 {prog : Program} {w : World} {env : Env} {e : Expr} {f : Str} {pos : Pos} {s : Shared} {Q : Value -> Shared -> Prop} (hb : attributeBase e f env (eval e env) = eval e env)
 (h : wpAny (model prog w) A (eval e env) (fun o s₁ => wpAny (model prog w) A (getAttr o f true) Q E s₁) E s) : wpAny (model prog w) A (eval (.Attribute e f pos) env) Q E s :=
 Attribute_any_ h (by rw [arm_eval_Attribute,hb])
end
def ZiD (K : PySem.W.Frag) (ta : TE) (f : Str) : TE := fun σ H Q => ta σ H fun x H1 => ∃ a C dx fs v,x = .ref a /\ H1 a = some (.ins C dx fs) /\ Cls K C /\ NoAttr K C f /\ fs.lookup f = some v /\ Q v H1
def Zku (K : PySem.W.Frag) (ta tv : TE) (f : Str) : TS := fun D σ H => tv σ H fun y H1 => ta σ H1 fun x H2 => ∃ a C dx fs,x = .ref a /\ H2 a = some (.ins C dx fs) /\ Cls K C /\ NoAttr K C f /\ fs.length < 1000 /\
 D.nx σ (upd H2 a (.ins C dx (Yp f y fs)))
section
variable {X : Cx} {o e value : Expr} {f : Str} {pos pos' tpos : Pos} {ta tv : TE}
theorem ZhQ (he : PE X e ta) (hb : attributeBase e f X.env (eval e X.env) = eval e X.env) : PE X (.Attribute e f pos) (ZiD X.K ta f) := by
 intro pins s σ H Q I h;refine Zf8 hb (thn (he pins s σ H _ I h) fun u s1 ⟨x,H1,I1,rx,a,C,dx,fs,v,ex,ea,c,n,l,q⟩ => ?_);subst ex;obtain rfl : u = Value.ref a := rx;exact Zcm I1 ea c n l fun u' s2 I2 ru => ⟨v,H1,I2,ru,q⟩
theorem Zff (ha : PE X o ta) (hv : PE X value tv) (hs : swapsWith value (some (.Attribute o f pos')) pos.line X.env = pure false) : PS X (.Assign [.Attribute o f pos'] value pos) (Zku X.K ta tv f) := by
 intro pins s σ H D I h;refine plainObj_wpAny_Assign_Attribute (thn (hv pins s σ H _ I h) fun u s1 ⟨y,H1,I1,ry,q⟩ => thn (ha pins s1 σ H1 _ I1 q) fun ov s2 ⟨x,H2,I2,rx,a,C,dx,fs,ex,ea,c,n,l,q2⟩ => ?_) hs;subst ex;obtain rfl : ov = Value.ref a := rx;exact Zcn I2 ea c n l ry fun s3 I3 => ⟨σ,_,I3,q2⟩
end
section
variable {X : Cx} {pins : List (Addr × Obj)} {σ : St} {H : Hp} {s : Shared} {A : Around} {E : Value -> Shared -> Prop} {Q : Value -> Shared -> Prop} {c : Value} {b : Bool}
inductive TyOf (K : PySem.W.Frag) (H : Hp) : V -> Value -> Prop where
 | non : TyOf K H .non (.type "NoneType")
 | bl (x : Bool) : TyOf K H (.bl x) (.type "bool")
 | int (i : Int) : TyOf K H (.int i) (.type "int")
 | str (x : Str) : TyOf K H (.str x) (.type "str")
 | flt (x : UInt64) : TyOf K H (.flt x) (.type "float")
 | lst {a : Addr} {xs : List V} (e : H a = some (.lst xs)) : TyOf K H (.ref a) (.type "list")
 | frz {a : Addr} {o : Obj} {xs : List V} (e : H a = some (.frz o (.lst xs))) : TyOf K H (.ref a) (.type "list")
 | tup {a : Addr} {xs : List V} (e : H a = some (.tup xs)) : TyOf K H (.ref a) (.type "tuple")
 | dK {a : Addr} {kvs : List (Key × V)} (e : H a = some (.dK kvs)) : TyOf K H (.ref a) (.type "dict")
 | dT {a : Addr} {kvs : List (List Key × V)} (e : H a = some (.dT kvs)) : TyOf K H (.ref a) (.type "dict")
 | ins {a C dx : Addr} {fs : List (Str × V)} (e : H a = some (.ins C dx fs)) (cl : Cls K C) (ha : PySem.W.findIn K (.ref C) "__class__" = some (some (.builtin "object.__class__")))
  (hn : PySem.W.specialIn K (.builtin "object.__class__") "__get__" = some (some (.builtin "getset_descriptor.__get__"))) (htk : PySem.W.takesIn K (.builtin "object.__class__") = some true)
  (hm : PySem.W.mroIn K C (.type "object") = some true) : TyOf K H (.ref a) (.ref C)
end
end L2
namespace L2
open PySem PySem.Spec PyProof.Rows
structure Room (k : Nat) (A : Around) : Prop where
 hd : A.handled = none
 dp : A.depth + 3 * k + 5 < recursionLimit
 un : A.units + 16 * k + 200 < cLine
theorem Room.mono {j k : Nat} {A : Around} (r : Room k A) (h : j <= k) : Room j A := ⟨r.hd,by have := r.dp; omega,by have := r.un; omega⟩
theorem Room.deeper {k : Nat} {A : Around} (r : Room (k + 1) A) (env : Env) : Room k (A.deeper env) :=
 ⟨r.hd,by have := r.dp; show A.depth + 1 + 3 * k + 5 < _; omega,by have := r.un; show A.units + 3 + 16 * k + 200 < _; omega⟩
theorem Zco {A : Around} {C : Addr} {us : List Value} {kw : List (Str × Value)} : (A.under (.builtin "type.__call__" ⟨.ref C :: us,kw⟩)).depth = A.depth + 1 := by
 first | rfl | simp [Around.under,Code.weight,Code.isCreation,Code.isGuard,Code.isCaller,Code.frames,Code.isFrame,guardIds]
theorem Zcp {A : Around} {C : Addr} {us : List Value} {kw : List (Str × Value)} : (A.under (.builtin "type.__call__" ⟨.ref C :: us,kw⟩)).units = A.units + 1 := by
 first | rfl | simp [Around.under,Code.cUnits,Code.frames,Code.isFrame]
theorem Room.make {k : Nat} {A : Around} (r : Room (k + 1) A) (C : Addr) (us : List Value) (kw : List (Str × Value)) : Room k (A.under (.builtin "type.__call__" ⟨.ref C :: us,kw⟩)) :=
 ⟨r.hd,by have := r.dp; rw [Zco]; omega,by have := r.un; rw [Zcp]; omega⟩
theorem Room.depth {k : Nat} {A : Around} (r : Room k A) : A.depth < recursionLimit := by have := r.dp; omega
theorem Room.units {k : Nat} {A : Around} (r : Room k A) : A.units + 64 < cLine := by have := r.un; omega
def tNil : TA := fun _ H Q => Q [] H
def YT (ta : TE) (tr : TA) : TA := fun σ H Q => ta σ H fun x H1 => tr σ H1 fun xs H2 => Q (x :: xs) H2
section
variable {X : Cx} {e : Expr} {es : List Expr} {te : TE} {t : TA} {pos : Pos}
theorem Zk : PA X [] tNil := fun _ _ _ _ H Q I h => Calls.spliced_nil ⟨[],H,I,.nil,h⟩
theorem Ze (ha : PE X e te) (hr : PA X es t) (hs : starEach (e :: es) X.env = (false,eval e X.env) :: starEach es X.env := by rfl) : PA X (e :: es) (YT te t) := by
 intro pos pins s σ H Q I h;rw [hs];show wpAny _ _ (spliced ((false,eval e X.env) :: backTo pos (starEach es X.env))) _ _ s;refine Calls.spliced_cons (thn (ha pins s σ H _ I h) fun u s1 ⟨x,H1,I1,r1,q1⟩ => ?_);exact thn (hr pos pins s1 σ H1 _ I1 q1) fun us s2 ⟨xs,H2,I2,r2,q2⟩ => ⟨x :: xs,H2,I2,.cons r1 r2,q2⟩
def Zkv (t : TA) : TE := fun σ H Q => t σ H fun xs H1 => xs.length <= sizeLine /\ ∀ p,H1 p = none -> Q (.ref p) (upd H1 p (.tup xs))
def UL (t : TA) : TE := fun σ H Q => t σ H fun xs H1 => xs.length <= sizeLine /\ ∀ p,H1 p = none -> Q (.ref p) (upd H1 p (.lst xs))
theorem ZhR {x1} (h : PA X es t) : PE X (.Tuple es x1 pos) (Zkv t) := by
 intro pins s σ H Q I hq;refine wpAny_Tuple_spliced (thn (h pos pins s σ H _ I hq) fun us s1 ⟨xs,H1,I1,r,z,q⟩ => ⟨by rw [<- r.length]; exact z,?_⟩);have hf : H1 s1.heap.objs.size = none := I1.hok.fresh (Nat.le_refl _);refine ⟨.ref s1.heap.objs.size,upd H1 s1.heap.objs.size (.tup xs),I1.laid (t' := s1.toks) (fun b u e => Heap.get?_push_of_some _ e) (Nat.le_refl _) ?_,rfl,q _ hf⟩;exact ⟨z,us,r,⟨_,Heap.get?_push_size _ rfl,rfl,⟨_,rfl⟩,rfl⟩⟩
theorem YJ (h : PA X es t) : PE X (.List es pos) (UL t) := by
 intro pins s σ H Q I hq;refine wpAny_List_spliced (thn (h pos pins s σ H _ I hq) fun us s1 ⟨xs,H1,I1,r,z,q⟩ => ⟨by rw [<- r.length]; exact z,?_⟩);have hf : H1 s1.heap.objs.size = none := I1.hok.fresh (Nat.le_refl _);refine ⟨.ref s1.heap.objs.size,upd H1 s1.heap.objs.size (.lst xs),I1.laid (t' := s1.toks) (fun b u e => Heap.get?_push_of_some _ e) (Nat.le_refl _) ?_,rfl,q _ hf⟩;exact ⟨z,us,0,r,Heap.get?_push_size _ rfl⟩
end
abbrev Sp := List V -> Hp -> VK -> XK -> Prop
abbrev CXT := List Env -> Hp -> Shared -> XK -> Value -> Shared -> Prop
structure Env0 (P : Program) (w : World) (K : PySem.W.Frag) (mg : Str -> Option Value) (base : Heap) (A : Around) (outer : List Env) (s : Shared) (H : Hp) : Prop where
 frames : A.frames = some outer
 mod : Mod K mg base
 bs : ∀ b o,base.get? b = some o -> s.heap.get? b = some o /\ H b = none
 bsz : base.objs.size <= s.heap.objs.size
 funs : s.heap.FunFrames base outer
 frf : ∀ b ∈ frs outer,H b = none
 hok : HOk P w H s.heap
 bare : AllBare s.gens
def CE (outer : List Env) (P : Program) (w : World) (H : Hp) (s : Shared) (Q : VK) (u : Value) (s' : Shared) : Prop :=
 ∃ v H',s'.os = s.os /\ AllBare s'.gens /\ Un (frs outer) [] H H' s.heap s'.heap /\ HOk P w H' s'.heap /\ RelV v u /\ Q v H'
def CR (CX : CXT) (outer : List Env) (P : Program) (w : World) (H : Hp) (s : Shared) (Q : VK) (E : XK) (r : Result) (s' : Shared) : Prop :=
 match r with
 | .ok (.ret u) => CE outer P w H s Q u s'
 | .ok _ => False
 | .error e => CX outer H s E e s'
structure FnOk (P : Program) (w : World) (K : PySem.W.Frag) (mg : Str -> Option Value) (base : Heap) (CX : CXT) (k : Nat) (f : Addr) (fd : FuncData) (ps : List Str) (sp : Sp) : Prop where
 len : ∀ vs H Q E,sp vs H Q E -> vs.length = ps.length
 run : ∀ (A : Around) (outer : List Env) (s : Shared) (H : Hp) (args : Args) (us : List Value) (vs : List V) (Q : VK) (E : XK),Room k A -> Env0 P w K mg base A outer s H -> BindsTo s fd args (ps.zip us) -> Vals vs us -> sp vs H Q E ->
  codeAny (model P w) A (.call (.ref f) args) (CR CX outer P w H s Q E) s
theorem FnOk.mono {P : Program} {w : World} {K : PySem.W.Frag} {mg : Str -> Option Value} {base : Heap} {CX : CXT} {j k : Nat} {f : Addr} {fd : FuncData} {ps : List Str} {sp : Sp} (F : FnOk P w K mg base CX j f fd ps sp) (h : j <= k) :
 FnOk P w K mg base CX k f fd ps sp := ⟨F.len,fun A outer s H args us vs Q E hr => F.run A outer s H args us vs Q E (hr.mono h)⟩
theorem FnOk.imp {P : Program} {w : World} {K : PySem.W.Frag} {mg : Str -> Option Value} {base : Heap} {CX : CXT} {k : Nat} {f : Addr} {fd : FuncData} {ps : List Str} {sp sp' : Sp} (F : FnOk P w K mg base CX k f fd ps sp)
 (h : ∀ vs H Q E,sp' vs H Q E -> sp vs H Q E) : FnOk P w K mg base CX k f fd ps sp' :=
 ⟨fun vs H Q E q => F.len vs H Q E (h _ _ _ _ q),fun A outer s H args us vs Q E hr he hb hv hs => F.run A outer s H args us vs Q E hr he hb hv (h _ _ _ _ hs)⟩
theorem Env0.make {P : Program} {w : World} {K : PySem.W.Frag} {mg : Str -> Option Value} {base : Heap} {A : Around} {outer : List Env} {s : Shared} {H : Hp} (e : Env0 P w K mg base A outer s H) (C : Addr) (us : List Value) (kw : List (Str × Value)) :
 Env0 P w K mg base (A.under (.builtin "type.__call__" ⟨.ref C :: us,kw⟩)) outer s H := ⟨by first | exact e.frames | (simpa [Around.under,Code.envs,Code.isFrame,pushEnvs] using e.frames),e.mod,e.bs,e.bsz,e.funs,e.frf,e.hok,e.bare⟩
section
variable {X : Cx} {pins : List (Addr × Obj)} {σ : St} {H : Hp} {s s' : Shared}
theorem Inv.env0 (I : Inv X pins σ H s) : Env0 X.prog X.w X.K X.mg X.base X.A X.stack s H :=
 ⟨I.ok.frames,I.ok.mod,I.bs,Nat.le_trans I.ok.bsz I.sz,I.stack,I.stkFree,I.hok,I.bare⟩
theorem Inv.after {Q : VK} {u : Value} (I : Inv X pins σ H s) (h : CE X.stack X.prog X.w H s Q u s') : EP X pins σ Q u s' := by
 obtain ⟨v,H',os,bare,un,hok,r,q⟩ := h;obtain ⟨hh,g,d,t,os'⟩ := s';obtain rfl : os' = s.os := os;exact ⟨v,H',I.call (h' := hh) (g' := g) (d' := d) (t' := t) (ch:=[]) un hok bare (fun b z => absurd z (by simp)),r,q⟩
end
def UM (sp : Sp) (dvs : List V) (E : XK) (t : TA) : TE := fun σ H Q => t σ H fun vs H1 => sp (vs ++ dvs) H1 Q E
def Zhb (C : Addr) (sp : Sp) (dvs : List V) (E : XK) (t : TA) : TE := fun σ H Q => t σ H fun vs H1 => ∀ x dx,H1 x = none -> H1 dx = none -> dx ≠ x ->
 sp (.ref x :: (vs ++ dvs)) (upd (upd H1 dx (.own x)) x (.ins C dx [])) (fun v H2 => v = .non /\ Q (.ref x) H2) E
def Binds (K : PySem.W.Frag) (fd : FuncData) (ps : List Str) (ds : List Value) : Prop :=
 ∀ (s : Shared) (us : List Value),K.In s.heap -> (us ++ ds).length = ps.length -> BindsTo s fd ⟨us,[]⟩ (ps.zip (us ++ ds))
theorem Binds.all {K : PySem.W.Frag} {fd : FuncData} {ps : List Str} (h : ∀ us : List Value,us.length = ps.length -> bindArgs fd ⟨us,[]⟩ = pure (ps.zip us)) : Binds K fd ps [] := fun s us _ hl => by
 rw [List.append_nil] at hl ⊢;exact .of_eq (h us hl)
def VV (CX : CXT) (X : Cx) (E : XK) : Prop := ∀ (pins : List (Addr × Obj)) (σ : St) (H : Hp) (s : Shared) (e : Value) (s' : Shared),Inv X pins σ H s -> CX X.stack H s E e s' -> X.xe e s'
section
variable {X : Cx} {CX : CXT} {k : Nat} {f C : Addr} {fd : FuncData} {ps : List Str} {sp : Sp} {dvs : List V} {ds : List Value} {E : XK} {x m : Str} {p pos apos : Pos} {e o : Expr} {es : List Expr} {ta : TE} {t : TA}
theorem ZcS {pins : List (Addr × Obj)} {σ : St} {H : Hp} {s : Shared} {Q : VK} {us : List Value} {vs : List V} (F : FnOk X.prog X.w X.K X.mg X.base CX k f fd ps sp) (hr : Room k X.A) (hb : Binds X.K fd ps ds) (hd : Vals dvs ds) (hx : VV CX X E)
 (I : Inv X pins σ H s) (r : Vals vs us) (h : sp (vs ++ dvs) H Q E) : wpAny (model X.prog X.w) X.A (call (.ref f) us) (EP X pins σ Q) X.xe s := by
 have r2 : Vals (vs ++ dvs) (us ++ ds) := r.append hd;have hl : (us ++ ds).length = ps.length := by rw [<- r2.length]; exact F.len _ _ _ _ h
 refine wpAny_call (codeAny_mono (F.run X.A X.stack s H ⟨us,[]⟩ (us ++ ds) (vs ++ dvs) Q E hr I.env0 (hb s us I.kIn hl) r2 h) fun r s' hq => ?_);cases r with
 | error e => exact hx pins σ H s e s' I hq
 | ok fl =>
  cases fl with
  | ret u => exact I.after hq
  | next => exact False.elim hq
  | brk => exact False.elim hq
  | cont => exact False.elim hq
theorem Z0 (F : FnOk X.prog X.w X.K X.mg X.base CX k f fd ps sp) (hr : Room k X.A) (hg : Gl X x) (hm : X.mg x = some (.ref f)) (hk : keepIn X.K (.ref f) = true) (hb : Binds X.K fd ps ds) (hd : Vals dvs ds) (hx : VV CX X E)
 (ha : PA X (e :: es) t) (hdb : (x == ("__debug__" : Str)) = false := by decide) (he : starEach (e :: es) X.env = (false,eval e X.env) :: starEach es X.env := by rfl) (hpl : (backTo pos (starEach es X.env)).any (·.1) = false := by rfl) :
 PE X (.Call (.Name x p) (e :: es) [] pos) (UM sp dvs E t) := by
 intro pins s σ H Q I h;refine wpAny_Call_Name_kw (Ue I hg hm ?_ hdb);refine PySem.W.callWith_K (h₀:=X.base) I.ok.mod.kin hk (thn (ha pos pins s σ H _ I h) fun us s1 ⟨vs,H1,I1,r,q⟩ => ⟨I1.kIn,?_⟩) he hpl;exact ZcS F hr hb hd hx I1 r q
structure Mk (K : PySem.W.Frag) (C f : Addr) : Prop where
 makes : PySem.W.makesIn K C = true
 init : PySem.W.findIn K (.ref C) "__init__" = some (some (.ref f))
 fn : isFn K (.ref f) = true
 kp : keepIn K (.ref C) = true
theorem ZeE {pins : List (Addr × Obj)} {σ : St} {H : Hp} {s : Shared} {Q : VK} {us : List Value} {vs : List V} (M : Mk X.K C f) (F : FnOk X.prog X.w X.K X.mg X.base CX k f fd ps sp) (hr : Room (k + 1) X.A) (hb : Binds X.K fd ps ds) (hd : Vals dvs ds)
 (hx : VV CX X E) (I : Inv X pins σ H s) (r : Vals vs us)
 (h : ∀ x dx,H x = none -> H dx = none -> dx ≠ x -> sp (.ref x :: (vs ++ dvs)) (upd (upd H dx (.own x)) x (.ins C dx [])) (fun v H2 => v = .non /\ Q (.ref x) H2) E) :
 wpAny (model X.prog X.w) X.A (call (.ref C) us) (EP X pins σ Q) X.xe s := by
 have hq := h (s.heap.objs.size + 1) s.heap.objs.size (I.hok.fresh (Nat.le_succ _)) (I.hok.fresh (Nat.le_refl _)) (Nat.ne_of_lt (Nat.lt_succ_self _));have I2 := Inv.made (C:=C) I;have r2 : Vals (V.ref (s.heap.objs.size + 1) :: (vs ++ dvs)) (Value.ref (s.heap.objs.size + 1) :: (us ++ ds)) := .cons rfl (r.append hd)
 have hl : (Value.ref (s.heap.objs.size + 1) :: us ++ ds).length = ps.length := by
  have e := r2.length;rw [F.len _ _ _ _ hq] at e;exact e.symm
 refine wpAny_call (ZeD (f:=f) I.kIn M.makes M.init (beq_iff_eq.mp M.fn) (codeAny_mono (F.run _ X.stack _ _ ⟨Value.ref (s.heap.objs.size + 1) :: us,[]⟩ (Value.ref (s.heap.objs.size + 1) :: (us ++ ds)) _ _ E (hr.make C us [])
  (I2.env0.make C us []) (hb _ (Value.ref (s.heap.objs.size + 1) :: us) I2.kIn hl) r2 hq) fun r s' hq' => ?_))
 cases r with
 | error e => exact hx pins σ _ _ e s' I2 hq'
 | ok fl =>
  cases fl with
  | ret u =>
   obtain ⟨v,H',I3,rv,ev,q3⟩ := I2.after hq';subst ev;exact ⟨rv,⟨V.ref (s.heap.objs.size + 1),H',I3,rfl,q3⟩⟩
  | next => exact False.elim hq'
  | brk => exact False.elim hq'
  | cont => exact False.elim hq'
theorem Zf9 (M : Mk X.K C f) (F : FnOk X.prog X.w X.K X.mg X.base CX k f fd ps sp) (hr : Room (k + 1) X.A) (hg : Gl X x) (hm : X.mg x = some (.ref C)) (hb : Binds X.K fd ps ds) (hd : Vals dvs ds) (hx : VV CX X E)
 (ha : PA X (e :: es) t) (hdb : (x == ("__debug__" : Str)) = false := by decide) (he : starEach (e :: es) X.env = (false,eval e X.env) :: starEach es X.env := by rfl) (hpl : (backTo pos (starEach es X.env)).any (·.1) = false := by rfl) :
 PE X (.Call (.Name x p) (e :: es) [] pos) (Zhb C sp dvs E t) := by
 intro pins s σ H Q I h;refine wpAny_Call_Name_kw (Ue I hg hm ?_ hdb);refine PySem.W.callWith_K (h₀:=X.base) I.ok.mod.kin M.kp (thn (ha pos pins s σ H _ I h) fun us s1 ⟨vs,H1,I1,r,q⟩ => ⟨I1.kIn,?_⟩) he hpl;exact ZeE M F hr hb hd hx I1 r q
end
def PK (X : Cx) (kws : List Keyword) (t : TA) : Prop :=
 ∀ (pos : Pos) (pins : List (Addr × Obj)) (s : Shared) (σ : St) (H : Hp) (Q : List V -> Hp -> Prop),Inv X pins σ H s -> t σ H Q -> wpAny (model X.prog X.w) X.A (evalAll ((backToKw pos (keywordEach kws X.env)).map (·.2))) (AP X pins σ Q) X.xe s
section
variable {X : Cx} {CX : CXT} {k : Nat} {f C : Addr} {fd : FuncData} {ps ks : List Str} {sp : Sp} {E : XK} {x m : Str} {p pos apos kpos : Pos} {e o : Expr} {es : List Expr} {kws : List Keyword} {te ta : TE} {t tk : TA} {nm : Option Str}
theorem ZhS : PK X [] tNil := fun _ _ _ _ H Q I h => wpAny_evalAll_nil ⟨[],H,I,.nil,h⟩
theorem Zga (ha : PE X e te) (hr : PK X kws t) : PK X (⟨nm,e,kpos⟩ :: kws) (YT te t) := by
 intro pos pins s σ H Q I h;show wpAny _ _ (evalAll ((do let v <- eval e X.env; standAt pos; pure v) :: (backToKw pos (keywordEach kws X.env)).map (·.2))) _ _ s;refine wpAny_evalAll_cons (wpAny_bind (thn (ha pins s σ H _ I h) fun u s1 ⟨x,H1,I1,r1,q1⟩ => wpAny_bind (wpAny_standAt (wpAny_pure ?_))));exact thn (hr pos pins s1 σ H1 _ I1 q1) fun us s2 ⟨xs,H2,I2,r2,q2⟩ => ⟨x :: xs,H2,I2,.cons r1 r2,q2⟩
structure KBinds (K : PySem.W.Frag) (fd : FuncData) (ps ks : List Str) (g : List Value -> List Value -> List Value) (gV : List V -> List V -> List V) : Prop where
 to : ∀ (s : Shared) (us ws : List Value),K.In s.heap -> (g us ws).length = ps.length -> BindsTo s fd ⟨us,ks.zip ws⟩ (ps.zip (g us ws))
 rel : ∀ {vs : List V} {us : List Value} {zs : List V} {ws : List Value},Vals vs us -> Vals zs ws -> Vals (gV vs zs) (g us ws)
variable {g : List Value -> List Value -> List Value} {gV : List V -> List V -> List V}
end
structure FnScope (N P : List Str) (sc : Scope) : Prop where
 kind : sc.kind = .function
 co : sc.isCoroutine = false
 gen : sc.isGenerator = false
 nd : N.Nodup
 pre : N.take P.length = P
 par : ∀ x ∈ P,sc.names.lookup x = some .local \/ sc.names.lookup x = some .cell
 nofree : ∀ y ∈ sc.names,y.2 ≠ .free
theorem Za1 {kindOf : Str -> Option NameKind} {x : Str} : ∀ {binds : List (Str × Value)} {m : Str -> Option Value},(∀ v,(x,v) ∉ binds) -> bindL kindOf binds m x = m x
 | [],_,_ => rfl
 | (n,v) :: r,m,h => by
  unfold bindL;rw [Za1 fun w hw => h w (List.mem_cons_of_mem _ hw)]
  split
  · have : x ≠ n := by rintro rfl; exact h v List.mem_cons_self
    simp [this]
  · rfl
theorem Za2 {kindOf : Str -> Option NameKind} {x : Str} : ∀ {binds : List (Str × Value)} {m : Str -> Option Value},(∀ v,(x,v) ∉ binds) -> bindC kindOf binds m x = m x
 | [],_,_ => rfl
 | (n,v) :: r,m,h => by
  unfold bindC;rw [Za2 fun w hw => h w (List.mem_cons_of_mem _ hw)]
  split
  · rfl
  · have : x ≠ n := by rintro rfl; exact h v List.mem_cons_self
    simp [this]
theorem Za3 {kindOf : Str -> Option NameKind} {x : Str} {v : Value} : ∀ {P : List Str} {vs : List Value} {i : Nat} {m : Str -> Option Value},P.Nodup -> P[i]? = some x -> vs[i]? = some v -> kindOf x = some .local ->
 bindL kindOf (P.zip vs) m x = some v
 | [],_,_,_,_,h,_,_ => by simp at h
 | _ :: _,[],_,_,_,_,h,_ => by simp at h
 | p :: P,w :: vs,0,m,nd,h1,h2,hk => by
  simp at h1 h2; subst h1; subst h2;show bindL kindOf ((p,w) :: P.zip vs) m p = _;unfold bindL;rw [Za1 fun v hv => (List.nodup_cons.mp nd).1 (List.of_mem_zip hv).1,if_pos hk];simp
 | p :: P,w :: vs,i + 1,m,nd,h1,h2,hk => by
  show bindL kindOf ((p,w) :: P.zip vs) m x = _;unfold bindL;exact Za3 (i:=i) (List.nodup_cons.mp nd).2 (by simpa using h1) (by simpa using h2) hk
theorem Za4 {kindOf : Str -> Option NameKind} {x : Str} {v : Value} : ∀ {P : List Str} {vs : List Value} {i : Nat} {m : Str -> Option Value},P.Nodup -> P[i]? = some x -> vs[i]? = some v -> kindOf x ≠ some .local ->
 bindC kindOf (P.zip vs) m x = some v
 | [],_,_,_,_,h,_,_ => by simp at h
 | _ :: _,[],_,_,_,_,h,_ => by simp at h
 | p :: P,w :: vs,0,m,nd,h1,h2,hk => by
  simp at h1 h2; subst h1; subst h2;show bindC kindOf ((p,w) :: P.zip vs) m p = _;unfold bindC;rw [Za2 fun v hv => (List.nodup_cons.mp nd).1 (List.of_mem_zip hv).1,if_neg hk];simp
 | p :: P,w :: vs,i + 1,m,nd,h1,h2,hk => by
  show bindC kindOf ((p,w) :: P.zip vs) m x = _;unfold bindC;exact Za4 (i:=i) (List.nodup_cons.mp nd).2 (by simpa using h1) (by simpa using h2) hk
def start (N : List Str) (vs : List V) : St := vs.map some ++ List.replicate (N.length - vs.length) none
def Yu (CX : CXT) (P : Program) (w : World) (K : PySem.W.Frag) (mg : Str -> Option Value) (base : Heap) (N : List Str) (qual : Str) (scope : Scope) (f : Addr) (cd : Value) (A : Around) (outer : List Env) (s : Shared) (H : Hp) (E : XK) : Cx where
 prog := P
 w := w
 K := K
 mg := mg
 base := base
 A := A.deeper (envOfC qual scope s.heap.objs.size f cd)
 N := N
 s₀ := s
 H₀ := H
 env := envOfC qual scope s.heap.objs.size f cd
 outer := outer
 stack := envOfC qual scope s.heap.objs.size f cd :: outer
 ex := []
 calm := true
 fn := fun _ => true
 pn := []
 xe := fun e s' => wpAny (model P w) (A.deeper (envOfC qual scope s.heap.objs.size f cd)) (leaving (envOfC qual scope s.heap.objs.size f cd) e) (fun _ s'' => CX outer H s E e s'') (fun e' s'' => CX outer H s E e' s'') s'
theorem ZbU {sc : Scope} {n : Nat} {x : Str} (h : sc.names.lookup x = some .cell) : ∃ c,(cellsFrom n sc.names []).lookup x = some c := by
 have q := PySem.W.cellsFrom_some sc.names n [] (.inl h);exact Option.isSome_iff_exists.mp q
theorem Za5 {CX : CXT} {P : Program} {w : World} {K : PySem.W.Frag} {mg : Str -> Option Value} {base : Heap} {N ps : List Str} {qual : Str} {scope : Scope} {f : Addr} {cd : Value} {A : Around} {outer : List Env} {s s1 : Shared} {H : Hp} {E : XK} {us : List Value} {vs : List V}
 (S : FnScope N ps scope) (hd : A.handled = none) (e0 : Env0 P w K mg base A outer s H) (hl : vs.length = ps.length) (r : Vals vs us)
 (x : InCallC s s.heap.objs.size (bindL (envOfC qual scope s.heap.objs.size f cd).kindOf (ps.zip us) fun _ => none) (cellsFrom (s.heap.objs.size + 1) scope.names []) (bindC (envOfC qual scope s.heap.objs.size f cd).kindOf (ps.zip us) fun _ => none) s1) :
 Inv (Yu CX P w K mg base N qual scope f cd A outer s H E) [] (start N vs) H s1 := by
 have hpl : ps.length <= N.length := by have := congrArg List.length S.pre; rw [List.length_take] at this; omega
 obtain ⟨h1,tk,rfl,hk⟩ := x.done;have noA : ∀ b : Addr,b ∉ (Yu CX P w K mg base N qual scope f cd A outer s H E).ex := fun b z => absurd (show b ∈ ([] : List Addr) from z) (by simp)
 refine ⟨⟨e0.mod,S.kind,rfl,rfl,Nat.le_refl _,fun y z c h1 h2 => ?_,fun y hy => ?_,fun y c _ h => ?_,fun _ => hd,Around.frames_deeper e0.frames,.inr ⟨rfl,rfl⟩,fun b z => absurd z (noA b),e0.bs,e0.bsz,fun b _ _ => noA b,fun b z => absurd z (noA b),e0.funs,e0.frf⟩,
  rfl,e0.bare,Un.kept hk,⟨_,x.toInCall.ns,fun i y v h1 h2 h3 => ?_⟩,fun y c h => ⟨_,x.cell y c h⟩,e0.hok.fresh (Nat.le_refl _),fun y c h => ?_,fun p hp => absurd (show p ∈ ([] : List (Addr × Obj)) from hp) (by simp),e0.hok.kept hk,?_⟩
 · exact name_of_addr x.apart (PySem.mem_of_lookup h1) (PySem.mem_of_lookup h2)
 · have hy : scope.names.lookup y = some .cell \/ scope.names.lookup y = some .free := hy
   rcases hy with hy | hy
   · exact ZbU hy
   · exact absurd rfl (S.nofree _ (PySem.mem_of_lookup hy))
 · exact Nat.le_of_lt (x.above y c (PySem.mem_of_lookup h))
 · have hi : i < vs.length := by
    unfold start at h2
    by_cases hi : i < vs.length
    · exact hi
    · rw [List.getElem?_append_right (by simpa using hi)] at h2
      rw [List.getElem?_replicate] at h2
      split at h2 <;> cases h2
   have ha : vs[i]? = some v := by
    unfold start at h2;rw [List.getElem?_append_left (by simpa using hi),List.getElem?_map] at h2;cases e : vs[i]? with
    | none => rw [e] at h2; cases h2
    | some a => rw [e] at h2; cases h2; rfl
   obtain ⟨u,hu,rv⟩ := r.get ha
   have hp : ps[i]? = some y := by
    rw [<- S.pre,List.getElem?_take_of_lt (by omega)]; exact h1
   have ndP : ps.Nodup := by rw [<- S.pre]; exact S.nd.sublist (List.take_sublist _ _)
   refine ⟨u,rv,?_⟩;rcases S.par y (List.mem_of_getElem? hp) with k | k
   · exact .inl ⟨k,Za3 ndP hp hu k⟩
   · obtain ⟨c,e⟩ := ZbU (n:=s.heap.objs.size + 1) k
     refine .inr ⟨.inl k,c,e,?_⟩;have q := x.cell y c e;rw [Za4 ndP hp hu (by show scope.names.lookup y ≠ _; rw [k]; decide)] at q;exact q
 · exact e0.hok.fresh (Nat.le_of_lt (x.above y c (PySem.mem_of_lookup h)))
 · unfold start
   show _ = N.length;rw [List.length_append,List.length_map,List.length_replicate];omega
theorem ZfO {CX : CXT} {P : Program} {w : World} {K : PySem.W.Frag} {mg : Str -> Option Value} {base : Heap} {k : Nat} {f : Addr} {name qual : Str} {params : Arguments} {body : List Stmt} {scope : Scope} {dV kV doc pm cdv ct oc : Value} {an od : Option Addr}
 {osl : Array (Option Value)} {N ps : List Str} {sp : Sp} (lk : K.lookup f = some ⟨oc,od,.func (fnOf name qual params body scope dV kV doc pm an cdv ct),osl⟩) (hcd : codeIn K cdv qual = true) (S : FnScope N ps scope)
 (len : ∀ vs H Q E,sp vs H Q E -> vs.length = ps.length)
 (hbody : ∀ (A : Around) (outer : List Env) (s : Shared) (H : Hp) (vs : List V) (Q : VK) (E : XK),Room k (A.deeper (envOfC qual scope s.heap.objs.size f cdv)) -> sp vs H Q E ->
   ∃ t,PSs (Yu CX P w K mg base N qual scope f cdv A outer s H E) body t /\ t { nx := fun _ H' => Q .non H',rt := Q } (start N vs) H) :
 FnOk P w K mg base CX (k + 1) f (fnOf name qual params body scope dV kV doc pm an cdv ct) ps sp := by
 refine ⟨len,fun A outer s H args us vs Q E hr e0 hb r hsp => ?_⟩;have hl := len _ _ _ _ hsp;have KX : K.In s.heap := e0.mod.kin.keeps fun b o e => (e0.bs b o e).1
 have lim : s.heap.NoLimit := e0.mod.nolimit.keeps fun b o e => (e0.bs b o e).1
 have hkind : ∀ y ∈ ps.zip us,scope.names.lookup y.1 = some .local \/ (scope.names.lookup y.1 = some .cell /\ ((cellsFrom (s.heap.objs.size + 1) scope.names []).lookup y.1).isSome = true) := fun ⟨n,v⟩ hy => by
  rcases S.par n (List.of_mem_zip hy).1 with q | q
  · exact .inl q
  · exact .inr ⟨q,PySem.W.cellsFrom_some _ _ _ (.inl q)⟩
 refine codeAny_call_function hr.depth (KX _ _ lk) rfl S.co S.gen rfl (PySem.W.codeRec_of KX hcd) (hb _ _ _ _ ?_);refine wpAny_newFunctionEnv_cells S.kind hkind fun env he s1 x => ?_
 subst he;refine ⟨lim.keeps x.toInCall.keep,codeAny_func ?_⟩;obtain ⟨t,ht,hq⟩ := hbody A outer s H vs Q E (hr.deeper _) hsp;have I : Inv (Yu CX P w K mg base N qual scope f cdv A outer s H E) [] (start N vs) H s1 := Za5 S hr.hd e0 hl r x;refine wpAny_mono (ht [] s1 (start N vs) H _ I hq) (fun fl s' hs => ?_) fun e s' hs => hs
 have fin : ∀ {σ' : St} {H' : Hp} {v : V} {u : Value},Inv (Yu CX P w K mg base N qual scope f cdv A outer s H E) [] σ' H' s' -> RelV v u -> Q v H' -> CE outer P w H s Q u s' :=
  fun {σ' H' v u} J rv q => ⟨v,H',J.os,J.bare,J.base,J.hok,rv,q⟩
 cases fl with
 | ret u =>
  obtain ⟨v,σ',H',J,rv,q⟩ := hs;exact fin J rv q
 | next =>
  obtain ⟨σ',H',J,q⟩ := hs;exact fin (v:=V.non) (u:=Value.none) J rfl q
 | brk =>
  obtain ⟨_,_,_,q⟩ := hs;exact False.elim q
 | cont =>
  obtain ⟨_,_,_,q⟩ := hs;exact False.elim q
end L2
namespace L2
open PySem PySem.Spec PyProof.Rows
section
variable {X : Cx} {x : Str} {p pos : Pos} {e : Expr} {es : List Expr} {t : TA} {id T : String} {r : List V -> Hp -> VK -> Prop}
def tCB (r : List V -> Hp -> VK -> Prop) (t : TA) : TE := fun σ H Q => t σ H fun vs H1 => r vs H1 Q
theorem ZP (hc : Xe X (.builtin id) r) (hg : Gl X x) (hm : X.mg x = none) (hv : bootBuiltins x = some (.builtin id)) (ha : PA X (e :: es) t) (hn : x ≠ "__name__" := by decide) (hdb : (x == ("__debug__" : Str)) = false := by decide)
 (he : starEach (e :: es) X.env = (false,eval e X.env) :: starEach es X.env := by rfl) (hpl : (backTo pos (starEach es X.env)).any (·.1) = false := by rfl) : PE X (.Call (.Name x p) (e :: es) [] pos) (tCB r t) := by
 intro pins s σ H Q I h;refine wpAny_Call_Name_kw (Uf I hg hm hv ?_ hn hdb);exact PyProof.Rows.callWith_builtin1 (thn (ha pos pins s σ H _ I h) fun us s1 ⟨vs,H1,I1,r1,q1⟩ => hc pins s1 σ H1 vs us Q I1 r1 q1) he hpl
theorem Q3 (hc : Xe X (.type T) r) (hg : Gl X x) (hm : X.mg x = none) (hv : bootBuiltins x = some (.type T)) (ha : PA X (e :: es) t) (hn : x ≠ "__name__" := by decide) (hdb : (x == ("__debug__" : Str)) = false := by decide)
 (he : starEach (e :: es) X.env = (false,eval e X.env) :: starEach es X.env := by rfl) (hpl : (backTo pos (starEach es X.env)).any (·.1) = false := by rfl) : PE X (.Call (.Name x p) (e :: es) [] pos) (tCB r t) := by
 intro pins s σ H Q I h;refine wpAny_Call_Name_kw (Uf I hg hm hv ?_ hn hdb);exact PyProof.Rows.callWith_type1 (thn (ha pos pins s σ H _ I h) fun us s1 ⟨vs,H1,I1,r1,q1⟩ => hc pins s1 σ H1 vs us Q I1 r1 q1) he hpl
end
end L2
namespace HT
open PySem PyProof.Rows
section
open PySem.SeqAt
open PySem.AutoSeq1 (wpAny_loadPart')
open PySem.MeetsSeq PySem.MeetsSeq2 PySem.MeetsSeq3
end
section
variable {prog : Program} {w : World} {A : Around} {E : Value -> Shared -> Prop} {s : Shared}
def sIx (n d : Nat) : Option Int -> Nat
 | none => d
 | some v => if v < 0 then (v + (n : Int)).toNat else min v.toNat n
theorem ZhT (n d : Nat) (hd : d <= n) (o : Option Int) : sIx n d o <= n := by
 cases o with
 | none => exact hd
 | some v =>
  show (if v < 0 then (v + (n : Int)).toNat else min v.toNat n) <= n
  by_cases hv : v < 0
  · rw [if_pos hv]; omega
  · rw [if_neg hv]; exact Nat.min_le_right _ _
theorem Zdf (v : Int) (n d : Nat) : (if v < 0 then max (v + (n : Int)) 0 else min v (n : Int)) = ((sIx n d (some v) : Nat) : Int) := by
 show (if v < 0 then max (v + (n : Int)) 0 else min v (n : Int)) = (((if v < 0 then (v + (n : Int)).toNat else min v.toNat n) : Nat) : Int)
 by_cases hv : v < 0
 · simp only [if_pos hv]; omega
 · simp only [if_neg hv]; omega
theorem Zcq (lo hi : Option Int) (n : Nat) : Builtin.Slice.sliceAdjust lo hi 1 (n : Int) = (((sIx n 0 lo : Nat) : Int),((sIx n n hi : Nat) : Int)) := by
 have h1 : ¬ ((1 : Int) < 0) := by omega
 unfold Builtin.Slice.sliceAdjust;simp only [h1,if_false];refine Prod.ext ?_ ?_
 · cases lo with
   | none => rfl
   | some v => exact Zdf v n 0
 · cases hi with
   | none => rfl
   | some v => exact Zdf v n n
theorem Zcr (i j : Nat) : Builtin.Slice.slicePlaces (i : Int) (j : Int) 1 = j - i := by
 unfold Builtin.Slice.slicePlaces;have h1 : (1 : Int) > 0 := by omega
 simp only [h1,if_true,Int.ediv_one]
 split <;> omega
theorem ZaB {v : Value} {o : Option Int} {Q : Option Int -> Shared -> Prop} (p : IsPart v o) (h : Q o s) : wpAny (model prog w) A (Builtin.Slice.slicePartIndex v) Q E s := by
 cases p with
 | none => exact slicePart_none h
 | int i t => exact slicePart_int h
theorem Zak {sl : Addr} {vl vu : Value} {lo hi : Option Int} {n : Nat} {Q : Int × Int × Nat -> Shared -> Prop} (hs : s.heap.IsSliceOf sl vl vu .none) (pl : IsPart vl lo) (pu : IsPart vu hi)
 (h : Q (((sIx n 0 lo : Nat) : Int),1,sIx n n hi - sIx n 0 lo) s) : wpAny (model prog w) A (Builtin.Slice.sliceApplied (.ref sl) (pure (n : Int))) Q E s := by
 obtain ⟨os,hos,hcs,hds⟩ := id hs;unfold Builtin.Slice.sliceApplied Builtin.Slice.sliceFields;refine wpAny_bind (wpAny_bind (wpAny_field hos hds (x:=vl) rfl (wpAny_bind (wpAny_field hos hds (x:=vu) rfl (wpAny_bind (wpAny_field hos hds (x:=.none) rfl (wpAny_pure ?_)))))));refine wpAny_bind (slicePart_none ?_);show wpAny _ _ (if ((1 : Int) == 0) = true then _ else _) _ _ s;rw [if_neg (by decide)]
 refine wpAny_bind (ZaB pl (wpAny_bind (ZaB pu (wpAny_bind (wpAny_pure ?_)))));show wpAny _ _ (match Builtin.Slice.sliceAdjust lo hi 1 (n : Int) with | (lo,hi) => pure (lo,(1 : Int),Builtin.Slice.slicePlaces lo hi 1)) _ _ s;rw [Zcq lo hi n];show wpAny _ _ (pure (((sIx n 0 lo : Nat) : Int),(1 : Int),Builtin.Slice.slicePlaces ((sIx n 0 lo : Nat) : Int) ((sIx n n hi : Nat) : Int) 1)) _ _ s;rw [Zcr]
 exact wpAny_pure h
theorem ZeF (xs : Array Value) (i k : Nat) : ((List.range k).filterMap fun (m : Nat) => xs[((i : Int) + (m : Int) * 1).toNat]?).toArray = ((xs.toList.drop i).take k).toArray := by
 have e : (fun (m : Nat) => xs[((i : Int) + (m : Int) * 1).toNat]?) = fun m => xs[i + m]? := by
  funext m
  have : ((i : Int) + (m : Int) * 1).toNat = i + m := by omega
  rw [this]
 rw [e];have := pick_run xs i k;rw [List.filterMap_map] at this;have e2 : ((fun x => xs[x]?) ∘ fun x => i + x) = fun m => xs[i + m]? := rfl
 rw [e2] at this;rw [this]
theorem getItem_tuple_cut {t sl : Addr} {items : Array Value} {vl vu : Value} {lo hi : Option Int} {Q : Value -> Shared -> Prop} (ht : IsTup s.heap t items) (hs : s.heap.IsSliceOf sl vl vu .none) (pl : IsPart vl lo) (pu : IsPart vu hi)
 (hw : ¬ (sIx items.size 0 lo = 0 /\ sIx items.size items.size hi = items.size))
 (h : Q (.ref s.heap.objs.size) { s with heap := s.heap.push { cls := .type "tuple",data := .seq ((items.toList.drop (sIx items.size 0 lo)).take (sIx items.size items.size hi - sIx items.size 0 lo)).toArray } })
 (hsz : items.size <= sizeLine) : wpAny (model prog w) A (getItem (.ref t) (.ref sl)) Q E s := by
 have htake : sizeOk (.seq ((items.toList.drop (sIx items.size 0 lo)).take (sIx items.size items.size hi - sIx items.size 0 lo)).toArray) := by
  show ((items.toList.drop (sIx items.size 0 lo)).take (sIx items.size items.size hi - sIx items.size 0 lo)).toArray.size <= sizeLine;rw [List.size_toArray,List.length_take,List.length_drop,Array.length_toList];omega
 have hj : sIx items.size items.size hi <= items.size := ZhT _ _ (Nat.le_refl _) hi;obtain ⟨os,hos,hcs,hds⟩ := id hs;have hTs : s.TypeIs (.ref sl) "slice" := ⟨os,hos,hcs⟩
 unfold getItem
 try with_reducible refine wpAny_holding ?_
 first | refine wpAny_bind (wpAny_pure ?_) | skip
 refine wpAny_bind (wpAny_sequenceKey ht.typeIs (by decide) ?_)
 refine wpAny_bind (wpAny_callSpecial?_slot (name:=Str.ofString "__getitem__") ht.typeIs PyProof.Rows.slot_tuple_getitem
  (wpAny_call_entry PyProof.Rows.slot_tuple_getitem ht.typeIs entry_tuple_getitem ?_ (args_tuple_getitem _ _)))
 show wpAny _ _ (Builtin.Tuple.tupleItemsOf (.ref t) >>= _) _ _ s;refine wpAny_bind (tupleItemsOf_ ht ?_);refine wpAny_bind (wpAny_typeOf hTs ?_);rw [if_pos (by decide)];refine wpAny_bind (Zak hs pl pu ?_)
 have hno : ¬ ((((sIx items.size 0 lo : Nat) : Int) == 0 && (1 : Int) == 1 && (sIx items.size items.size hi - sIx items.size 0 lo) == items.size) = true) := by
  intro q;rw [Bool.and_eq_true,Bool.and_eq_true] at q;have q1 : ((sIx items.size 0 lo : Nat) : Int) = 0 := eq_of_beq q.1.1;have q2 : sIx items.size items.size hi - sIx items.size 0 lo = items.size := eq_of_beq q.2;exact hw ⟨by omega,by omega⟩
 show wpAny _ _ (if (((sIx items.size 0 lo : Nat) : Int) == 0 && (1 : Int) == 1 && (sIx items.size items.size hi - sIx items.size 0 lo) == items.size) = true then _ else _) _ _ s;rw [if_neg hno,ZeF]
 first
  | exact wpAny_bind (m:=Builtin.Tuple.tupleExact _) (wpAny_newObj_type (wpAny_pure ⟨_,rfl,wpAny_pure h⟩) htake)
  | exact wpAny_bind (m:=Builtin.Tuple.tupleExact _) (wpAny_newObj_type (wpAny_bind (wpAny_pure (wpAny_pure ⟨_,rfl,wpAny_pure h⟩))) htake)
  | exact wpAny_bind (wpAny_bind (m:=Builtin.Tuple.tupleExact _) (wpAny_newObj_type (wpAny_pure (wpAny_pure ⟨_,rfl,wpAny_pure h⟩)) htake))
  | exact wpAny_bind (wpAny_bind (m:=Builtin.Tuple.tupleExact _) (wpAny_newObj_type (wpAny_pure ⟨_,rfl,wpAny_pure h⟩) htake))
end
end HT
namespace L2
open PySem PySem.Spec PyProof.Rows
abbrev TO := St -> Hp -> (Option Int -> Hp -> Prop) -> Prop
def PO (X : Cx) (e : Option Expr) (t : TO) : Prop :=
 ∀ (pins : List (Addr × Obj)) (s : Shared) (σ : St) (H : Hp) (Q : Option Int -> Hp -> Prop),Inv X pins σ H s -> t σ H Q ->
  wpAny (model X.prog X.w) X.A (evalPart e X.env) (fun u s' => ∃ o H',Inv X pins σ H' s' /\ IsPart u o /\ Q o H') X.xe s
def tNoPart : TO := fun _ H Q => Q none H
def Zhc (t : TE) : TO := fun σ H Q => t σ H fun x H1 => ∃ i,x = .int i /\ Q (some i) H1
section
variable {X : Cx} {e : Expr} {te : TE} {lo hi : Option Expr} {tl th : TO} {pos p2 : Pos}
theorem UN : PO X none tNoPart := by
 intro pins s σ H Q I h;rw [evalPart_none];exact wpAny_pure ⟨none,H,I,.none,h⟩
theorem VW (h : PE X e te) : PO X (some e) (Zhc te) := by
 intro pins s σ H Q I hw;rw [evalPart_some];refine thn (h pins s σ H _ I hw) fun u s1 ⟨x,H1,I1,r1,q1⟩ => ?_
 obtain ⟨i,rfl,q⟩ := q1;obtain ⟨t,rfl⟩ := r1;exact ⟨some i,H1,I1,.int i t,q⟩
def SlR (X : Cx) (r : V -> Option Int -> Option Int -> Hp -> VK -> Prop) : Prop :=
 ∀ (pins : List (Addr × Obj)) (s : Shared) (σ : St) (H : Hp) (x : V) (v vl vu : Value) (lo hi : Option Int) (sl : Addr) (Q : VK),Inv X pins σ H s -> RelV x v -> s.heap.IsSliceOf sl vl vu .none -> IsPart vl lo -> IsPart vu hi -> r x lo hi H Q ->
  ∃ T id,typeLookup (.type T) "__getitem__" = pure (some (.builtin id)) /\ s.TypeIs v T /\ wpAny (model X.prog X.w) X.A (getItem v (.ref sl)) (EP X pins σ Q) X.xe s
theorem SlR.or {r r' : V -> Option Int -> Option Int -> Hp -> VK -> Prop} (h : SlR X r) (h' : SlR X r') : SlR X (fun x lo hi H Q => r x lo hi H Q \/ r' x lo hi H Q) := by
 intro pins s σ H x v vl vu lo hi sl Q I rx hs pl pu q;rcases q with q | q
 · exact h pins s σ H x v vl vu lo hi sl Q I rx hs pl pu q
 · exact h' pins s σ H x v vl vu lo hi sl Q I rx hs pl pu q
def tSl (r : V -> Option Int -> Option Int -> Hp -> VK -> Prop) (te : TE) (tl th : TO) : TE := fun σ H Q => te σ H fun x H1 => tl σ H1 fun l H2 => th σ H2 fun u H3 => r x l u H3 Q
theorem Ui {r : V -> Option Int -> Option Int -> Hp -> VK -> Prop} (hr : SlR X r) (he : PE X e te) (hl : PO X lo tl) (hu : PO X hi th) : PE X (.Subscript e (.Slice lo hi none p2) pos) (tSl r te tl th) := by
 intro pins s σ H Q I h;refine Subscript_ (thn (he pins s σ H _ I h) fun v s1 ⟨x,H1,I1,r1,q1⟩ => ?_);refine wpAny_Slice (thn (hl pins s1 σ H1 _ I1 q1) fun vl s2 ⟨l,H2,I2,pl,q2⟩ => thn (hu pins s2 σ H2 _ I2 q2) fun vu s3 ⟨u,H3,I3,pu,q3⟩ => ?_);rw [evalPart_none];refine wpAny_pure ?_;have I4 : Inv X pins σ H3 { s3 with heap := s3.heap.push { cls := .type "slice",data := .fields #[vl,vu,.none] } } := I3.kept (t' := s3.toks) fun b ob q => Heap.get?_push_of_some _ q
 obtain ⟨T,id,hT,ht,hg⟩ := hr pins { s3 with heap := s3.heap.push { cls := .type "slice",data := .fields #[vl,vu,.none] } } σ H3 x v vl vu l u s3.heap.objs.size Q I4 r1 (Heap.IsSliceOf.new ..) pl pu q3;show wpAny (model X.prog X.w) X.A (subscriptTail e (.Slice lo hi none p2) v (.ref s3.heap.objs.size)) (EP X pins σ Q) X.xe { s3 with heap := s3.heap.push { cls := .type "slice",data := .fields #[vl,vu,.none] } }
 exact tail_any (ops:=[.ref s3.heap.objs.size,v]) ht hT hg (by with_unfolding_all rfl)
def VY (xs : List V) (lo hi : Option Int) : List V := (xs.drop (HT.sIx xs.length 0 lo)).take (HT.sIx xs.length xs.length hi - HT.sIx xs.length 0 lo)
theorem Zav (xs : List V) (lo hi : Option Int) : (VY xs lo hi).length <= xs.length := by
 unfold VY;rw [List.length_take,List.length_drop];omega
def Zkw (K : PySem.W.Frag) : V -> Option Int -> Option Int -> Hp -> VK -> Prop := fun x lo hi H Q => ∃ a xs,x = .ref a /\ SqT K H a xs /\
 ¬ (HT.sIx xs.length 0 lo = 0 /\ HT.sIx xs.length xs.length hi = xs.length) /\ ∀ p,H p = none -> Q (.ref p) (upd H p (.tup (VY xs lo hi)))
theorem ZhU : SlR X (Zkw X.K) := by
 intro pins s σ H x v vl vu lo hi sl Q I rx hs pl pu h;obtain ⟨a,xs,rfl,hx,hw,q⟩ := h;cases rx;obtain ⟨its,r,ht,hz⟩ := I.tuple hx;have hlen : its.toArray.size = xs.length := by rw [List.size_toArray]; exact r.length.symm
 refine ⟨"tuple",_,PyProof.Rows.slot_tuple_getitem.lookup,ht.typeIs,?_⟩;refine HT.getItem_tuple_cut ht hs pl pu (by rw [hlen]; exact hw) ?_ (by rw [hlen]; exact hz);rw [hlen];refine ⟨.ref s.heap.objs.size,_,I.laid (t' := s.toks) (o:=.tup (VY xs lo hi)) (fun b ob q => Heap.get?_push_of_some _ q) (Nat.le_refl _) ?_,rfl,q _ (I.hok.fresh (Nat.le_refl _))⟩;exact ⟨Nat.le_trans (Zav xs lo hi) hz,_,(r.drop (HT.sIx xs.length 0 lo)).take (HT.sIx xs.length xs.length hi - HT.sIx xs.length 0 lo),TupN.new _ _⟩
end
end L2
namespace L2
open PySem PySem.Spec PyProof.Rows
def ixN (n : Nat) (i : Int) : Option Nat := if 0 <= i then (if i < n then some i.toNat else none) else if -(n : Int) <= i then some (i + n).toNat else none
def atI {α : Type} (xs : List α) (i : Int) : Option α := (ixN xs.length i).bind fun j => xs[j]?
theorem Zdg {n : Nat} {i : Int} {j : Nat} (h : ixN n i = some j) : seqIndex? i n = some j /\ j < n /\ -(n : Int) <= i /\ i < n := by
 unfold ixN at h
 by_cases h0 : 0 <= i
 · rw [if_pos h0] at h
   by_cases h1 : i < n
   · rw [if_pos h1] at h
     have e : i.toNat = j := Option.some.inj h;exact ⟨by rw [seqIndex_of h0 h1,e],by omega,by omega,h1⟩
   · rw [if_neg h1] at h; cases h
 · rw [if_neg h0] at h
   by_cases h1 : -(n : Int) <= i
   · rw [if_pos h1] at h
     have e : (i + n).toNat = j := Option.some.inj h;exact ⟨by rw [seqIndex_neg (by omega) h1,e],by omega,h1,by omega⟩
   · rw [if_neg h1] at h; cases h
theorem Zbw {α : Type} {xs : List α} {i : Int} {v : α} (h : atI xs i = some v) : ∃ j,seqIndex? i xs.length = some j /\ xs[j]? = some v /\ j < xs.length /\ -(xs.length : Int) <= i /\ i < xs.length := by
 unfold atI at h;cases e : ixN xs.length i with
 | none => rw [e] at h; cases h
 | some j =>
  rw [e] at h;obtain ⟨h1,h2,h3,h4⟩ := Zdg e;exact ⟨j,h1,h,h2,h3,h4⟩
theorem Qt {α : Type} {xs : List α} {j : Nat} {v : α} (h : xs[j]? = some v) : atI xs (j : Int) = some v := by
 have hj : j < xs.length := (List.getElem?_eq_some_iff.mp h).1
 have e : ixN xs.length (j : Int) = some j := by
  unfold ixN;rw [if_pos (by omega),if_pos (by omega)]; simp
 unfold atI; rw [e]; exact h
def Zgb (b : Expr) : Prop := ∀ o i,subscripted b false o i = operate [o,i] (getItem o i)
def IxR (X : Cx) (r : R2) : Prop :=
 ∀ (value slice : Expr) (pins : List (Addr × Obj)) (s : Shared) (σ : St) (H : Hp) (x y : V) (v u : Value) (Q : VK),Inv X pins σ H s -> RelV x v -> RelV y u -> r x y H Q ->
  subscripted slice false v u = operate [v,u] (getItem v u) -> wpAny (model X.prog X.w) X.A (subscriptTail value slice v u) (EP X pins σ Q) X.xe s
def MtR (X : Cx) (id : String) (r : V -> List V -> Hp -> VK -> Prop) : Prop :=
 ∀ (pins : List (Addr × Obj)) (s : Shared) (σ : St) (H : Hp) (x : V) (xs : List V) (v : Value) (us : List Value) (Q : VK),Inv X pins σ H s -> RelV x v -> Vals xs us -> r x xs H Q ->
  wpAny (model X.prog X.w) X.A (call (.builtin id) (v :: us)) (EP X pins σ Q) X.xe s
section
variable {X : Cx} {a b : Expr} {ta tb : TE} {pos : Pos}
theorem IxR.or {r r' : R2} (h : IxR X r) (h' : IxR X r') : IxR X (fun x y H Q => r x y H Q \/ r' x y H Q) := by
 intro value slice pins s σ H x y v u Q I rx ry q hs;rcases q with q | q
 · exact h value slice pins s σ H x y v u Q I rx ry q hs
 · exact h' value slice pins s σ H x y v u Q I rx ry q hs
theorem ZB {r : R2} (hr : IxR X r) (ha : PE X a ta) (hb : PE X b tb) (hs : Zgb b) : PE X (.Subscript a b pos) (tOp r ta tb) := by
 intro pins s σ H Q I h;exact Subscript_ (ZiC ha hb I h fun v u s2 x y H2 I2 rx ry q => hr a b pins s2 σ H2 x y v u Q I2 rx ry q (hs _ _))
def Zkx (K : PySem.W.Frag) : R2 := fun x y H Q => ∃ p xs i v,x = .ref p /\ y = .int i /\ SqL K H p xs /\ atI xs i = some v /\ Q v H
def Zky (K : PySem.W.Frag) : R2 := fun x y H Q => ∃ p xs i v,x = .ref p /\ y = .int i /\ SqT K H p xs /\ atI xs i = some v /\ Q v H
def rIxS : R2 := fun x y H Q => ∃ z i c,x = .str z /\ y = .int i /\ z.length <= sizeLine /\ atI z.cps.toList i = some c /\ Q (.str ⟨#[c]⟩) H
theorem ix_list : IxR X (Zkx X.K) := by
 intro value slice pins s σ H x y v u Q I rx ry h hs;obtain ⟨p,xs,i,z,rfl,rfl,hq,he,q⟩ := h;cases rx;obtain ⟨t,rfl⟩ := ry;obtain ⟨its,r,pl,hz⟩ := I.list hq;obtain ⟨j,h1,h2,h3,h4,h5⟩ := Zbw he;obtain ⟨w,ew,rw'⟩ := r.get h2;have hl := r.length;have hn := UK;have fin : EP X pins σ Q w s := ⟨z,H,I,rw',q⟩
 by_cases h0 : 0 <= i
 · have hj : i.toNat = j := by
    rw [seqIndex_of h0 h5] at h1;exact Option.some.inj h1
   exact item_listR pl.isList h0 (by omega) (by rw [hj]; simpa using ew) fin hs
 · have hj : (i + (its.toArray.size : Int)).toNat = j := by
    rw [seqIndex_neg (by omega) h4] at h1;rw [List.size_toArray,<- hl];exact Option.some.inj h1
   exact subscriptTail_builtinR (x:=w) pl.isList.typeIs slot_list_getitem.lookup
    (wpAny_getItem_list_neg (Q:=fun r s' => r = w /\ EP X pins σ Q r s') pl.isList (by omega) (by rw [List.size_toArray] <;> omega) (by omega) (by rw [hj]; simpa using ew) ⟨rfl,fin⟩) hs
theorem ix_tup : IxR X (Zky X.K) := by
 intro value slice pins s σ H x y v u Q I rx ry h hs;obtain ⟨p,xs,i,z,rfl,rfl,hq,he,q⟩ := h;cases rx;obtain ⟨t,rfl⟩ := ry;obtain ⟨its,r,pl,hz⟩ := I.tuple hq;obtain ⟨j,h1,h2,h3,h4,h5⟩ := Zbw he;obtain ⟨w,ew,rw'⟩ := r.get h2;have hl := r.length;have hn := UK;have fin : EP X pins σ Q w s := ⟨z,H,I,rw',q⟩
 exact subscriptTail_builtinR (x:=w) pl.typeIs slot_tuple_getitem.lookup
  (getItem_tuple (j:=j) (Q:=fun r s' => r = w /\ EP X pins σ Q r s') pl (by omega) (by omega) (by rw [List.size_toArray,<- hl]; exact h1) (by simpa using ew) ⟨rfl,fin⟩) hs
theorem ix_str : IxR X rIxS := by
 intro value slice pins s σ H x y v u Q I rx ry h hs;obtain ⟨z,i,c,rfl,rfl,hz,he,q⟩ := h;obtain ⟨t,rfl⟩ := rx;obtain ⟨t',rfl⟩ := ry;obtain ⟨j,h1,h2,h3,h4,h5⟩ := Zbw he;have hl : z.cps.toList.length = z.length := by simp [Str.length]
 rw [hl] at h1 h4 h5;have hn := UK
 exact tail_any (typeIs_str s z t) slot_str_getitem.lookup (getItem_str (c:=c) (by
  have e1 : decide (i < -(2 ^ 63 : Int)) = false := decide_eq_false (by omega);have e2 : decide (i ≥ 2 ^ 63) = false := decide_eq_false (by omega);rw [e1,e2,Bool.or_false]) (by rw [h1]; simpa using h2) ⟨.str ⟨#[c]⟩,H,I.tok _,⟨_,rfl⟩,q⟩) hs
theorem Zcs (its : List Value) (n j : Nat) (u : Value) : Obj.mapSeq (·.setIfInBounds j u) { cls := .type "list",data := .seq its.toArray n } = { cls := .type "list",data := .seq (its.set j u).toArray n } := by
 simp [Obj.mapSeq]
theorem Inv.lst {pins : List (Addr × Obj)} {σ : St} {H : Hp} {s : Shared} {p : Addr} {xs : List V} (I : Inv X pins σ H s) (h : H p = some (.lst xs)) :
 ∃ (its : List Value) (n : Nat),Vals xs its /\ s.heap.get? p = some { cls := .type "list",data := .seq its.toArray n } /\ xs.length <= sizeLine := by
 obtain ⟨z,its,n,r,e⟩ := I.hok p _ h;exact ⟨its,n,r,e,z⟩
theorem Inv.lstUpd {pins : List (Addr × Obj)} {σ : St} {H : Hp} {s : Shared} {p : Addr} {xs ys : List V} {its its' : List Value} {n n' : Nat} {f : Obj -> Obj} (I : Inv X pins σ H s) (h : H p = some (.lst xs))
 (ho : s.heap.get? p = some { cls := .type "list",data := .seq its.toArray n }) (hf : f { cls := .type "list",data := .seq its.toArray n } = { cls := .type "list",data := .seq its'.toArray n' }) (r : Vals ys its') (hz : ys.length <= sizeLine) (t : Nat) :
 Inv X pins σ (upd H p (.lst ys)) { s with heap := s.heap.update p f,toks := t } := by
 have e : (s.heap.update p f).get? p = some { cls := .type "list",data := .seq its'.toArray n' } := by
  rw [Heap.get?_update_self f ho (by rw [hf] <;> rfl),hf]
 refine I.write (x:=p) (e:=p) (by rw [h]; trivial) (.inl rfl) (fun b u hb q => (Heap.get?_update_other _ _ (Ne.symm hb)).trans q) ⟨_,e⟩ ?_;exact ⟨hz,its',n',r,e⟩
def rSetL : V -> V -> V -> Hp -> (Hp -> Prop) -> Prop := fun o i v H Q => ∃ p xs k j,o = .ref p /\ i = .int k /\ H p = some (.lst xs) /\ ixN xs.length k = some j /\ Q (upd H p (.lst (xs.set j v)))
theorem ZaH : Zks X rSetL := by
 intro pins s σ H o i v ov iv u Q I ro ri rv h;obtain ⟨p,xs,k,j,rfl,rfl,hp,hj,q⟩ := h;cases ro;obtain ⟨t,rfl⟩ := ri;obtain ⟨its,n,r,ho,hz⟩ := I.lst hp;obtain ⟨h1,h2,h3,h4⟩ := Zdg hj;have hl := r.length;have hn := UK
 have I' : Inv X pins σ (upd H p (.lst (xs.set j v))) { s with heap := s.heap.update p (Obj.mapSeq (·.setIfInBounds j u)) } :=
  I.lstUpd hp ho (Zcs its n j u) (r.set rv j) (by rw [List.length_set]; exact hz) s.toks
 by_cases h0 : 0 <= k
 · have hk : k.toNat = j := by
    rw [seqIndex_of h0 h4] at h1;exact Option.some.inj h1
   exact PySem.W.ki_setAt ho h0 (by omega) (by rw [List.size_toArray,<- hl]; exact h4) (by rw [hk]; exact ⟨_,I',q⟩)
 · have hk : (k + (its.toArray.size : Int)).toNat = j := by
    rw [seqIndex_neg (by omega) h3] at h1;rw [List.size_toArray,<- hl];exact Option.some.inj h1
   exact PySem.W.ki_setBack ho (by omega) (by rw [List.size_toArray,<- hl]; exact h3) (by omega) (by rw [hk]; exact ⟨_,I',q⟩)
theorem Zbo (lo hi : Option Int) (n : Nat) : (sliceBounds lo hi none n).1 = ((HT.sIx n 0 lo : Nat) : Int) /\ (sliceBounds lo hi none n).2.1 = ((HT.sIx n n hi : Nat) : Int) /\ (sliceBounds lo hi none n).2.2 = 1 := by
 refine ⟨?_,?_,rfl⟩
 · cases lo with
   | none => simp [sliceBounds,HT.sIx]
   | some i =>
    simp only [sliceBounds,HT.sIx,Option.getD_none,show (1 : Int) > 0 by decide,if_true]
    by_cases h : i < 0
    · simp only [h,if_true] <;> omega
    · simp only [h,if_false] <;> omega
 · cases hi with
   | none => simp [sliceBounds,HT.sIx]
   | some i =>
    simp only [sliceBounds,HT.sIx,Option.getD_none,show (1 : Int) > 0 by decide,if_true]
    by_cases h : i < 0
    · simp only [h,if_true] <;> omega
    · simp only [h,if_false] <;> omega
theorem ZaW (its : List Value) (lo hi : Option Int) : slicePick its.toArray lo hi none = ((its.drop (HT.sIx its.length 0 lo)).take (HT.sIx its.length its.length hi - HT.sIx its.length 0 lo)).toArray := by
 obtain ⟨h1,h2,h3⟩ := Zbo lo hi its.toArray.size;unfold slicePick;rw [h1,h2,h3];simp only [sliceRange_one,pick_run,List.size_toArray] <;> rfl
def Zkz (K : PySem.W.Frag) : V -> Option Int -> Option Int -> Hp -> VK -> Prop := fun x lo hi H Q => ∃ a xs,x = .ref a /\ SqL K H a xs /\ ∀ p,H p = none -> Q (.ref p) (upd H p (.lst (VY xs lo hi)))
theorem sl_list : SlR X (Zkz X.K) := by
 intro pins s σ H x v vl vu lo hi sl Q I rx hs pl pu h;obtain ⟨a,xs,rfl,hx,q⟩ := h;cases rx;obtain ⟨its,r,ht,hz⟩ := I.list hx;have hlen := r.length;refine ⟨"list",_,slot_list_getitem.lookup,ht.isList.typeIs,?_⟩;refine wpAny_getItem_list_slice ht.isList hs pl pu .none (by simp) ?_ (by rw [List.size_toArray] <;> omega);rw [ZaW,<- hlen];refine ⟨.ref s.heap.objs.size,_,I.laid (t' := s.toks) (o:=.lst (VY xs lo hi)) (fun b ob q => Heap.get?_push_of_some _ q) (Nat.le_refl _) ?_,rfl,q _ (I.hok.fresh (Nat.le_refl _))⟩
 exact ⟨Nat.le_trans (Zav xs lo hi) hz,_,0,(r.drop (HT.sIx xs.length 0 lo)).take (HT.sIx xs.length xs.length hi - HT.sIx xs.length 0 lo),Heap.get?_push_size _ rfl⟩
def XV : V -> Bool
 | .non => true
 | .bl _ => true
 | .int _ => true
 | .str _ => true
 | _ => false
def eqV : V -> V -> Bool
 | .non,.non => true
 | .bl a,.bl b => a == b
 | .bl a,.int b => (if a then 1 else 0) == b
 | .int a,.bl b => a == (if b then 1 else 0)
 | .int a,.int b => a == b
 | .str a,.str b => a == b
 | _,_ => false
theorem ZhV {A : Around} {s : Shared} {y x : V} {u v : Value} (ry : RelV y u) (rx : RelV x v) (fy : XV y = true) (fx : XV x = true) : SeqAt.EqAt A s u v (eqV y x) := by
 cases y with
 | non =>
  cases ry;cases x with
  | non => cases rx; exact SeqAt.EqAt.same _
  | bl b => cases rx; exact SeqAt.EqAt.none_bool b
  | int b => obtain ⟨t,rfl⟩ := rx; exact SeqAt.EqAt.none_int b t
  | str b => obtain ⟨t,rfl⟩ := rx; exact SeqAt.EqAt.none_str b t
  | _ => exact absurd (show false = true from fx) Bool.false_ne_true
 | bl a =>
  cases ry;cases x with
  | non => cases rx; exact SeqAt.EqAt.bool_none a
  | bl b => cases rx; exact SeqAt.EqAt.bool_bool a b
  | int b => obtain ⟨t,rfl⟩ := rx; exact SeqAt.EqAt.bool_int a b t
  | str b => obtain ⟨t,rfl⟩ := rx; exact SeqAt.EqAt.bool_str a b t
  | _ => exact absurd (show false = true from fx) Bool.false_ne_true
 | int a =>
  obtain ⟨t',rfl⟩ := ry;cases x with
  | non => cases rx; exact SeqAt.EqAt.int_none a t'
  | bl b => cases rx; exact SeqAt.EqAt.int_bool a t' b
  | int b => obtain ⟨t,rfl⟩ := rx; exact SeqAt.EqAt.int_int a t' b t
  | str b => obtain ⟨t,rfl⟩ := rx; exact SeqAt.EqAt.int_str a t' b t
  | _ => exact absurd (show false = true from fx) Bool.false_ne_true
 | str a =>
  obtain ⟨t',rfl⟩ := ry;cases x with
  | non => cases rx; exact SeqAt.EqAt.str_none a t'
  | bl b => cases rx; exact SeqAt.EqAt.str_bool a t' b
  | int b => obtain ⟨t,rfl⟩ := rx; exact SeqAt.EqAt.str_int a t' b t
  | str b => obtain ⟨t,rfl⟩ := rx; exact SeqAt.EqAt.str_str a t' b t
  | _ => exact absurd (show false = true from fx) Bool.false_ne_true
 | _ => exact absurd (show false = true from fy) Bool.false_ne_true
def eqU (x : V) (u : Value) : Bool := match u with
 | .none => eqV .non x
 | .bool b => eqV (.bl b) x
 | .int i _ => eqV (.int i) x
 | .str z _ => eqV (.str z) x
 | _ => false
theorem Zfg {x y : V} {u : Value} (r : RelV y u) (f : XV y = true) : eqU x u = eqV y x := by
 cases y with
 | non => cases r; rfl
 | bl b => cases r; rfl
 | int i => obtain ⟨t,rfl⟩ := r; rfl
 | str z => obtain ⟨t,rfl⟩ := r; rfl
 | _ => exact absurd (show false = true from f) Bool.false_ne_true
theorem Qu {x : V} : ∀ {xs : List V} {us : List Value},Vals xs us -> xs.all XV = true -> us.any (eqU x) = xs.any fun y => eqV y x
 | _,_,.nil,_ => rfl
 | y :: xs,u :: us,.cons r t,f => by
  rw [List.all_cons,Bool.and_eq_true] at f;rw [List.any_cons,List.any_cons,Zfg r f.1,Qu t f.2]
theorem Qv {A : Around} {s : Shared} {x : V} {v : Value} (rx : RelV x v) (fx : XV x = true) : ∀ {xs : List V} {us : List Value},Vals xs us -> xs.all XV = true -> ∀ u ∈ us,SeqAt.EqAt A s u v (eqU x u)
 | _,_,.nil,_ => fun u hu => by cases hu
 | y :: xs,u :: us,.cons r t,f => fun u' hu => by
  rw [List.all_cons,Bool.and_eq_true] at f;rcases List.mem_cons.mp hu with rfl | hu
  · rw [Zfg r f.1]; exact ZhV r rx f.1 fx
  · exact Qv rx fx t f.2 u' hu
def inV (x : V) (xs : List V) : Bool := xs.any fun y => eqV y x
def rIn (K : PySem.W.Frag) (neg : Bool) : R2 := fun x y H Q => ∃ p xs,y = .ref p /\ (SqL K H p xs \/ SqT K H p xs) /\ XV x = true /\ xs.all XV = true /\ Q (.bl (if neg then !inV x xs else inV x xs)) H
theorem Zd2 : OpR X (compareOp .In) (rIn X.K false) := by
 intro pins s σ H x y v u Q I rx ry h;obtain ⟨p,xs,rfl,hq,fx,fs,q⟩ := h;cases ry;rcases hq with hq | hq
 · obtain ⟨its,r,pl,hz⟩ := I.list hq
   refine SeqAt.in_listAt (eqU x) pl.isList (fun w hw => Qv rx fx r fs w (by simpa using hw)) ⟨.bl _,H,I,rfl,?_⟩;rw [show its.toArray.any (eqU x) = its.any (eqU x) by simp,Qu r fs];exact q
 · obtain ⟨its,r,pl,hz⟩ := I.tuple hq
   refine SeqAt.in_tupleAt (eqU x) pl (fun w hw => Qv rx fx r fs w (by simpa using hw)) ⟨.bl _,H,I,rfl,?_⟩;rw [show its.toArray.any (eqU x) = its.any (eqU x) by simp,Qu r fs];exact q
theorem Zbp : OpR X (compareOp .NotIn) (rIn X.K true) := by
 intro pins s σ H x y v u Q I rx ry h;obtain ⟨p,xs,rfl,hq,fx,fs,q⟩ := h;cases ry;rcases hq with hq | hq
 · obtain ⟨its,r,pl,hz⟩ := I.list hq
   refine SeqAt.notIn_listAt (eqU x) pl.isList (fun w hw => Qv rx fx r fs w (by simpa using hw)) ⟨.bl _,H,I,rfl,?_⟩;rw [show its.toArray.any (eqU x) = its.any (eqU x) by simp,Qu r fs];exact q
 · obtain ⟨its,r,pl,hz⟩ := I.tuple hq
   refine SeqAt.notIn_tupleAt (eqU x) pl (fun w hw => Qv rx fx r fs w (by simpa using hw)) ⟨.bl _,H,I,rfl,?_⟩;rw [show its.toArray.any (eqU x) = its.any (eqU x) by simp,Qu r fs];exact q
theorem Zbq : Xe X (.builtin "len") (fun xs H Q => ∃ p ys,xs = [.ref p] /\ (SqL X.K H p ys \/ SqT X.K H p ys) /\ Q (.int ys.length) H) := by
 intro pins s σ H xs us Q I r h;obtain ⟨p,ys,rfl,hq,q⟩ := h;obtain ⟨u,rfl,rx⟩ := Vh r;cases rx;have hn := UK;rcases hq with hq | hq
 · obtain ⟨its,r',pl,hz⟩ := I.list hq
   have hlen := r'.length;exact Calls.call_len_list pl.isList (by simp only [List.size_toArray] <;> omega) ⟨.int ys.length,H,I.tok _,⟨s.toks + 1,by rw [List.size_toArray,hlen]⟩,q⟩
 · obtain ⟨its,r',pl,hz⟩ := I.tuple hq
   have hlen := r'.length;exact len_tuple pl (by simp only [List.size_toArray] <;> omega) ⟨.int ys.length,H,I.tok _,⟨s.toks + 1,by rw [List.size_toArray,hlen]⟩,q⟩
theorem Zbr : Xe X (.builtin "len") (fun xs H Q => ∃ z,xs = [.str z] /\ z.length <= sizeLine /\ Q (.int z.length) H) := by
 intro pins s σ H xs us Q I r h;obtain ⟨z,rfl,hz,q⟩ := h;obtain ⟨u,rfl,t,rfl⟩ := Vh r;have hn := UK;exact len_str (by omega) ⟨.int z.length,H,I.tok _,⟨_,rfl⟩,q⟩
theorem ZaX : Xe X (.type "tuple") (fun xs H Q => ∃ p ys,xs = [.ref p] /\ ((SqL X.K H p ys /\ ∀ l,H l = none -> Q (.ref l) (upd H l (.tup ys))) \/ (SqT X.K H p ys /\ Q (.ref p) H))) := by
 intro pins s σ H xs us Q I r h;obtain ⟨p,ys,rfl,h⟩ := h;obtain ⟨u,rfl,rx⟩ := Vh r;cases rx;rcases h with ⟨hq,q⟩ | ⟨hq,q⟩
 · obtain ⟨its,r',pl,hz⟩ := I.list hq
   have hlen := r'.length;refine call_tuple_list pl.isList (fun h' kp => ?_) (by simp only [List.size_toArray] <;> omega);have I1 : Inv X pins σ H { s with heap := h' } := I.kept (t' := s.toks) kp
   have I2 : Inv X pins σ (upd H h'.objs.size (.tup ys)) { s with heap := h'.push { cls := .type "tuple",data := .seq its.toArray } } :=
    I1.laid (t' := s.toks) (fun b o e => Heap.get?_push_of_some _ e) (Nat.le_refl _) (show ObjOk X.prog X.w _ _ _ (.tup ys) from ⟨hz,its,r',TupN.new _ _⟩)
   exact ⟨.ref h'.objs.size,_,I2,rfl,q _ (I1.hok.fresh (Nat.le_refl _))⟩
 · obtain ⟨its,r',pl,hz⟩ := I.tuple hq
   exact call_tuple_same pl ⟨.ref p,H,I,rfl,q⟩
def tyV (K : PySem.W.Frag) (T : String) (x : V) (H : Hp) : Prop := match x with
 | .str _ => T = "str"
 | .int _ => T = "int"
 | .ref p => (T = "list" /\ ∃ xs,SqL K H p xs) \/ (T = "tuple" /\ ∃ o,K.lookup p = some o /\ o.cls = .type "tuple" /\ o.dict = none) \/
  (T = "dict" /\ ((∃ kvs,H p = some (.dK kvs)) \/ ∃ kvs,H p = some (.dT kvs))) \/ (T = "set" /\ ∃ S n,H p = some (.set S n)) \/ (T = "tuple" /\ ∃ xs,H p = some (.tup xs))
 | _ => False
theorem ZhW {pins : List (Addr × Obj)} {σ : St} {H : Hp} {s : Shared} {T : String} {x : V} {v : Value} (I : Inv X pins σ H s) (r : RelV x v) (ty : tyV X.K T x H) :
 s.TypeIs v T /\ ∀ a,v = .ref a -> ∃ ob,s.heap.get? a = some ob /\ ob.dict = none := by
 cases x with
 | str z =>
  obtain ⟨t,rfl⟩ := r;cases (show T = "str" from ty);exact ⟨typeIs_str s z t,fun _ e => nomatch e⟩
 | int i =>
  obtain ⟨t,rfl⟩ := r;cases (show T = "int" from ty);exact ⟨typeIs_int s i t,fun _ e => nomatch e⟩
 | ref p =>
  cases r;rcases ty with ⟨rfl,xs,hq⟩ | ⟨rfl,o,hk,hc,hd⟩ | ⟨rfl,hk⟩ | ⟨rfl,S,n,hk⟩ | ⟨rfl,xs,hk⟩
  · obtain ⟨its,_,pl,_⟩ := I.list hq
    refine ⟨pl.isList.typeIs,fun a e => ?_⟩;cases e;obtain ⟨o,n,e,c,hd,_⟩ := pl;exact ⟨o,e,hd⟩
  · refine ⟨⟨o,I.kIn p o hk,hc⟩,fun a e => ?_⟩
    cases e;exact ⟨o,I.kIn _ o hk,hd⟩
  · have z : ∃ o, s.heap.get? p = some o /\ o.ExactDict := by
     rcases hk with ⟨kvs,hk⟩ | ⟨kvs,hk⟩
     · obtain ⟨_,_,_,_,o,_,_,e,ex,_⟩ := I.hok p _ hk
       exact ⟨o,e,ex⟩
     · obtain ⟨_,_,_,_,o,_,_,e,ex,_⟩ := I.hok p _ hk
       exact ⟨o,e,ex⟩
    obtain ⟨o,e,ex⟩ := z;refine ⟨⟨o,e,ex.1⟩,fun a e2 => ?_⟩;cases e2;exact ⟨o,e,ex.2.1⟩
  · obtain ⟨o,_,_,_,e,ex,_⟩ := I.hok p _ hk
    refine ⟨⟨o,e,ex.1⟩,fun a e2 => ?_⟩;cases e2;exact ⟨o,e,ex.2.1⟩
  · obtain ⟨_,its,_,o,e,c,_,dn⟩ := (show ObjOk X.prog X.w H s.heap p (.tup xs) from I.hok p _ hk)
    refine ⟨⟨o,e,c⟩,fun a e2 => ?_⟩;cases e2;exact ⟨o,e,dn⟩
 | _ => exact False.elim ty
def tBM (K : PySem.W.Frag) (T : String) (r : V -> List V -> Hp -> VK -> Prop) (to : TE) (t : TA) : TE := fun σ H Q => to σ H fun x H1 => tyV K T x H1 /\ t σ H1 fun xs H2 => r x xs H2 Q
variable {o e : Expr} {es : List Expr} {to : TE} {t : TA} {name : Str} {apos cpos : Pos} {T id : String} {r : V -> List V -> Hp -> VK -> Prop}
theorem Zi4 (pa : PlainAttrs T) (slot : Slot T name id) (hty : typeOf (.builtin id) = pure (.type "method_descriptor")) (hm : MtR X id r) (ho : PE X o to) (ha : PA X (e :: es) t)
 (hbase : attributeBase o name X.env (eval o X.env) = eval o X.env := by rfl)
 (hfew : ((backTo cpos (starEach (e :: es) X.env)).all (fun x => !x.1) && (backToKw cpos (keywordEach [] X.env)).all (fun x => x.1.isSome)
   && decide ((e :: es).length + ([] : List Keyword).length + (if ([] : List Keyword).isEmpty then 0 else 1) < 30)) = true := by rfl)
 (hline : (apos.endLine == cpos.line) = true := by rfl) (hs : starEach (e :: es) X.env = (false,eval e X.env) :: starEach es X.env := by rfl) (hplain : (backTo cpos (starEach es X.env)).any (·.1) = false := by rfl) :
 PE X (.Call (.Attribute o name apos) (e :: es) [] cpos) (tBM X.K T r to t) := by
 intro pins s σ H Q I h;refine wpAny_Call_method_late hbase hfew hline rfl (thn (ho pins s σ H _ I h) fun v s1 ⟨x,H1,I1,r1,ty,q1⟩ => ?_);obtain ⟨h1,h2⟩ := ZhW I1 r1 ty;refine ⟨T,id,pa,slot,hty,h1,h2,?_⟩;have hA := ha cpos pins s1 σ H1 _ I1 q1;rw [hs] at hA ⊢;refine Calls.callWith_builtin (by show (false || (backTo cpos (starEach es X.env)).any (·.1)) = false; rw [hplain] <;> rfl) (Calls.evalArgs_plain ?_)
 exact thn hA fun us s2 ⟨vs,H2,I2,r2,q2⟩ => hm pins s2 σ H2 x vs v us Q I2 r1 r2 q2
end
end L2
namespace L2
open PySem PySem.Spec PyProof.Rows
def MtM (X : Cx) (id : String) (r : V -> List V -> Hp -> VK -> Prop) : Prop :=
 ∀ (pins : List (Addr × Obj)) (s : Shared) (σ : St) (H : Hp) (x : V) (xs : List V) (v : Value) (us : List Value) (Q : VK),Inv X pins σ H s -> RelV x v -> Vals xs us -> r x xs H Q ->
  wpAny (model X.prog X.w) X.A (call (.builtin id) (v :: us)) (EP X pins σ Q) X.xe s
theorem Vals.one : ∀ {x : V} {us : List Value},Vals [x] us -> ∃ u,us = [u] /\ RelV x u
 | _,_,.cons r .nil => ⟨_,rfl,r⟩
theorem Vals.rep {xs : List V} {us : List Value} (h : Vals xs us) : ∀ k : Nat,Vals (List.replicate k xs).flatten (List.replicate k us).flatten
 | 0 => .nil
 | k + 1 => by
  rw [List.replicate_succ,List.replicate_succ,List.flatten_cons,List.flatten_cons];exact Vals.append h (Vals.rep h k)
theorem Za6 (its : List Value) : ∀ (k : Nat) (acc : List Value),
 List.foldl (fun x1 x2 => x1 ++ x2) acc.toArray (List.replicate k its.toArray) = (acc ++ (List.replicate k its).flatten).toArray
 | 0,acc => by simp
 | k + 1,acc => by
  have e : acc.toArray ++ its.toArray = (acc ++ its).toArray := by simp
  have e2 : (acc ++ its) ++ (List.replicate k its).flatten = acc ++ (List.replicate (k + 1) its).flatten := by
   rw [List.replicate_succ,List.flatten_cons,List.append_assoc]
  rw [<- e2,<- Za6 its k (acc ++ its),<- e,List.replicate_succ,List.foldl_cons]
section
variable {X : Cx} {pins : List (Addr × Obj)} {σ : St} {H : Hp} {s : Shared} {l b : Addr} {xs ys zs : List V}
theorem Inv.lset {its its' : List Value} {n : Nat} {f : Array Value -> Array Value} {t' : Nat} (I : Inv X pins σ H s) (hH : H l = some (.lst xs))
 (e : s.heap.get? l = some { cls := .type "list",data := .seq its.toArray n }) (hf : f its.toArray = its'.toArray) (hv : Vals ys its') (hz : ys.length <= sizeLine) :
 Inv X pins σ (upd H l (.lst ys)) { s with heap := s.heap.update l (Obj.mapSeq f),toks := t' } := by
 have q := PySem.IsL.update e f;rw [hf] at q;refine I.write (x:=l) (e:=l) (by rw [hH]; exact trivial) (.inl rfl) (fun b' u hb hu => (Heap.get?_update_other s.heap (Obj.mapSeq f) (Ne.symm hb)).trans hu) ⟨_,q⟩ ?_;exact ⟨hz,its',_,hv,q⟩
theorem Inv.lnew {its : List Value} {t' : Nat} (I : Inv X pins σ H s) (hv : Vals ys its) (hz : ys.length <= sizeLine) :
 Inv X pins σ (upd H s.heap.objs.size (.lst ys)) { s with heap := s.heap.push { cls := .type "list",data := .seq its.toArray },toks := t' } :=
 I.laid (fun _ _ q => Heap.get?_push_of_some _ q) (Nat.le_refl _) ⟨hz,its,0,hv,Heap.get?_push_size _ rfl⟩
theorem Inv.fresh (I : Inv X pins σ H s) : H s.heap.objs.size = none := I.hok.fresh (Nat.le_refl _)
theorem Inv.lstM (I : Inv X pins σ H s) (hH : H l = some (.lst xs)) : xs.length <= sizeLine /\ ∃ (its : List Value) (n : Nat),Vals xs its /\ xs.length = its.length /\ s.heap.get? l = some { cls := .type "list",data := .seq its.toArray n } := by
 obtain ⟨z,its,n,r,e⟩ := I.hok l _ hH;exact ⟨z,its,n,r,r.length,e⟩
theorem ZeG {n : Nat} (h : n <= sizeLine) : Builtin.List.listTooLong n = false := by
 unfold Builtin.List.listTooLong;exact decide_eq_false (by omega)
end
section
variable {X : Cx}
def rAppend : V -> List V -> Hp -> VK -> Prop := fun x vs H Q => ∃ l xs y,x = .ref l /\ vs = [y] /\ H l = some (.lst xs) /\ xs.length < sizeLine /\ Q .non (upd H l (.lst (xs ++ [y])))
theorem Q4 : MtM X "list.append" rAppend := by
 intro pins s σ H x vs v us Q I rx rv h;obtain ⟨l,xs,y,rfl,rfl,hH,hz,q⟩ := h;cases rx;obtain ⟨u,rfl,ru⟩ := rv.one;obtain ⟨z,its,n,r,hl,e⟩ := I.lstM hH;refine call_meets F.slot_list_append ⟨_,e,rfl⟩ F.entry_list_append (F.args_list_append_2 _ _) (PySem.list_append l its.toArray n u (by rw [List.size_toArray]; omega)) ⟨e,?_⟩;refine ⟨.non,_,I.lset (its' := its ++ [u]) hH e (by simp) (r.append (.cons ru .nil)) ?_,rfl,q⟩
 rw [List.length_append,List.length_singleton];omega
def ZkN : R2 := fun x y H Q => ∃ l b xs zs,x = .ref l /\ y = .ref b /\ H l = some (.lst xs) /\ H b = some (.lst zs) /\ xs.length + zs.length <= sizeLine /\ ∀ p,H p = none -> Q (.ref p) (upd H p (.lst (xs ++ zs)))
theorem Zgc {α : Type} (xs : List α) (k : Nat) : (List.replicate k xs).flatten.length = k * xs.length := by
 induction k with
 | zero => simp
 | succ k ih => rw [List.replicate_succ,List.flatten_cons,List.length_append,ih,Nat.succ_mul,Nat.add_comm]
end
section
variable {prog : Program} {w : World} {A : Around} {E : Value -> Shared -> Prop} {s : Shared}
set_option maxRecDepth 100000 in
end
section
variable {X : Cx}
end
end L2
namespace Att
open PySem PySem.W PySem.Calls PyProof.Rows
theorem Zay {P : Params} {h : Heap} : ∀ (ns : List Int) (vs : List Value),WellAll P h vs (ns.map WData.int) -> IntsAre vs ns := by
 intro ns
 induction ns with
 | nil =>
  intro vs w;rw [List.map_nil] at w;cases w;exact .nil
 | cons n ns ih =>
  intro vs w;rw [List.map_cons] at w;cases w with
  | cons a b =>
   cases a;exact .cons _ _ (ih _ b)
theorem Zd3 {l : OpenLaw} {n : Nat} (hn : l.most = some n) {P : Params} {h : Heap} {args : List WData} {vals : List Value}
 (hpre : l.row.toRowW.claim.pre args = true) (hwl : WellAll P h vals args) :
 ∃ a vs ns,vals = [Value.ref a] /\ args = [WData.list (ns.map WData.int)] /\ h.get? a = some { cls := .type "list",data := .seq vs.toArray } /\ IntsAre vs ns /\ ns.length <= n := by
 have hsh : WShape.hasAll [] args [.list .int] = true := (pre_splitW hpre).1;have hc : l.pre.holds [] { args := args } = true := (pre_splitW hpre).2;obtain ⟨d,r,rfl,h1,h2⟩ := hasAllW_cons hsh;obtain rfl := hasAllW_nil h2;obtain ⟨xs,rfl,h3⟩ := hasW_list h1;obtain ⟨ns,rfl⟩ := items_int h3
 have hlen : ns.length <= n := by
  unfold OpenLaw.pre at hc
  have h4 : (WTm.not (.lt (.lit (.int (n : Int))) (.len (.arg 0)))).holds [] { args := [.list (ns.map .int)] } = true := by
   have h4 := (holds_andW hc).1;rw [hn] at h4;exact h4
  have h5 := condW_of h4 (w_not (w_lt w_lit (w_len_list (w_arg rfl))));rw [List.length_map] at h5;refine Nat.le_of_not_lt fun q => ?_
  have q' : (n : Int) < ((ns.length : Nat) : Int) := by omega
  first
   | (rw [decide_eq_true q'] at h5; exact absurd h5 (by decide))
   | (simp at h5; omega)
 cases hwl with
 | cons w1 w2 =>
  cases w2;cases w1 with
  | list ho hall => exact ⟨_,_,ns,rfl,rfl,ho,Zay ns _ hall,hlen⟩
theorem Zd4 (l : OpenLaw) (args : List WData) : l.row.toRowW.claim.post args (.bool true) args = true :=
 postW_of (r:=l.row.toRowW) (X:=(true == true))
  (show WShape.has [] (.bool true) .bool = true by first | rfl | decide | simp [WShape.has,WShape.arms,WShape.armsAll])
  (show (WTm.eq .res (.lit (.bool true))).value [] { args := args,res := some (.bool true),after := args } = some (.bool (true == true)) from w_eq_bool (w_res rfl) w_lit) rfl
theorem attach_call {l : OpenLaw} {n : Nat} {q : Program} {loose : List Str} {XP : (Str -> Option Value) -> Heap -> Prop} {YP : World -> Heap -> Prop} {d : DefRec}
 (hn : l.most = some n) (hdf : d.params.defaults = [])
 (call : ∀ (w : World) (s₀ s₁ : Shared) (mg mb : Str -> Option Value) (fa : Addr) (o : Obj) (pm cd doc : Value) (a : Addr) (vs : List Value) (ns : List Int),
   Ground q loose [] XP w s₀ mg mb s₁.heap -> YP w s₁.heap ->
   s₁.heap.get? fa = some o -> o.data = .func (docDef d.name d.params d.body d.scope pm cd doc) -> s₁.heap.CodeRec cd d.name -> mg d.name = some (.ref fa) ->
   s₁.heap.get? a = some { cls := .type "list",data := .seq vs.toArray } -> IntsAre vs ns -> ns.length <= n -> s₁.gens = #[] ->
   codeAny (model l.prog w) callerA (.call (.ref fa) ⟨[.ref a],[]⟩) (fun r s' => r = .ok (.ret (.bool true)) /\ OldK s₁.heap s'.heap /\ s'.os = s₁.os /\ AllBare s'.gens) s₁) :
 WalkO q loose XP YP l.row.toRowW d [] (fun f vs => PySem.call f vs) := by
 intro w s₀ s₁ mg mb G Y fa o pm cd doc dV kV ho hd hcd hD hmg hg args vals as hpre hlay hrd hwl hlo;obtain rfl : dV = .none := Dflts.none hD hdf;obtain rfl : kV = .none := Dflts.noKw hD;obtain ⟨a,vs,ns,rfl,rfl,hobj,hints,hlen⟩ := Zd3 hn hpre hwl;refine enter_call (codeAny_mono (call w s₀ s₁ mg mb fa o pm cd doc a vs ns G Y ho (fd_plain hd) hcd hmg hobj hints hlen hg) fun r s' hq => ?_);obtain ⟨rfl,h2,h3,h4⟩ := hq
 exact ⟨.inl ⟨.bool true,.bool true,[],rfl,fun _ => rfl,.bool true,Zd4 l _,fun _ => ⟨List.Pairwise.nil,fun _ hm => (nomatch hm)⟩⟩,h2,h3,h4⟩
section
variable {prog : Program} {w : World} {A : Around} {E : Value -> Shared -> Prop} {s : Shared} {K : Frag}
end
end Att
namespace L2
open PySem PySem.Spec PyProof.Rows
theorem Za7 : ∀ {vs : List Value} {ns : List Int},IntsAre vs ns -> Vals (ns.map V.int) vs
 | _,_,.nil => .nil
 | _,_,.cons n t h => .cons ⟨t,rfl⟩ (Za7 h)
def ZiE (H : Hp) : Prop := ∀ b,H b = none \/ ∃ o xs,H b = some (.frz o (.lst xs))
theorem ZeH {P : Program} {w : World} {K : PySem.W.Frag} {mg mb : Str -> Option Value} {CX : CXT} {k : Nat} {fa a : Addr} {fd : FuncData} {x : Str} {sp : Sp} {s₁ : Shared} {vs : List Value} {ns : List Int}
 (KX : K.In s₁.heap) (hns : s₁.heap.Ns mainGlobals mg) (hb : s₁.heap.Ns builtinsNs mb) (hbb : ∀ x : Str,x ≠ "__name__" -> mb x = bootBuiltins x) (hlim : s₁.heap.NoLimit) (hg : s₁.gens = #[])
 (ha : s₁.heap.get? a = some { cls := .type "list",data := .seq vs.toArray }) (hi : IntsAre vs ns) (hl : ns.length <= sizeLine) (hr : Room k callerA)
 (F : ∀ base : Heap,K.In base -> base.Ns mainGlobals mg -> FnOk P w K mg base CX k fa fd [x] sp) (hbind : ∀ (s : Shared) (u : Value),BindsTo s fd ⟨[u],[]⟩ [(x,u)])
 (hsp : ∀ H : Hp,ZiE H -> SqL K H a (ns.map V.int) -> sp [.ref a] H (fun v _ => v = .bl true) fun _ _ _ => False)
 (hCX : ∀ H e s',CX [] H s₁ (fun _ _ _ => False) e s' -> False) :
 codeAny (model P w) callerA (.call (.ref fa) ⟨[.ref a],[]⟩) (fun r s' => r = .ok (.ret (.bool true)) /\ OldK s₁.heap s'.heap /\ s'.os = s₁.os /\ AllBare s'.gens) s₁ := by
 have rv := Za7 hi;have lenV := hi.length
 have core : ∀ H : Hp,ZiE H -> SqL K H a (ns.map V.int) -> HOk P w H s₁.heap -> (∀ b,H b ≠ none -> b = a) -> (H a ≠ none -> K.lookup a = none) ->
  codeAny (model P w) callerA (.call (.ref fa) ⟨[.ref a],[]⟩) (fun r s' => r = .ok (.ret (.bool true)) /\ OldK s₁.heap s'.heap /\ s'.os = s₁.os /\ AllBare s'.gens) s₁ := by
  intro H hO hS hok hA hK;have base_of : ∀ {b : Addr} {o : Obj},s₁.heap.get? b = some o -> H b = none -> (Vg s₁.heap H).get? b = some o := fun e n => ZeA e n
  have noA : ∀ {b : Addr} {o : Obj} {es : Array DictEntry} {ep : Nat},s₁.heap.get? b = some o -> o.data = .dict es ep -> H b = none := fun {b o es ep} e d => by
   cases q : H b with
   | none => rfl
   | some u =>
    have e' : b = a := hA b (by rw [q]; simp);subst e';rw [ha] at e; cases e;have d' : Data.seq vs.toArray _ = Data.dict es ep := d;cases d'
  have nsK : ∀ {b : Addr} {m : Str -> Option Value},s₁.heap.Ns b m -> (Vg s₁.heap H).Ns b m := fun {b m} ⟨o,es,ep,e,d,r⟩ => ⟨o,es,ep,base_of e (noA e d),d,r⟩
  have hKb : K.In (Vg s₁.heap H) := fun b o e => base_of (KX b o e) (by
   cases q : H b with
   | none => rfl
   | some u =>
    have e' : b = a := hA b (by rw [q]; simp);subst e';rw [hK (by rw [q]; simp)] at e; cases e)
  have hM : Mod K mg (Vg s₁.heap H) := ⟨hKb,nsK hns,⟨mb,nsK hb,hbb⟩,let ⟨mc,h1,h2⟩ := hlim; ⟨mc,nsK h1,h2⟩⟩
  have e0 : Env0 P w K mg (Vg s₁.heap H) callerA [] s₁ H := ⟨rfl,hM,fun b o e => Zf4 e,Nat.le_of_eq (ZdX _ _),trivial,fun b hb => absurd (show b ∈ ([] : List Addr) from hb) (by simp),hok,.of_eq hg⟩
  refine codeAny_mono ((F _ hKb (nsK hns)).run callerA [] s₁ H ⟨[.ref a],[]⟩ [.ref a] [.ref a] _ _ hr e0 (hbind s₁ (.ref a)) (.cons rfl .nil) (hsp H hO hS)) fun r s' h => ?_
  cases r with
  | error e => exact (hCX H e s' h).elim
  | ok fl =>
   cases fl with
   | next => exact False.elim h
   | brk => exact False.elim h
   | cont => exact False.elim h
   | ret u =>
    obtain ⟨v,H',os,bare,un,hok',r',q⟩ := h;have q' : v = .bl true := q;subst q';obtain rfl : u = Value.bool true := r';refine ⟨rfl,OldK.of_keep fun b o e => ?_,os,bare⟩;cases q : H b with
    | none => exact un.keep b o e q (by intro z; exact absurd (show b ∈ ([] : List Addr) from z) (by simp)) (by simp)
    | some u =>
     rcases hO b with z | ⟨ob,xs,z⟩
     · rw [q] at z; cases z
     · have z2 := un.frzs b ob _ z
       obtain ⟨e1,_⟩ := hok b _ z;obtain ⟨e2,_⟩ := hok' b _ z2;rw [e] at e1; cases e1;exact e2
 cases hk : K.lookup a with
 | some o =>
  have e := KX a o hk;rw [ha] at e;cases e;refine core (fun _ => none) (fun _ => .inl rfl) (.inr ⟨_,vs.toArray,_,hk,rfl,rfl,rfl,by rw [List.size_toArray,lenV]; exact hl,by simpa using rv⟩) (fun b u z => by have z' : (none : Option HO) = some u := z; cases z') (fun b z => absurd rfl z) fun z => absurd rfl z
 | none =>
  refine core (fun b => if b = a then some (.frz { cls := .type "list",data := .seq vs.toArray } (.lst (ns.map V.int))) else none) (fun b => ?_) (.inl (.inr ⟨{ cls := .type "list",data := .seq vs.toArray },if_pos rfl⟩)) (fun b u z => ?_) (fun b z => ?_) fun _ => hk
  · by_cases hb : b = a
    · exact .inr ⟨_,_,if_pos hb⟩
    · exact .inl (if_neg hb)
  · by_cases hb : b = a
    · have z' := (if_pos hb).symm.trans z
      cases z';subst hb;exact ⟨ha,by rw [List.length_map]; exact hl,vs,_,rv,ha⟩
    · have z' := (if_neg hb).symm.trans z
      cases z'
  · by_cases hb : b = a
    · exact hb
    · exact absurd (if_neg hb) z
end L2
namespace L2
open PySem PySem.Spec PyProof.Rows
theorem walk_of {l : PySem.W.OpenLaw} {n k : Nat} {q : Program} {loose : List Str} {XP : (Str -> Option Value) -> Heap -> Prop} {YP : World -> Heap -> Prop} {d : DefRec} {K : Params -> PySem.W.Frag} {CX : World -> CXT} {sp : World -> Sp} {x : Str}
 (hn : l.most = some n) (hn2 : n <= sizeLine) (hdf : d.params.defaults = []) (hr : Room k callerA)
 (hY : ∀ (w : World) (h : Heap),YP w h -> (K w.params).In h)
 (F : ∀ (w : World) (mg : Str -> Option Value) (fa : Addr) (h : Heap),(K w.params).In h -> h.Ns mainGlobals mg -> mg d.name = some (.ref fa) ->
   ∃ fd : FuncData,(∀ (s : Shared) (u : Value),BindsTo s fd ⟨[u],[]⟩ [(x,u)]) /\
    ∀ base : Heap,(K w.params).In base -> base.Ns mainGlobals mg -> FnOk l.prog w (K w.params) mg base (CX w) k fa fd [x] (sp w))
 (hsp : ∀ (w : World) (H : Hp) (a : Addr) (ns : List Int),ns.length <= n -> ZiE H -> SqL (K w.params) H a (ns.map V.int) -> sp w [.ref a] H (fun v _ => v = .bl true) fun _ _ _ => False)
 (hCX : ∀ (w : World) (H : Hp) (s : Shared) (e : Value) (s' : Shared),CX w [] H s (fun _ _ _ => False) e s' -> False) :
 PySem.W.WalkO q loose XP YP l.row.toRowW d [] (fun f vs => PySem.call f vs) := by
 refine Att.attach_call hn hdf fun w s₀ s₁ mg mb fa o pm cd doc a vs ns G Y ho hd hcd hmg hobj hints hlen hg => ?_
 have KX := hY w _ Y;obtain ⟨fd,hb,hF⟩ := F w mg fa _ KX G.T.g hmg;exact ZeH KX G.T.g G.T.b G.T.builtins G.T.nolimit hg hobj hints (Nat.le_trans hlen hn2) hr hF hb (fun H hO hS => hsp w H a ns hlen hO hS) fun H e s' => hCX w H s₁ e s'
end L2
namespace L2
open PySem PySem.Spec PyProof.Rows
def Q5 (s : Stmt) (j : Nat) : Stmt := match s with
 | .ClassDef _ _ _ body _ _ _ _ _ _ _ => body.getD j (.Pass ⟨0,0,0,0⟩)
 | _ => .Pass ⟨0,0,0,0⟩
def defArgs (s : Stmt) : Arguments := match s with
 | .FunctionDef _ a _ _ _ _ _ _ _ _ => a
 | _ => { posonlyargs := [],args := [],vararg := none,kwonlyargs := [],kw_defaults := [],kwarg := none,defaults := [] }
def defBody (s : Stmt) : List Stmt := match s with
 | .FunctionDef _ _ b _ _ _ _ _ _ _ => b
 | _ => []
def defScope (s : Stmt) : Scope := match s with
 | .FunctionDef _ _ _ _ _ _ sc _ _ _ => sc
 | _ => { kind := .function,names := [],isGenerator := false,isCoroutine := false }
abbrev CX0 : CXT := fun _ _ _ _ _ _ => False
abbrev E0 : XK := fun _ _ _ => False
theorem Z1 {X : Cx} : VV CX0 X E0 := fun _ _ _ _ _ _ _ h => h.elim
structure Fun (K : PySem.W.Frag) (x qual : Str) (st : Stmt) (f : Addr) (fd : FuncData) : Prop where
 ex : ∃ (oc : Value) (od : Option Addr) (kV doc pm : Value) (an : Option Addr) (cdv ct : Value) (osl : Array (Option Value)),
  fd = fnOf x qual (defArgs st) (defBody st) (defScope st) .none kV doc pm an cdv ct /\ K.lookup f = some ⟨oc,od,.func fd,osl⟩ /\ codeIn K cdv qual = true
 kp : keepIn K (.ref f) = true
section
variable {P : Program} {w : World} {K : PySem.W.Frag} {mg : Str -> Option Value} {base : Heap}
theorem Fun.ok {x qual : Str} {st : Stmt} {f : Addr} {fd : FuncData} {N ps : List Str} {k : Nat} {sp : Sp} (F : Fun K x qual st f fd) (S : FnScope N ps (defScope st)) (len : ∀ vs H Q E,sp vs H Q E -> vs.length = ps.length)
 (hbody : ∀ (cdv : Value) (A : Around) (outer : List Env) (s : Shared) (H : Hp) (vs : List V) (Q : VK) (E : XK),Room k (A.deeper (envOfC qual (defScope st) s.heap.objs.size f cdv)) -> sp vs H Q E ->
   ∃ t,PSs (Yu CX0 P w K mg base N qual (defScope st) f cdv A outer s H E).nox (defBody st) t /\ t { nx := fun _ H' => Q .non H',rt := Q } (start N vs) H) : FnOk P w K mg base CX0 (k + 1) f fd ps sp := by
 obtain ⟨oc,od,kV,doc,pm,an,cdv,ct,osl,rfl,lk,hcd⟩ := F.ex;refine ZfO lk hcd S len fun A outer s H vs Q E hr hsp => ?_
 obtain ⟨t,h,q⟩ := hbody cdv A outer s H vs Q E hr hsp;exact ⟨t,h.nox,q⟩
theorem Fun.binds {x qual : Str} {st : Stmt} {f : Addr} {fd : FuncData} {ps : List Str} (F : Fun K x qual st f fd)
 (h : ∀ (kV doc pm : Value) (an : Option Addr) (cdv ct : Value) (us : List Value),us.length = ps.length -> bindArgs (fnOf x qual (defArgs st) (defBody st) (defScope st) .none kV doc pm an cdv ct) ⟨us,[]⟩ = pure (ps.zip us)) : Binds K fd ps [] := by
 obtain ⟨oc,od,kV,doc,pm,an,cdv,ct,osl,rfl,lk,hcd⟩ := F.ex;exact .all (h kV doc pm an cdv ct)
theorem ZC {x qual : Str} {st : Stmt} {f : Addr} {oc : Value} {od an : Option Addr} {osl : Array (Option Value)} {kV doc pm cdv ct : Value} (l : K.lookup f = some ⟨oc,od,.func (fnOf x qual (defArgs st) (defBody st) (defScope st) .none kV doc pm an cdv ct),osl⟩)
 (c : codeIn K cdv qual = true) (k : keepIn K (.ref f) = true) : Fun K x qual st f (fnOf x qual (defArgs st) (defBody st) (defScope st) .none kV doc pm an cdv ct) := ⟨⟨oc,od,kV,doc,pm,an,cdv,ct,osl,rfl,l,c⟩,k⟩
end
section
variable {X : Cx}
theorem pv (i : Nat) {x : Str} {pos : Pos} (hN : X.N[i]? = some x := by rfl) (hv : Vis X.env.scope x := by first | exact Or.inl rfl | exact Or.inr (Or.inl rfl) | exact Or.inr (Or.inr rfl)) (hd : (x == ("__debug__" : Str)) = false := by decide)
 (hcd : (x == ("__classdict__" : Str)) = false := by decide) : PE X (.Name x pos) (YO i) := ZhI hN hv hd hcd
end
theorem Uj {A B : Prop} (h : B) : if false = true then A else B := by
 rw [if_neg Bool.false_ne_true];exact h
theorem Uk {A B : Prop} (h : A) : if true = true then A else B := by
 rw [if_pos rfl];exact h
def Same (H H' : Hp) : Prop := ∀ b o,H b = some o -> H' b = some o
theorem Same.refl (H : Hp) : Same H H := fun _ _ h => h
theorem Same.trans {H H1 H2 : Hp} (a : Same H H1) (b : Same H1 H2) : Same H H2 := fun c o h => b c o (a c o h)
theorem Same.free {H H' : Hp} (e : Same H H') {l : Addr} (h : H' l = Option.none) : H l = Option.none := by
 cases q : H l with
 | none => rfl
 | some o =>
  rw [e l o q] at h;cases h
theorem Same.seq {K : PySem.W.Frag} {H H' : Hp} {a : Addr} {xs : List V} (e : Same H H') (h : SqL K H a xs) : SqL K H' a xs := by
 rcases h with (h | ⟨o,h⟩) | h
 · exact .inl (.inl (e _ _ h))
 · exact .inl (.inr ⟨o,e _ _ h⟩)
 · exact .inr h
end L2
namespace HT
open PySem PySem.W PySem.Calls PyProof.Rows
def de (P : Params) (x : Str) (t : Nat) (v : Value) : DictEntry := ⟨PyData.keyHash P x,.str x t,v⟩
def dO (c : Value) (es : List DictEntry) (n : Nat) : Obj := ⟨c,none,.dict es.toArray n,#[]⟩
def cO (vs : List Value) : Obj := ⟨.type "code",none,.fields vs.toArray,#[]⟩
def fO (x q : Str) (st : Stmt) (dv kv doc pm : Value) (an : Option Addr) (cd ct : Value) : Obj := ⟨.type "function",none,.func (fnOf x q (L2.defArgs st) (L2.defBody st) (L2.defScope st) dv kv doc pm an cd ct),#[]⟩
def c3 (x q : Str) (t l a n r : Nat) (r2 : Nat) (v w : Value) (r3 k k2 : Nat) : Obj := cO [.str x t,.str q (t + 1),.str "/claim/cut.py" (t + 2),.int l 0,.int a 0,.int 0 0,.int 0 0,.int n 0,.ref r,.bool true,.int 181 0,.ref r2,.none,v,w,.ref r3,.int k 0,.int l 0,.str "/claim/cut.py" k2]
def f3 (x q : Str) (st : Stmt) (m : Str) (t c : Nat) : Obj := fO x q st .none .none .none (.str m t) none (.ref c) .none
def x3 (P : Params) (m : Str) (t a b l c d r e n : Nat) : Obj := dO (.type "dict") [de P "__module__" a (.str m t),de P "__firstlineno__" b (.int l c),de P "__static_attributes__" d (.ref r),de P "__doc__" e .none] n
def k3 (x : Str) (a b n r t u : Nat) : Obj := ⟨.type "type",none,.cls ⟨x,[.ref b],[.ref a,.ref b,.type "ValueError",.type "Exception",.type "BaseException",.type "object"],n,x,true,[],[],false,none,false⟩,#[some (.ref r),none,some (.str x t),some (.str x u),some (.builtin "ValueError.__new__"),some (.bool true)]⟩
def met {α : Type} (_ : α) : Bool := true
noncomputable def Zi5 (P : Params) : BT :=
 ((((((((((BT.nil.ins 0 (boot_o_0 P)).ins 1 (boot_o_1 P)).ins 2 (boot_o_2 P)).ins 3 (boot_o_3 P)).ins 4 (boot_o_4 P)).ins 5 (boot_o_5 P)).ins 6 (boot_o_6 P)).ins 7 (boot_o_7 P)).ins 8 (boot_o_8 P)).ins 9 (boot_o_9 P)).ins 10 (boot_o_10 P)
noncomputable abbrev S0 (w : World) (os : OsState) : Shared := ⟨boot_heap w.params,Array.mk [],boot_drawn,boot_toks,os⟩
noncomputable abbrev S0T (w : World) (os : OsState) : SharedT := ⟨Zi5 w.params,11,(boot_heap w.params).life,Array.mk [],boot_drawn,boot_toks,os⟩
theorem ZkO (w : World) (os : OsState) : (S0T w os).abs = S0 w os := rfl
noncomputable def ZiF (thr ok : Thread -> Bool) (st : SharedT -> Thread -> Option (SharedT × Thread)) (n : Nat) : SharedT -> Thread -> Option SharedT :=
 @Nat.rec (fun _ => SharedT -> Thread -> Option SharedT) (fun _ _ => none)
  (fun _ ih s t => @Bool.rec (fun _ => Option SharedT) (@Bool.rec (fun _ => Option SharedT) none (@Option.rec (SharedT × Thread) (fun _ => Option SharedT) none (fun r => ih r.1 r.2) (st s t)) (ok t)) (some s) (thr t)) n
theorem ZbV {tb : String -> Option Builtin} {p : Program} {w : World} {n₀ : Nat} {ann : Option Value} : ∀ {n : Nat} {s s' : SharedT} {t : Thread},ZiF through (stepOk n₀ ann) (stepT (denote tb) p w) n s t = some s' -> topRun tb p w n₀ ann n s.abs t = some s'.abs
 | 0,_,_,_,h => by cases h
 | n + 1,s,s',t,h => by
  replace h : @Bool.rec (fun _ => Option SharedT) (@Bool.rec (fun _ => Option SharedT) none (@Option.rec (SharedT × Thread) (fun _ => Option SharedT) none (fun r => ZiF through (stepOk n₀ ann) (stepT (denote tb) p w) n r.1 r.2) (stepT (denote tb) p w s t)) (stepOk n₀ ann t)) (some s) (through t) = some s' := h;unfold topRun;cases ht : through t with
  | true => rw [ht] at h; cases h; rfl
  | false =>
   rw [ht] at h;cases hk : stepOk n₀ ann t with
   | false => rw [hk] at h; cases h
   | true =>
    rw [hk] at h;cases hs : stepT (denote tb) p w s t with
    | none => rw [hs] at h; cases h
    | some r => obtain ⟨s₂,t₂⟩ := r; rw [hs] at h; rw [stepT_spec hs]; exact ZbV h
theorem left_of {p q : Program} {loose : List Str} {Xt : Shared -> Bool} {α : Type} {Yf : Shared -> α} {Ya : World -> α} {N : Nat}
 (e : opening p = plainProg p.main.scope.names) (hN : Nat.ble 600 N = true) (f : ∀ s,fenceModules? p s = some s)
 (run : ∀ w : World,(fun os => (ZiF through (stepOk 11 (some (.ref 6))) (stepT (denote treeTable) p w) N (S0T w os) (topStub p)).map fun s => ((staticsOk (importedModules p.main.body) (boot_heap w.params) s.abs.heap && namesBound p s.abs.heap && gensDone s.abs && laidKept (boot_heap w.params) s.abs.heap),
   openSeen q loose (importedModules p.main.body) Xt true s.abs,Yf s.abs)) = fun _ => some (true,openGood q loose,Ya w)) : LeftO p q loose Xt Yf Ya N := fun w => by
 obtain ⟨⟨h,gs,d,k,os⟩,e,e'⟩ := Option.map_eq_some_iff.mp (boot_open e hN f w);obtain ⟨rfl,rfl,rfl,rfl⟩ : h = boot_heap w.params /\ gs = Array.mk [] /\ d = boot_drawn /\ k = boot_toks := by simpa using e'
 obtain ⟨s1,r,l⟩ := Option.map_eq_some_iff.mp (congrFun (run w) os);obtain ⟨l1,l2,l3⟩ : _ /\ _ /\ _ := by simpa only [Prod.mk.injEq] using l
 have r := ZbV r;rw [ZkO] at r;have z1 : ((boot_heap w.params).isNs mainGlobals && (Array.mk [] : Array GenState).size == 0) = true := by kernel_rfl
 have z2 : (boot_heap w.params).objs.size = 11 := rfl;have z3 : (boot_heap w.params).nsMap mainGlobals "__annotations__" = some (.ref 6) := by kernel_rfl
 have t : topFrom treeTable p w N (S0 w os) = some s1.abs := by
  unfold topFrom;dsimp only;rw [z1,z2,z3,r];show (match staticsOk (importedModules p.main.body) (boot_heap w.params) s1.abs.heap && namesBound p s1.abs.heap && gensDone s1.abs && laidKept (boot_heap w.params) s1.abs.heap with | true => _ | false => _) = _;rw [l1]
 unfold openEnds;rw [e];show (topFrom treeTable p w N _).map _ = _;rw [t];exact congrArg some (Prod.ext l2 l3)
end HT
namespace L2
open PySem Builtin Builtin.Str
abbrev tx (cs : List Nat) : Str := ⟨cs.toArray⟩
theorem tx_inj {a b : List Nat} : tx a = tx b ↔ a = b := by
 constructor
 · intro h
   have h2 : a.toArray = b.toArray := congrArg Str.cps h;simpa using h2
 · rintro rfl; rfl
theorem Q6 (cs : List Nat) : (tx cs).cps.toList = cs := by simp [tx]
theorem Xr (cs : List Nat) : (tx cs).length = cs.length := by simp [tx,Str.length]
theorem ZcT (a b : List Nat) : tx a ++ tx b = tx (a ++ b) := by
 show Str.mk (a.toArray ++ b.toArray) = Str.mk (a ++ b).toArray;simp
def ZR (n d : Nat) : Option Int -> Nat
 | none => d
 | some v => if v < 0 then (v + (n : Int)).toNat else min v.toNat n
def cutL {α : Type} (xs : List α) (lo hi : Option Int) : List α := (xs.drop (ZR xs.length 0 lo)).take (ZR xs.length xs.length hi - ZR xs.length 0 lo)
theorem Zfh (lo hi : Option Int) (n : Nat) : strSliceIndices lo hi 1 n = (List.range (ZR n n hi - ZR n 0 lo)).map fun k => ZR n 0 lo + k := by
 have clip : ∀ v : Int,max 0 (min (if v < 0 then v + (n : Int) else v) (n : Int)) = (((if v < 0 then (v + (n : Int)).toNat else min v.toNat n) : Nat) : Int) := by
  intro v
  by_cases h : v < 0
  · rw [if_pos h,if_pos h]; omega
  · rw [if_neg h,if_neg h]; omega
 have key : ∀ (a b : Nat),sliceRange (a : Int) (b : Int) 1 = (List.range (b - a)).map fun k => a + k := by
  intro a b;unfold sliceRange;simp only [show (1 : Int) > 0 by decide,if_true]
  have e : (if (a : Int) < (b : Int) then ((b : Int) - (a : Int) + 1 - 1) / 1 else 0).toNat = b - a := by
   split
   · rw [Int.ediv_one]; omega
   · omega
  rw [e];refine List.map_congr_left fun k _ => ?_
  omega
 unfold strSliceIndices;simp only [show (1 : Int) > 0 by decide,if_true];cases lo with
 | none =>
  cases hi with
  | none => exact key 0 n
  | some v =>
   have := key 0 (ZR n n (some v));refine Eq.trans ?_ this;show sliceRange 0 (max 0 (min (if v < 0 then v + (n : Int) else v) (n : Int))) 1 = _;rw [clip v];rfl
 | some u =>
  cases hi with
  | none =>
   have := key (ZR n 0 (some u)) n;refine Eq.trans ?_ this;show sliceRange (max 0 (min (if u < 0 then u + (n : Int) else u) (n : Int))) n 1 = _;rw [clip u];rfl
  | some v =>
   have := key (ZR n 0 (some u)) (ZR n n (some v));refine Eq.trans ?_ this;show sliceRange (max 0 (min (if u < 0 then u + (n : Int) else u) (n : Int))) (max 0 (min (if v < 0 then v + (n : Int) else v) (n : Int))) 1 = _;rw [clip u,clip v];rfl
theorem ZbW {α : Type} (xs : List α) (l : Nat) : ∀ k,l + k <= xs.length -> ((List.range k).map fun j => l + j).filterMap (fun j => xs[j]?) = (xs.drop l).take k
 | 0,_ => by simp
 | k + 1,h => by
  rw [List.range_succ,List.map_append,List.filterMap_append,ZbW xs l k (by omega)];have hx : xs[l + k]? = some (xs[l + k]'(by omega)) := List.getElem?_eq_getElem (by omega);rw [List.take_add_one,List.getElem?_drop,hx];simp [hx]
theorem Zd5 (n : Nat) (o : Option Int) : ZR n n o <= n := by
 cases o with
 | none => exact Nat.le_refl _
 | some v =>
  show (if v < 0 then (v + (n : Int)).toNat else min v.toNat n) <= n
  split <;> omega
theorem ZeI (cs : List Nat) (lo hi : Option Int) : Txt.slice (tx cs) lo hi = tx (cutL cs lo hi) := by
 have hn : (tx cs).length = cs.length := Xr cs;have hb := Zd5 cs.length hi
 have hp : ((strSliceIndices lo hi 1 cs.length).filterMap fun j => cs[j]?) = cutL cs lo hi := by
  rw [Zfh];unfold cutL
  by_cases h : ZR cs.length 0 lo <= ZR cs.length cs.length hi
  · exact ZbW cs _ _ (by omega)
  · have e : ZR cs.length cs.length hi - ZR cs.length 0 lo = 0 := by omega
    rw [e];simp
 unfold Txt.slice;rw [hn]
 by_cases hc : ((1 : Int) == 1 && (strSliceIndices lo hi 1 cs.length).length == cs.length) = true
 · rw [if_pos hc]
   have hl : (strSliceIndices lo hi 1 cs.length).length = cs.length := by simpa using hc
   rw [Zfh,List.length_map,List.length_range] at hl;have e0 : ZR cs.length 0 lo = 0 \/ cs.length = 0 := by omega
   rw [tx_inj];unfold cutL;rw [hl];rcases e0 with e0 | e0
   · rw [e0]; simp
   · have : cs = [] := List.eq_nil_of_length_eq_zero e0
     subst this;simp
 · rw [if_neg hc]
   have : ((strSliceIndices lo hi 1 cs.length).filterMap fun j => (tx cs).cps[j]?) = cutL cs lo hi := by
    rw [<- hp];simp [tx]
   rw [this]
theorem cut_from {α : Type} (xs : List α) (k : Nat) : cutL xs (some (k : Int)) none = xs.drop k := by
 unfold cutL ZR;simp only [show ¬ ((k : Int) < 0) by omega,if_false,Int.toNat_natCast]
 by_cases h : k <= xs.length
 · rw [Nat.min_eq_left h,List.take_of_length_le (by simp)]
 · rw [Nat.min_eq_right (by omega),List.drop_eq_nil_of_le (Nat.le_refl _),List.drop_eq_nil_of_le (by omega)]
   simp
theorem cut_to {α : Type} (xs : List α) (k : Nat) : cutL xs none (some (k : Int)) = xs.take k := by
 unfold cutL ZR;simp only [show ¬ ((k : Int) < 0) by omega,if_false,Int.toNat_natCast,List.drop_zero,Nat.sub_zero]
 by_cases h : k <= xs.length
 · rw [Nat.min_eq_left h]
 · rw [Nat.min_eq_right (by omega),List.take_of_length_le (Nat.le_refl _),List.take_of_length_le (by omega)]
end L2
namespace L2
open PySem Builtin Builtin.Str
theorem ZcU (cs : List Nat) (c i : Nat) : StrLaws.At (tx cs) (tx [c]) (tx cs).length i ↔ cs[i]? = some c := by
 have := StrLaws.subAt_one (tx cs) c i;rw [Q6] at this;exact this
def Xh (c : Nat) (cs : List Nat) : Int := match cs.findIdx? (· == c) with
 | some i => (i : Int)
 | none => -1
theorem Zgd (cs : List Nat) (c : Nat) : Txt.find (tx cs) (tx [c]) = Xh c cs := by
 unfold Xh;rcases PyProof.Rows.find_whole (tx cs) (tx [c]) with ⟨e,h⟩ | ⟨i,e,h,hk⟩
 · rw [e]
   have hn : cs.findIdx? (· == c) = none := by
    rw [List.findIdx?_eq_none_iff];intro x hx;simp only [beq_eq_false_iff_ne]
    rintro rfl
    obtain ⟨j,hj⟩ := List.getElem?_of_mem hx;exact h j ((ZcU cs x j).mpr hj)
   rw [hn]
 · rw [e]
   have hi := (ZcU cs c i).mp h
   have hs : cs.findIdx? (· == c) = some i := by
    rw [List.findIdx?_eq_some_iff_getElem];have hl : i < cs.length := (List.getElem?_eq_some_iff.mp hi).1;refine ⟨hl,by simpa using (List.getElem?_eq_some_iff.mp hi).2,fun j hj => ?_⟩;have hjl : j < cs.length := by omega
    have := hk j hj;rw [ZcU,List.getElem?_eq_getElem hjl] at this;simpa using this
   rw [hs]
def Vi (sep : List Nat) : List (List Nat) -> List Nat
 | [] => []
 | [x] => x
 | x :: y :: r => x ++ sep ++ Vi sep (y :: r)
theorem Zbx (sep : List Nat) : ∀ l : List (List Nat),Str.join (tx sep) (l.map tx) = tx (Vi sep l)
 | [] => rfl
 | [x] => rfl
 | x :: y :: r => by
  show tx x ++ tx sep ++ Str.join (tx sep) ((y :: r).map tx) = _;rw [Zbx sep (y :: r),ZcT,ZcT];rfl
theorem Za8 : ∀ l : List (List Nat),Vi [] l = l.flatten
 | [] => rfl
 | [x] => by simp [Vi]
 | x :: y :: r => by
  show x ++ [] ++ Vi [] (y :: r) = _;rw [Za8 (y :: r)];simp
end L2
namespace L2
open PySem PySem.Spec PyProof.Rows
section
variable {prog : Program} {w : World} {A : Around} {R : Result -> Shared -> Prop} {s : Shared}
theorem Zbs {elt target iter : Expr} {ifs : List Expr} {scope : Scope} {pos : Pos} {it acc : Value} {env : Env} (I : Nat -> Shared -> Prop)
 (turn : ∀ n s,I n s -> wpAny (model prog w) A (pyNext it) (fun r s₁ => match r with
   | none => R (.ok .next) s₁
   | some v => wpAny (model prog w) A (letOwnedTupleGo target it v) (fun _ s₀ => wpAny (model prog w) A (assign target env v) (fun _ s₂ =>
    wpAny (model prog w) A (forIn ifs true fun c r => if r = true then do let ok <- isTrue c env (eval c env); pure (ForInStep.yield ok) else pure (ForInStep.yield r)) (fun ok s₃ =>
     if ok = true then wpAny (model prog w) A (eval elt env) (fun x s₄ =>
      wpAny (model prog w) A (call (.builtin "list.append") [acc,x]) (fun _ s₅ => ∃ m,m < n /\ I m s₅) (notedBy (model prog w) A env fun e s' => R (.error e) s') s₄) (notedBy (model prog w) A env fun e s' => R (.error e) s') s₃
     else ∃ m,m < n /\ I m s₃) (notedBy (model prog w) A env fun e s' => R (.error e) s') s₂) (notedBy (model prog w) A env fun e s' => R (.error e) s') s₀) (notedBy (model prog w) A env fun e s' => R (.error e) s') s₁) (notedBy (model prog w) A env fun e s' => R (.error e) s') s)
 (n : Nat) (h : I n s) :
 codeAny (model prog w) A (.compLoop (.ListComp elt [⟨target,iter,ifs,0⟩] scope pos) 0 it acc env) R s := by
 refine codeAny_loop rfl I (fun n s hI => ?_) n h;show wpAny _ A ((compTurn (.ListComp elt [⟨target,iter,ifs,0⟩] scope pos) 0 it acc env).onRaise (fun x => do noteFrame x env; theTreesLotGoes x)) _ _ s;refine wpAny_noted ?_;rw [compTurn_list];refine wpAny_bind (wpAny_standAt (wpAny_bind (wpAny_mono (turn n s hI) (fun r s₁ h₁ => ?_) fun _ _ h' => h')));cases r with
 | none => exact wpAny_pure h₁
 | some v =>
  refine wpAny_bind (wpAny_mono h₁ (fun _ s₀ h₀ => ?_) fun _ _ h' => h');refine wpAny_bind (wpAny_mono h₀ (fun _ s₂ h₂ => wpAny_bind (wpAny_mono h₂ (fun ok s₃ h₃ => ?_) fun _ _ h' => h')) fun _ _ h' => h');cases ok with
  | false => exact wpAny_pure ⟨rfl,h₃⟩
  | true =>
   exact wpAny_bind (wpAny_bind (wpAny_mono h₃ (fun x s₄ h₄ => wpAny_bind (wpAny_mono h₄ (fun _ s₅ h₅ => wpAny_pure (wpAny_pure ⟨rfl,h₅⟩)) fun _ _ h' => h')) fun _ _ h' => h'))
end
def YK (cells : List (Str × Addr)) : List (Str × NameKind) -> List (Str × Addr) -> List (Str × Addr)
 | [],acc => acc
 | (n,k) :: r,acc => YK cells r (if (k == .free) = true then (n,(cells.lookup n).getD 0) :: acc else acc)
theorem Zab {env : Env} : ∀ (names : List (Str × NameKind)) (acc : List (Str × Addr)),(∀ x ∈ names,x.2 = .free -> ∃ c,env.cells.lookup x.1 = some c) ->
 (forIn names acc fun (x : Str × NameKind) (r : List (Str × Addr)) => match x with
   | (name,kind) => if (kind == .free) = true then (do let c <- cellOf env name; pure (ForInStep.yield ((name,c) :: r))) else pure (ForInStep.yield r)) = (pure (YK env.cells names acc) : Sem _)
 | [],acc,_ => rfl
 | (n,k) :: r,acc,h => by
  rw [List.forIn_cons];show ((if (k == .free) = true then (do let c <- cellOf env n; pure (ForInStep.yield ((n,c) :: acc))) else pure (ForInStep.yield acc)) >>= _) = _
  by_cases hk : (k == .free) = true
  · obtain ⟨c,hc⟩ := h (n,k) List.mem_cons_self (by simpa using hk)
    have e : cellOf env n = pure c := by
     unfold cellOf;rw [hc]
    rw [if_pos hk,e];show (forIn r ((n,c) :: acc) _ : Sem _) = _;rw [Zab r _ fun x hx => h x (List.mem_cons_of_mem _ hx)]
    conv => rhs; unfold YK
    rw [if_pos hk,hc];rfl
  · rw [if_neg hk]
    show (forIn r acc _ : Sem _) = _;rw [Zab r _ fun x hx => h x (List.mem_cons_of_mem _ hx)]
    conv => rhs; unfold YK
    rw [if_neg hk]
theorem Zae {scope : Scope} {env : Env} (h : ∀ x ∈ scope.names,x.2 = .free -> ∃ c,env.cells.lookup x.1 = some c) : closureFor scope env = pure (YK env.cells scope.names []) := by
 have e := Zab (env:=env) scope.names [] h;unfold closureFor;show ((forIn scope.names ([] : List (Str × Addr)) _ : Sem _) >>= fun cs => pure cs) = _
 have e2 : (forIn scope.names ([] : List (Str × Addr)) fun (x : Str × NameKind) (r : List (Str × Addr)) => match x with
  | (name,kind) => if (kind == .free) = true then (do let c <- cellOf env name; pure (ForInStep.yield ((name,c) :: r))) else pure (ForInStep.yield r)) = (pure (YK env.cells scope.names []) : Sem _) := e
 rw [e2];rfl
theorem Vj {cells : List (Str × Addr)} {x : Str} {c : Addr} : ∀ (names : List (Str × NameKind)) (acc : List (Str × Addr)),(∀ y ∈ names,y.2 = .free -> ∃ c,cells.lookup y.1 = some c) ->
 (∀ c,acc.lookup x = some c -> cells.lookup x = some c) -> (YK cells names acc).lookup x = some c -> cells.lookup x = some c
 | [],acc,_,ha,h => ha c h
 | (n,k) :: r,acc,hf,ha,h => by
  unfold YK at h;refine Vj r _ (fun y hy => hf y (List.mem_cons_of_mem _ hy)) (fun c' h' => ?_) h
  by_cases hk : (k == .free) = true
  · rw [if_pos hk] at h'
    obtain ⟨c0,hc0⟩ := hf (n,k) List.mem_cons_self (by simpa using hk);rw [List.lookup_cons] at h';cases hx : x == n with
    | true =>
     rw [hx] at h';have e : x = n := eq_of_beq hx;subst e;have h'' : (cells.lookup x).getD 0 = c' := Option.some.inj h';have hc0' : cells.lookup x = some c0 := hc0;rw [hc0'] at h'' ⊢;exact congrArg some h''
    | false =>
     rw [hx] at h';exact ha c' h'
  · rw [if_neg hk] at h'
    exact ha c' h'
theorem Zan {cells : List (Str × Addr)} {x : Str} : ∀ (names : List (Str × NameKind)) (acc : List (Str × Addr)),((x,NameKind.free) ∈ names \/ ∃ c,acc.lookup x = some c) -> ∃ c,(YK cells names acc).lookup x = some c
 | [],acc,h => by
  rcases h with h | h
  · cases h
  · exact h
 | (n,k) :: r,acc,h => by
  unfold YK;refine Zan r _ ?_;rcases h with h | ⟨c,h⟩
  · rcases List.mem_cons.mp h with e | e
    · cases e
      refine .inr ⟨(cells.lookup x).getD 0,?_⟩;rw [if_pos (by rfl),List.lookup_cons];simp
    · exact .inl e
  · refine .inr ?_
    by_cases hk : (k == .free) = true
    · rw [if_pos hk,List.lookup_cons]
      cases hx : x == n with
      | true => exact ⟨_,rfl⟩
      | false => exact ⟨c,h⟩
    · rw [if_neg hk]
      exact ⟨c,h⟩
structure CompSc (X : Cx) (scope : Scope) (tn cn : List Str) (js : List Nat) : Prop where
 kind : scope.kind = .function
 nocell : ∀ y ∈ scope.names,y.2 ≠ .cell
 names : ∀ y ∈ scope.names,y.2 = .local -> scope.names.lookup y.1 = some .local
 free : ∀ y ∈ scope.names,y.2 = .free -> X.env.kindOf y.1 = some .cell \/ X.env.kindOf y.1 = some .free
 cap : ∀ (k : Nat) (x : Str),cn[k]? = some x -> ∃ j,js[k]? = some j /\ X.N[j]? = some x /\ (X.env.kindOf x = some .cell \/ X.env.kindOf x = some .free) /\ scope.names.lookup x = some .free
 len : cn.length = js.length
def Q7 (onames : List (Str × NameKind)) (oN : List Str) (names : List (Str × NameKind)) (cn : List Str) (js : List Nat) : Bool :=
 names.all (fun y => !(y.2 == .cell)) && names.all (fun y => !(y.2 == .local) || (names.lookup y.1 == some .local)) &&
 names.all (fun y => !(y.2 == .free) || (onames.lookup y.1 == some .cell || onames.lookup y.1 == some .free)) &&
 ((cn.zip js).all fun p => oN[p.2]? == some p.1 && (onames.lookup p.1 == some .cell || onames.lookup p.1 == some .free) && names.lookup p.1 == some .free) && (cn.length == js.length)
theorem CompSc.mk' {X : Cx} {scope : Scope} {tn cn : List Str} {js : List Nat} {osc : Scope} {oN : List Str} (hk : scope.kind = .function) (ho : X.env.scope = osc) (hN : X.N = oN) (h : Q7 osc.names oN scope.names cn js = true) : CompSc X scope tn cn js := by
 unfold Q7 at h;simp only [Bool.and_eq_true] at h;obtain ⟨⟨⟨⟨h1,h2⟩,h3⟩,h4⟩,h5⟩ := h;rw [List.all_eq_true] at h1 h2 h3 h4;have hlen : cn.length = js.length := by simpa using h5
 refine ⟨hk,fun y hy => ?_,fun y hy e => ?_,fun y hy e => ?_,fun k x e => ?_,hlen⟩
 · have := h1 y hy
   simpa using this
 · have := h2 y hy
   simpa [e] using this
 · have := h3 y hy
   unfold Env.kindOf;rw [ho];simpa [e] using this
 · have hkl : k < cn.length := (List.getElem?_eq_some_iff.mp e).1
   have hkj : k < js.length := by omega
   refine ⟨js[k],by simp [hkj],?_⟩
   have hz : (x,js[k]) ∈ cn.zip js := by
    have e2 : (cn.zip js)[k]? = some (x,js[k]) := by
     rw [List.getElem?_zip_eq_some];exact ⟨e,by simp [hkj]⟩
    exact List.mem_of_getElem? e2
   have := h4 _ hz;unfold Env.kindOf;rw [ho,hN];simp only [Bool.and_eq_true,Bool.or_eq_true,beq_iff_eq] at this;exact ⟨this.1.1,this.1.2,this.2⟩
def Qw (σ : St) (js : List Nat) : St := js.map fun j => (σ[j]?).getD none
def blk (n : Nat) (σ : St) (js : List Nat) : St := List.replicate n none ++ Qw σ js
def UO (X : Cx) (scope : Scope) (N' : List Str) (C : Addr) (s₂ : Shared) (H₂ : Hp) (fp : List Addr) (xe : Value -> Shared -> Prop) : Cx :=
 { X with N := N',s₀ := s₂,H₀ := H₂,env := compEnvC scope (YK X.env.cells scope.names []) C X.env,outer := X.stack,ex := fp,fn := fun _ => false,pn := [],xe := xe }
section
variable {X : Cx} {pins : List (Addr × Obj)} {σ : St} {H₂ : Hp} {s₂ : Shared} {scope : Scope} {tn cn : List Str} {js : List Nat}
theorem CompSc.clos (S : CompSc X scope tn cn js) (ok : X.Ok) : ∀ y ∈ scope.names,y.2 = .free -> ∃ c,X.env.cells.lookup y.1 = some c := fun y hy e => ok.has y.1 (S.free y hy e)
theorem Zaa {env : Env} : ∀ {names : List (Str × NameKind)} {x : Str} {k : NameKind},(names.map fun (n,k) => if (k == NameKind.free && env.scope.kind == .function && env.kindOf n == some .cell) then (n,NameKind.cell) else (n,k)).lookup x = some k ->
 (k = .cell \/ k = .free) -> (∀ y ∈ names,y.2 ≠ .cell) -> (x,NameKind.free) ∈ names
 | [],_,_,h,_,_ => by simp at h
 | (n,k0) :: r,x,k,h,hk,hc => by
  have ih := @Zaa env r x k;have h : List.lookup x ((if (k0 == NameKind.free && env.scope.kind == .function && env.kindOf n == some .cell) = true then (n,NameKind.cell) else (n,k0)) :: _) = _ := h
  by_cases hb : (k0 == NameKind.free && env.scope.kind == .function && env.kindOf n == some .cell) = true
  · rw [if_pos hb,List.lookup_cons] at h
    have e0 : k0 = .free := by
     simp only [Bool.and_eq_true] at hb;simpa using hb.1.1
    cases hx : x == n with
    | true =>
     have e : x = n := eq_of_beq hx;subst e; subst e0;exact List.mem_cons_self
    | false =>
     rw [hx] at h;exact List.mem_cons_of_mem _ (ih h hk fun y hy => hc y (List.mem_cons_of_mem _ hy))
  · rw [if_neg hb,List.lookup_cons] at h
    cases hx : x == n with
    | true =>
     rw [hx] at h;have e : x = n := eq_of_beq hx;have e0 : k0 = k := Option.some.inj h;subst e; subst e0;rcases hk with hk | hk
     · exact absurd hk (hc (x,k0) List.mem_cons_self)
     · subst hk
       exact List.mem_cons_self
    | false =>
     rw [hx] at h;exact List.mem_cons_of_mem _ (ih h hk fun y hy => hc y (List.mem_cons_of_mem _ hy))
theorem Zag {env : Env} : ∀ {names : List (Str × NameKind)} {x : Str},names.lookup x = some .free ->
 (names.map fun (n,k) => if (k == NameKind.free && env.scope.kind == .function && env.kindOf n == some .cell) then (n,NameKind.cell) else (n,k)).lookup x = some .cell \/
 (names.map fun (n,k) => if (k == NameKind.free && env.scope.kind == .function && env.kindOf n == some .cell) then (n,NameKind.cell) else (n,k)).lookup x = some .free
 | [],_,h => by simp at h
 | (n,k0) :: r,x,h => by
  have ih := @Zag env r x
  show List.lookup x ((if (k0 == NameKind.free && env.scope.kind == .function && env.kindOf n == some .cell) = true then (n,NameKind.cell) else (n,k0)) :: _) = _ \/
   List.lookup x ((if (k0 == NameKind.free && env.scope.kind == .function && env.kindOf n == some .cell) = true then (n,NameKind.cell) else (n,k0)) :: _) = _
  cases hx : x == n with
  | true =>
   simp only [List.lookup_cons,hx] at h;cases h
   by_cases hb : (NameKind.free == NameKind.free && env.scope.kind == .function && env.kindOf n == some .cell) = true
   · rw [if_pos hb]; simp [List.lookup_cons,hx]
   · rw [if_neg hb]; simp [List.lookup_cons,hx]
  | false =>
   simp only [List.lookup_cons,hx] at h
   by_cases hb : (k0 == NameKind.free && env.scope.kind == .function && env.kindOf n == some .cell) = true
   · rw [if_pos hb]; simp only [List.lookup_cons,hx]; exact ih h
   · rw [if_neg hb]; simp only [List.lookup_cons,hx]; exact ih h
theorem Zge {C : Addr} {fp : List Addr} {xe : Value -> Shared -> Prop} (S : CompSc X scope tn cn js) (I : Inv X pins σ H₂ s₂) (hC : s₂.heap.objs.size <= C) (hf : ∀ b ∈ fp,Xd X pins H₂ b) (ho : ∀ b ∈ fp,∃ o,s₂.heap.get? b = some o /\ ∀ v,o.data ≠ .cell v) :
 (UO X scope (tn ++ cn) C s₂ H₂ fp xe).Ok where
 mod := I.ok.mod
 kind := S.kind
 glob := I.ok.glob
 blt := I.ok.blt
 above := hC
 inj := fun x y c h1 h2 => I.ok.inj x y c (Vj _ [] (S.clos I.ok) (fun _ z => by cases z) h1) (Vj _ [] (S.clos I.ok) (fun _ z => by cases z) h2)
 has := fun x hx => by
  refine Zan _ _ (.inl ?_);rcases hx with hx | hx
  · exact Zaa (env:=X.env) (k:=.cell) hx (Or.inl (Eq.refl NameKind.cell)) S.nocell
  · exact Zaa (env:=X.env) (k:=.free) hx (Or.inr (Eq.refl NameKind.free)) S.nocell
 cab := fun x c h _ => by cases h
 hd := I.ok.hd
 frames := I.ok.frames
 stk := .inl rfl
 exf := fun b hb => by
  obtain ⟨o,e,_⟩ := ho b hb;obtain ⟨_,_,_,_,f4,_⟩ := hf b hb;exact ⟨Nat.ne_of_lt (Nat.lt_of_lt_of_le (Heap.lt_size e) hC),fun x c h => f4 x c (Vj _ [] (S.clos I.ok) (fun _ z => by cases z) h)⟩
 bs := I.bs
 bsz := Nat.le_trans I.ok.bsz I.sz
 noex := fun b o e hb => by
  obtain ⟨_,_,_,f3,_,_⟩ := hf b hb;rcases f3 with z | z
  · exact I.ok.noex b o e z
  · exact absurd (Nat.lt_of_lt_of_le (Heap.lt_size (I.ok.bs b o e).1) z) (Nat.lt_irrefl _)
 exfs := fun b hb z => by
  obtain ⟨_,f1,f2,_,_,_⟩ := hf b hb;exact (List.mem_cons.mp (I.stkSub b z)).elim f1 f2
 funs := I.stack
 frf := I.stkFree
theorem Za9 {C : Addr} {fp : List Addr} {s : Shared} {H : Hp} {m : Str -> Option Value} (S : CompSc X scope tn cn js) (I : Inv X pins σ H₂ s₂) (hf : ∀ b ∈ fp,Xd X pins H₂ b)
 (u : Un (frs X.stack) fp H₂ H s₂.heap s.heap) :
 ∀ (i : Nat) (x : Str) (v : V),(tn ++ cn)[i]? = some x -> (blk tn.length σ js)[i]? = some (some v) -> ∃ z,RelV v z /\ Zkp (compEnvC scope (YK X.env.cells scope.names []) C X.env) s.heap m x z := by
 intro i x v e1 e2;unfold blk at e2
 by_cases hi : i < tn.length
 · rw [List.getElem?_append_left (by simpa using hi),List.getElem?_replicate,if_pos hi] at e2
   cases e2
 · have hi' : tn.length <= i := by omega
   rw [List.getElem?_append_right hi'] at e1;rw [List.getElem?_append_right (by simpa using hi'),List.length_replicate] at e2;obtain ⟨j,hj,hN,hk,hm⟩ := S.cap _ _ e1;unfold Qw at e2;rw [List.getElem?_map,hj] at e2;have e3 : (σ[j]?).getD none = some v := Option.some.inj e2
   have e4 : σ[j]? = some (some v) := by
    cases q : σ[j]? with
    | none => rw [q] at e3; cases e3
    | some z => rw [q] at e3; exact congrArg some e3
   obtain ⟨m0,_,hl⟩ := I.loc
   have hv : Vis X.env.scope x := by
    rcases hk with hk | hk
    · exact .inr (.inl hk)
    · exact .inr (.inr hk)
   obtain ⟨z,rz,l⟩ := hl j x v hN e4 hv;refine ⟨z,rz,?_⟩
   obtain ⟨c,hc,ob,ho,hd⟩ : ∃ c,X.env.cells.lookup x = some c /\ s₂.heap.IsCell c (some z) := by
    rcases l with ⟨k,_⟩ | ⟨_,c,hc,q⟩
    · rcases hk with hk | hk
      · rw [hk] at k; cases k
      · rw [hk] at k; cases k
    · exact ⟨c,hc,q⟩
   obtain ⟨c',hc'⟩ := Zan (cells:=X.env.cells) (x:=x) scope.names [] (.inl (PySem.mem_of_lookup hm))
   have ec : c' = c := by
    have := Vj _ [] (S.clos I.ok) (fun _ z => by cases z) hc';rw [hc] at this;exact (Option.some.inj this).symm
   subst ec;have nf : c' ∉ fp := fun hb => (hf c' hb).2.2.2.2.1 x c' hc rfl
   obtain ⟨sl,q⟩ := u.any ho (I.freeC x c' hc) nf;exact .inr ⟨Zag hm,c',hc',⟨_,q,hd⟩⟩
theorem Zdh (S : CompSc X scope tn cn js) : (blk tn.length σ js).length = (tn ++ cn).length := by
 unfold blk Qw;rw [List.length_append,List.length_append,List.length_replicate,List.length_map,S.len]
theorem Zct {C : Addr} {fp : List Addr} {xe : Value -> Shared -> Prop} {s : Shared} {H : Hp} {σ' : St} {pins' : List (Addr × Obj)} (S : CompSc X scope tn cn js) (I : Inv X pins σ H₂ s₂) (hf : ∀ b ∈ fp,Xd X pins H₂ b)
 (I' : Inv (UO X scope (tn ++ cn) C s₂ H₂ fp xe) pins' σ' H s) : Inv (UO X scope (tn ++ cn) C s₂ H₂ fp xe) pins' (blk tn.length σ js) H s := by
 obtain ⟨m,hn,_⟩ := id I'.loc;exact ⟨I'.ok,I'.os,I'.bare,I'.base,⟨m,hn,fun i x v e1 e2 _ => Za9 S I hf I'.base i x v e1 e2⟩,I'.cell,I'.free,I'.freeC,I'.pin,I'.hok,Zdh S⟩
theorem Zcu {C D : Addr} {fp : List Addr} {xe : Value -> Shared -> Prop} {h : Heap} {tk : Nat} {ob : Obj} {m : Str -> Option Value} (S : CompSc X scope tn cn js) (I : Inv X pins σ H₂ s₂) (hC : s₂.heap.objs.size <= C) (hD : s₂.heap.objs.size <= D) (hDC : D ≠ C)
 (hf : ∀ b ∈ fp,Xd X pins H₂ b) (ho : ∀ b ∈ fp,∃ o,s₂.heap.get? b = some o /\ ∀ v,o.data ≠ .cell v) (k : ∀ b o,s₂.heap.get? b = some o -> h.get? b = some o) (hn : h.Ns C m) (hob : h.get? D = some ob) (hcell : ∀ v,ob.data ≠ .cell v) :
 Inv (UO X scope (tn ++ cn) C s₂ H₂ fp xe) [(D,ob)] (blk tn.length σ js) H₂ { s₂ with heap := h,toks := tk } := by
 have ok := Zge (xe:=xe) S I hC hf ho;have u : Un (frs X.stack) fp H₂ H₂ s₂.heap h := Un.kept k;refine ⟨ok,rfl,I.bare,u,⟨m,hn,fun i x v e1 e2 _ => Za9 (s:={ s₂ with heap := h,toks := tk }) S I hf u i x v e1 e2⟩,fun x c e => ?_,I.hok.fresh hC,fun x c e => ?_,fun p hp => ?_,I.hok.kept k,Zdh S⟩
 · obtain ⟨v,o,q,d⟩ := I.cell x c (Vj _ [] (S.clos I.ok) (fun _ z => by cases z) e)
   exact ⟨v,o,k c o q,d⟩
 · exact I.freeC x c (Vj _ [] (S.clos I.ok) (fun _ z => by cases z) e)
 · have e : p = (D, ob) := by
    have : p ∈ ([] : List (Addr × Obj)) ++ [(D,ob)] := hp;simpa using this
   subst e;refine ⟨hob,I.hok.fresh hD,hDC,fun z => ?_,hcell⟩;have z : D ∈ frs X.stack := z;rcases List.mem_cons.mp (I.stkSub D z) with e | e
   · exact absurd (Nat.lt_of_lt_of_le I.lt (by rw [<- e]; exact hD)) (Nat.lt_irrefl _)
   · exact I.nofs hD e
theorem ZbX {C D : Addr} {fp : List Addr} {xe : Value -> Shared -> Prop} {s : Shared} {H : Hp} {σ' : St} {ys : List V} {its : List Value} {n : Nat} {h' : Heap} (S : CompSc X scope tn cn js) (I : Inv X pins σ H₂ s₂) (hC : s₂.heap.objs.size <= C) (hD : s₂.heap.objs.size <= D) (hDC : D ≠ C)
 (hf : ∀ b ∈ fp,Xd X pins H₂ b) (I' : Inv (UO X scope (tn ++ cn) C s₂ H₂ fp xe) [(D,{ cls := .type "list",data := .seq its.toArray n })] σ' H s) (hv : Vals ys its) (hz : ys.length <= sizeLine) (hs : Heap.SameBut C s.heap h') :
 Inv X pins σ (upd H D (.lst ys)) { s with heap := h' } := by
 have pd := I'.pin (D,{ cls := .type "list",data := .seq its.toArray n }) (List.mem_append_right _ List.mem_cons_self);have pd1 : s.heap.get? D = some { cls := .type "list",data := .seq its.toArray n } := pd.1;have pd2 : H D = none := pd.2.1;have hD' : h'.get? D = some { cls := .type "list",data := .seq its.toArray n } := (hs.2 D hDC).trans pd1;have hCf : H C = none := I'.free;have old : ∀ b o,s₂.heap.get? b = some o -> b ≠ C /\ b ≠ D := fun b o e => ⟨Nat.ne_of_lt (Nat.lt_of_lt_of_le (Heap.lt_size e) hC),Nat.ne_of_lt (Nat.lt_of_lt_of_le (Heap.lt_size e) hD)⟩
 have u := I'.base;have u : Un (frs X.stack) fp H₂ H s₂.heap s.heap := u;refine I.call' (s' := { s with heap := h' }) (ch:=fp) (H' := upd H D (.lst ys)) I'.os ⟨fun b o e n hb hx => ?_,fun b o e n hb hx => ?_,fun b o e n hx => ?_,fun b o e hx => ?_,fun b xs e => ?_,fun b o xs e => ?_,fun b ps e => ?_⟩ (fun b o e => ?_) I'.bare (fun b hb => ?_)
 · exact (hs.2 b (old b o e).1).trans (u.keep b o e n hb hx)
 · obtain ⟨sl,q⟩ := u.slot b o e n hb hx
   exact ⟨sl,(hs.2 b (old b o e).1).trans q⟩
 · rw [Zt (old b o e).2]
   exact u.free b o e n hx
 · obtain ⟨o',q⟩ := u.there b o e hx
   exact ⟨o',(hs.2 b (old b o e).1).trans q⟩
 · have q := u.tups b xs e
   rw [Zt (Yn q pd2)];exact q
 · have q := u.frzs b o xs e
   rw [Zt (Yn q pd2)];exact q
 · obtain ⟨more,q⟩ := u.tbls b ps e
   exact ⟨more,by rw [Zt (Yn q pd2)]; exact q⟩
 · by_cases hb : b = D
   · subst hb
     rw [ZM] at e;cases e;exact ⟨hz,its,n,hv,hD'⟩
   · rw [Zt hb] at e
     refine (I'.hok b o e).stay (fun c v hc q => (hs.2 c ?_).trans q) (fun c q => by rw [Zt (Yn q pd2)]; exact q) fun c xs q => by rw [Zt (Yn q pd2)]; exact q
     rintro rfl
     rcases hc with rfl | hc
     · rw [hCf] at e; cases e
     · rw [hCf] at hc; cases hc
 · obtain ⟨f0,f1,f2,f3,f4,f5⟩ := hf b hb
   exact ⟨f3,f1,f4,f5⟩
end
def PTs (X : Cx) (ifs : List Expr) (t : TT) : Prop :=
 ∀ (pins : List (Addr × Obj)) (s : Shared) (σ : St) (H : Hp) (Q : Bool -> Hp -> Prop),Inv X pins σ H s -> t σ H Q ->
  wpAny (model X.prog X.w) X.A (forIn ifs true fun c r => if r = true then do let ok <- isTrue c X.env (eval c X.env); pure (ForInStep.yield ok) else pure (ForInStep.yield r)) (TP X pins σ Q) X.xe s
def tYes : TT := fun _ H Q => Q true H
theorem Qx {X : Cx} : PTs X [] tYes := fun _ _ _ H _ I h => wpAny_tests_nil ⟨H,I,h⟩
theorem Ul {X : Cx} {c : Expr} {t : TT} (h : PT X c t) : PTs X [c] t := fun pins s σ H Q I q => wpAny_tests_one (h pins s σ H Q I q)
def ZfP (wi : TI) (g : TG) (tt : TT) (te : TE) (n : Nat) (js : List Nat) : TE := fun σ H Q => wi σ H fun J H1 =>
 ∃ W : Nat -> Nat -> List V -> Hp -> Prop,(∃ m,W 0 m [] H1) /\ ∀ i m ys H,W i m ys H ->
  (J.stop i H /\ ∀ p,H p = none -> Q (.ref p) (upd H p (.lst ys))) \/
  (J.go i H /\ ∀ x H',J.yld i H x H' -> g x (blk n σ js) H' fun σ2 H2 => tt σ2 H2 fun b H3 =>
    if b = true then te σ2 H3 fun y H4 => ys.length < sizeLine /\ ∃ m',m' < m /\ W (i + 1) m' (ys ++ [y]) H4 else ∃ m',m' < m /\ W (i + 1) m' ys H3)
section
variable {X : Cx} {tg iter elt : Expr} {ifs : List Expr} {scope : Scope} {pos : Pos} {wi : TI} {g : TG} {tt : TT} {te : TE} {tn cn : List Str} {js : List Nat}
abbrev Xi (X : Cx) (scope : Scope) (N' : List Str) (C : Addr) (s₂ : Shared) (H₂ : Hp) (fp : List Addr) : Cx := UO X scope N' C s₂ H₂ fp fun _ _ => False
theorem UP {α : Type} {M : Model} {A : Around} {m : Sem α} {Q : α -> Shared -> Prop} {E : Value -> Shared -> Prop} {s : Shared} (h : wpAny M A m Q (fun _ _ => False) s) : wpAny M A m Q E s := wpAny_mono h (fun _ _ q => q) fun _ _ z => z.elim
theorem ZaC {pins : List (Addr × Obj)} {σ : St} {H₂ : Hp} {s₂ : Shared} {it : Addr} {fp : List Addr} {tnx : Nat -> Heap -> Prop} {J : It} {E : Value -> Shared -> Prop} {RR : Value -> Addr -> Result -> Shared -> Prop} {W : Nat -> Nat -> List V -> Hp -> Prop} {m0 : Nat}
 (hc : X.calm = true) (S : CompSc X scope tn cn js)
 (hg : ∀ C s₂ H₂ fp,PG (Xi X scope (tn ++ cn) C s₂ H₂ fp) tg g) (ht : ∀ C s₂ H₂ fp,PTs (Xi X scope (tn ++ cn) C s₂ H₂ fp) ifs tt) (he : ∀ C s₂ H₂ fp,PE (Xi X scope (tn ++ cn) C s₂ H₂ fp) elt te)
 (I2 : Inv X pins σ H₂ s₂) (T : Turn X.prog X.w X.K tg J fp it tnx) (st2 : tnx 0 s₂.heap) (f2 : ∀ b ∈ fp,Xd X pins H₂ b) (w0 : W 0 m0 [] H₂)
 (turn : ∀ i m ys H,W i m ys H -> (J.stop i H /\ ∀ C D s its n σ',s₂.heap.objs.size <= C -> s₂.heap.objs.size <= D -> D ≠ C -> Vals ys its -> ys.length <= sizeLine ->
   Inv (Xi X scope (tn ++ cn) C s₂ H₂ fp) [(D,{ cls := .type "list",data := .seq its.toArray n })] σ' H s -> RR (.ref D) C (.ok .next) s) \/
   (J.go i H /\ ∀ x H',J.yld i H x H' -> g x (blk tn.length σ js) H' fun σ2 H2 => tt σ2 H2 fun b H3 =>
     if b = true then te σ2 H3 fun y H4 => ys.length < sizeLine /\ ∃ m',m' < m /\ W (i + 1) m' (ys ++ [y]) H4 else ∃ m',m' < m /\ W (i + 1) m' ys H3)) :
 wpAny (model X.prog X.w) X.A (newList []) (fun acc s₃ => wpAny (model X.prog X.w) X.A (newFunctionEnv scope X.env.globals (YK X.env.cells scope.names []) [] X.env.qual none .none (some X.env)) (fun cenv s₄ =>
  codeAny (model X.prog X.w) X.A (.compStart (.ListComp elt [⟨tg,iter,ifs,0⟩] scope pos) 0 (.ref it) acc { cenv with scope := relabel scope X.env }) (RR acc cenv.locals) s₄) E s₃) E s₂ := by
 refine wpAny_newObj_type (wpAny_newFunctionEnv S.nocell (by intro y hy; simp at hy) (fun h₁ hns₁ hsb₁ => ?_) S.kind);dsimp only at hns₁ hsb₁ ⊢;generalize hH2 : s₂.heap.push { cls := .type "list",dict := none,data := .seq ([] : List Value).toArray } = HH at hns₁ hsb₁ ⊢;have hCs : HH.objs.size = s₂.heap.objs.size + 1 := by rw [<- hH2,Heap.size_push]
 have hDC : s₂.heap.objs.size ≠ HH.objs.size := by rw [hCs]; exact Nat.ne_of_lt (Nat.lt_succ_self _)
 have hC : s₂.heap.objs.size <= HH.objs.size := by rw [hCs]; exact Nat.le_succ _
 have hD : s₂.heap.objs.size <= s₂.heap.objs.size := Nat.le_refl _;have old : ∀ b o,s₂.heap.get? b = some o -> h₁.get? b = some o := fun b o e => hsb₁.extBut b o (by rw [hCs]; exact Nat.ne_of_lt (Nat.lt_succ_of_lt (Heap.lt_size e))) (Heap.get?_push_of_some _ (hH2 ▸ Heap.get?_push_of_some _ e))
 have hacc : h₁.get? s₂.heap.objs.size = some { cls := .type "list",dict := none,data := .seq ([] : List Value).toArray } := hsb₁.extBut _ _ hDC (Heap.get?_push_of_some _ (hH2 ▸ Heap.get?_push_size _ rfl));have hob := T.obj _ _ st2
 have I3 : Inv (Xi X scope (tn ++ cn) HH.objs.size s₂ H₂ fp) [(s₂.heap.objs.size,{ cls := .type "list",dict := none,data := .seq ([] : List Value).toArray })] (blk tn.length σ js) H₂ { s₂ with heap := h₁,toks := s₂.toks + ([] : List (Str × Value)).length } :=
  Zcu S I2 hC hD hDC f2 hob old hns₁ hacc (fun v z => by cases z)
 have st3 : tnx 0 h₁ := T.keep _ _ _ st2 fun b hb o e => old b o e
 generalize hX' : Xi X scope (tn ++ cn) HH.objs.size s₂ H₂ fp = X' at I3;generalize hs3 : ({ s₂ with heap := h₁,toks := s₂.toks + ([] : List (Str × Value)).length } : Shared) = s3 at I3 ⊢;have st3' : tnx 0 s3.heap := by rw [<- hs3]; exact st3
 have stat : ∀ {pins' : List (Addr × Obj)} {H' : Hp},(∀ b ∈ fp,H' b = none) -> (∀ p ∈ pins',p.1 = s₂.heap.objs.size) -> ∀ b ∈ fp,Xd X' pins' H' b := fun {pins' H'} hn hp b hb => by
  subst hX';obtain ⟨o,e,_⟩ := hob b hb;obtain ⟨f0,f1,f2',f3,f4,f5⟩ := f2 b hb;refine ⟨hn b hb,Nat.ne_of_lt (Nat.lt_of_lt_of_le (Heap.lt_size e) hC),fun z => (List.mem_cons.mp (I2.stkSub b z)).elim f1 f2',.inl hb,fun x c h => f4 x c (Vj _ [] (S.clos I2.ok) (fun _ z => by cases z) h),fun p hpp => ?_⟩
  have : p ∈ pins' := by
   have q : p ∈ ([] : List (Addr × Obj)) ++ pins' := hpp;simpa using q
  rw [hp p this];exact Nat.ne_of_gt (Heap.lt_size e)
 have loop : codeAny (model X.prog X.w) X.A (.compLoop (.ListComp elt [⟨tg,iter,ifs,0⟩] scope pos) 0 (.ref it) (.ref s₂.heap.objs.size) X'.env) (RR (.ref s₂.heap.objs.size) HH.objs.size) s3 := by
  refine Zbs (fun k s' => ∃ i ys its n H',Inv X' [(s₂.heap.objs.size,{ cls := .type "list",data := .seq its n })] (blk tn.length σ js) H' s' /\ Vals ys its.toList /\ ys.length <= sizeLine /\ tnx i s'.heap /\ (∀ b ∈ fp,H' b = none) /\ W i k ys H') ?_ m0
   ⟨0,[],#[],0,H₂,I3,.nil,Nat.zero_le _,st3',fun b hb => (f2 b hb).1,w0⟩
  rintro k s4 ⟨i,ys,its,n,H4,I4,hv4,hz4,st4,fr4,w4⟩
  have eP : X'.prog = X.prog := by rw [<- hX']; rfl
  have eW : X'.w = X.w := by rw [<- hX']; rfl
  have eK : X'.K = X.K := by rw [<- hX']; rfl
  have eA : X'.A = X.A := by rw [<- hX']; rfl
  have eC : X'.calm = true := by rw [<- hX']; exact hc
  have eE : X'.xe = fun _ _ => False := by rw [<- hX']; rfl
  rcases turn i k ys H4 w4 with ⟨stop,qn⟩ | ⟨go,step⟩
  · have z := T.done X' eP eW eK eC i _ s4 (blk tn.length σ js) H4 (fun _ _ => False) I4 (stat fr4 (fun p hp => by simp at hp; rw [hp])) st4 stop
    rw [eA] at z;refine UP (thn z fun r s5 ⟨hr,I5⟩ => ?_);subst hr;subst hX';exact qn _ _ s5 its.toList n _ hC hD hDC hv4 hz4 (by simpa using I5)
  · have z := T.item X' eP eW eK eC i _ s4 (blk tn.length σ js) H4 (fun _ _ => False) I4 (stat fr4 (fun p hp => by simp at hp; rw [hp])) st4 go
    rw [eA] at z;refine UP (thn z fun r s5 ⟨u,hr,h5⟩ => ?_);subst hr;refine UP (thn h5 fun _ s6 ⟨x,H6,I6,r6,y6,st6,fr6⟩ => ?_);have I6' := I6.pinned (stat fr6 (fun p hp => by simp at hp; rw [hp])) (T.obj _ _ st6);have hg' : PG X' tg g := by rw [<- hX']; exact hg _ _ _ _
    have ht' : PTs X' ifs tt := by rw [<- hX']; exact ht _ _ _ _
    have he' : PE X' elt te := by rw [<- hX']; exact he _ _ _ _
    have z7 := hg' _ s6 _ H6 x u _ I6' r6 (step x H6 y6);rw [eP,eW,eA,eE] at z7;refine UP (thn z7 fun _ s7 ⟨σ7,H7,I7,q7⟩ => ?_);have z8 := ht' _ s7 σ7 H7 _ I7 q7;rw [eP,eW,eA,eE] at z8;refine UP (thn z8 fun ok s8 ⟨H8,I8,q8⟩ => ?_)
    have key : ∀ {σ9 : St} {H9 : Hp} {s9 : Shared} {its' : Array Value} {n' : Nat},Inv X' ([(s₂.heap.objs.size,{ cls := .type "list",data := .seq its' n' })] ++ XU fp s6.heap) σ9 H9 s9 ->
     Inv X' [(s₂.heap.objs.size,{ cls := .type "list",data := .seq its' n' })] (blk tn.length σ js) H9 s9 /\ tnx (i + 1) s9.heap /\ ∀ b ∈ fp,H9 b = none := fun {σ9 H9 s9 its' n'} I9 => by
     refine ⟨?_,T.keep _ _ _ st6 fun b hb o e => (I9.pin (b,o) (List.mem_append_right _ (List.mem_append_right _ (Q1 hb e)))).1,fun b hb => ?_⟩
     · have I9' := I9.unpinned
       subst hX';exact Zct S I2 f2 I9'
     · obtain ⟨o,e,d⟩ := T.obj _ _ st6 b hb
       exact (I9.pin (b,o) (List.mem_append_right _ (List.mem_append_right _ (Q1 hb e)))).2.1
    cases ok with
    | false =>
     rw [if_neg Bool.false_ne_true] at q8 ⊢;obtain ⟨m',hm,w8⟩ := q8;obtain ⟨I9,st9,fr9⟩ := key I8;exact ⟨m',hm,i + 1,ys,its,n,H8,I9,hv4,hz4,st9,fr9,w8⟩
    | true =>
     rw [if_pos rfl] at q8 ⊢;have z9 := he' _ s8 σ7 H8 _ I8 q8;rw [eP,eW,eA,eE] at z9;refine UP (thn z9 fun v s9 ⟨y,H9,I9,r9,hl9,m',hm,w9⟩ => ?_);have pd := I9.pin (s₂.heap.objs.size,{ cls := .type "list",data := .seq its n }) (List.mem_append_right _ (List.mem_append_left _ List.mem_cons_self));have hpl : s9.heap.PlainList s₂.heap.objs.size its := ⟨n,pd.1⟩
     have hlen : its.size = ys.length := by rw [hv4.length]; simp
     refine wpAny_list_append_plain (hsz:=by omega) hpl fun h10 hl10 hs10 => ?_
     obtain ⟨n10,e10⟩ := hl10;have I10 : Inv X' (XU fp s6.heap) σ7 H9 s9 := I9.pins_of fun p hp => I9.pin p (List.mem_append_right _ (List.mem_append_right _ hp))
     have nD : ∀ b ∈ fp,b ≠ s₂.heap.objs.size := fun b hb => by
      obtain ⟨o,e,_⟩ := hob b hb;exact Nat.ne_of_lt (Heap.lt_size e)
     have I11 : Inv X' (XU fp s6.heap) σ7 H9 { s9 with heap := h10 } := by
      refine I10.turned (t' := s9.toks) (it:=s₂.heap.objs.size) (fun b o hb e => (hs10.2 b hb).trans e) pd.2.1 pd.2.2.1 ?_ ?_ ?_
      · subst hX'; exact .inr (Nat.le_refl _)
      · subst hX'
        intro x c h;obtain ⟨v',o',q,_⟩ := I2.cell x c (Vj _ [] (S.clos I2.ok) (fun _ z => by cases z) h);exact Nat.ne_of_lt (Heap.lt_size q)
      · intro p hp
        have hp' : p ∈ XU fp s6.heap := by
         subst hX';have q : p ∈ ([] : List (Addr × Obj)) ++ XU fp s6.heap := hp;simpa using q
        exact nD _ (Za0 hp').1
     have I12 : Inv X' ([(s₂.heap.objs.size,{ cls := .type "list",data := .seq (its.push v) n10 })] ++ XU fp s6.heap) σ7 H9 { s9 with heap := h10 } := I11.pins_of fun p hp => by
      rcases List.mem_append.mp hp with q | q
      · have e : p = (s₂.heap.objs.size,{ cls := .type "list",data := .seq (its.push v) n10 }) := by simpa using q
        subst e;exact ⟨e10,pd.2.1,pd.2.2.1,pd.2.2.2.1,fun v z => by cases z⟩
      · exact I11.pin p (List.mem_append_right _ q)
     obtain ⟨J1,J2,J3⟩ := key I12;refine ⟨m',hm,i + 1,ys ++ [y],its.push v,n10,H9,J1,?_,?_,J2,J3,w9⟩
     · have : (its.push v).toList = its.toList ++ [v] := by simp
       rw [this];exact hv4.append (.cons r9 .nil)
     · rw [List.length_append,List.length_singleton]
       omega
 have eEnv : ({ newEnv scope HH.objs.size X.env.globals (YK X.env.cells scope.names []) X.env.qual none .none (some X.env) builtinsNs with scope := relabel scope X.env } : Env) = X'.env := by rw [<- hX']; rfl
 have loop2 := loop;rw [<- eEnv] at loop loop2;exact codeAny_compStart_list loop (T.self X.A 0 s3 _ _ st3' loop2)
theorem VZ (hc : X.calm = true) (S : CompSc X scope tn cn js) (hi : PI X tg iter wi)
 (hg : ∀ C s₂ H₂ fp,PG (Xi X scope (tn ++ cn) C s₂ H₂ fp) tg g) (ht : ∀ C s₂ H₂ fp,PTs (Xi X scope (tn ++ cn) C s₂ H₂ fp) ifs tt) (he : ∀ C s₂ H₂ fp,PE (Xi X scope (tn ++ cn) C s₂ H₂ fp) elt te)
 (hs : ∀ x,foldedSetIterable iter X.env x = pure x := by intro _; rfl) :
 PE X (.ListComp elt [⟨tg,iter,ifs,0⟩] scope pos) (ZfP wi g tt te tn.length js) := by
 intro pins s σ H Q I h;rw [eval_ListComp];refine wpAny_comprehension_free (use:=none) (cl:=YK X.env.cells scope.names []) rfl hs (Zae (S.clos I.ok)) S.kind S.names (thn (hi pins s σ H _ I h) fun v s1 h1 => thn h1 fun itv s2 h2 => ?_);obtain ⟨it,fp,tnx,J,H2,e,I2,T,st2,f2,W,⟨m0,w0⟩,turn⟩ := h2;subst e;refine ZaC (RR:=fun acc C => compPost (model X.prog X.w) X.A X.xe none (EP X pins σ Q) acc C) (W:=W) (m0:=m0) hc S hg ht he I2 T st2 f2 w0 fun i m ys H w => ?_
 rcases turn i m ys H w with ⟨stop,qn⟩ | r
 · refine .inl ⟨stop,fun C D s its n σ' hC hD hDC hv hz I' => ?_⟩
   obtain ⟨m',hn,_⟩ := id I'.loc;refine ⟨m',hn,fun h' hs' => ?_⟩;have pd := I'.pin (D,{ cls := .type "list",data := .seq its.toArray n }) (List.mem_append_right _ List.mem_cons_self);exact ⟨.ref D,_,ZbX S I2 hC hD hDC f2 I' hv hz hs',rfl,qn D pd.2.1⟩
 · exact .inr r
end
end L2
namespace L2
open PySem PySem.Spec PyProof.Rows
abbrev S (cs : List Nat) : V := .str (tx cs)
theorem Zi6 {a b : List Nat} : S a = S b ↔ a = b := by
 constructor
 · intro h
   exact tx_inj.mp (V.str.inj h)
 · rintro rfl; rfl
section
variable {X : Cx} {pos : Pos}
theorem V0 {x : Str} {j : Nat} (cs : List Nat) (h : x = tx cs) : PE X (.Constant (.str x) j pos) (tC (S cs)) := by
 subst h;exact ZhJ
def Its (cs : List Nat) : It := ⟨fun i _ => i < cs.length,fun i H v H' => H' = H /\ ∃ c,cs[i]? = some c /\ v = S [c],fun i _ => cs.length <= i⟩
theorem UQ (x : Str) : strIterType x = "str_ascii_iterator" \/ strIterType x = "str_iterator" := by
 unfold strIterType
 split
 · exact .inl rfl
 · exact .inr rfl
theorem ZeJ {P : Program} {w : World} {K : PySem.W.Frag} {tg : Expr} (it : Addr) (cs : List Nat) (t : Tok) : Turn P w K tg (Its cs) [it] it (fun i h => h.IsStrIter it (strIterType (tx cs)) (tx cs) t i) where
 mem := by simp
 obj := fun i h st b hb => by
  have e : b = it := by simpa using hb
  subst e;obtain ⟨o,e,c,d⟩ := st;exact ⟨o,e,fun v z => by rw [d] at z; cases z⟩
 keep := fun i h h' st k => by
  obtain ⟨o,e,r⟩ := st;exact ⟨o,k it (by simp) o e,r⟩
 item := by
  intro X hP hw hK hc i pins s σ H E I hf st hg;subst hP hw hK;obtain ⟨f0,f1,f2,f3,f4,f5⟩ := hf it (by simp);have hg : i < cs.length := hg;have hx : (tx cs).cps[i]? = some cs[i] := by simp [tx,hg]
  have fin : ∀ (h' : Heap),h'.IsStrIter it (strIterType (tx cs)) (tx cs) t (i + 1) -> Heap.SameBut it s.heap h' ->
   ∃ u,some (Value.str ⟨#[cs[i]]⟩ s.toks) = some u /\ wpAny (model X.prog X.w) X.A (letOwnedTupleGo tg (.ref it) u) (fun _ s2 => ∃ x H',Inv X pins σ H' s2 /\ RelV x u /\ (Its cs).yld i H x H' /\ s2.heap.IsStrIter it (strIterType (tx cs)) (tx cs) t (i + 1) /\ ∀ b ∈ [it],H' b = none) E { s with heap := h',toks := s.toks + 1 } := fun h' st' sb => by
   have I1 : Inv X pins σ H { s with heap := h',toks := s.toks + 1 } := I.turned (fun b o hb e => (sb.2 b hb).trans e) f0 f1 f3 f4 f5;obtain ⟨o,e,hc',d⟩ := id st';refine ⟨_,rfl,Qo (s:={ s with heap := h',toks := s.toks + 1 }) e hc' d ?_ ⟨S [cs[i]],H,I1,⟨s.toks,rfl⟩,⟨rfl,cs[i],by simp [hg],rfl⟩,st',fun b hb => (hf b hb).1⟩⟩;rcases UQ (tx cs) with z | z <;> rw [z] <;> decide
  rcases UQ (tx cs) with z | z
  · rw [z] at st
    refine wpAny_pyNext_ascii_item st hx fun h' st' sb => fin h' (by rw [z]; exact st') sb
  · rw [z] at st
    refine wpAny_pyNext_wide_item st hx fun h' st' sb => fin h' (by rw [z]; exact st') sb
 done := by
  intro X hP hw hK hc i pins s σ H E I hf st hg;subst hP hw hK;obtain ⟨f0,f1,f2,f3,f4,f5⟩ := hf it (by simp);have hg : cs.length <= i := hg;have hx : (tx cs).cps[i]? = none := by simp [tx]; omega
  rcases UQ (tx cs) with z | z
  · rw [z] at st
    exact wpAny_pyNext_ascii_end (I.ok.hd hc) st hx fun h' eb => ⟨rfl,I.turned (t' := s.toks) (fun b o hb e => eb b o hb e) f0 f1 f3 f4 f5⟩
  · rw [z] at st
    exact wpAny_pyNext_wide_end (I.ok.hd hc) st hx fun h' eb => ⟨rfl,I.turned (t' := s.toks) (fun b o hb e => eb b o hb e) f0 f1 f3 f4 f5⟩
 self := fun _ i _ _ _ st h => by
  rcases UQ (tx cs) with z | z
  · rw [z] at st
    exact wpAny_pyIter_striter_ascii st h
  · rw [z] at st
    exact wpAny_pyIter_striter_wide st h
variable {tg : Expr}
def ZiG (K : PySem.W.Frag) (tl : TE) : TI := fun σ H R => tl σ H fun x H1 => (∃ a xs,x = .ref a /\ SqL K H1 a xs /\ R (Itl K a) H1) \/ (∃ a xs,x = .ref a /\ SqT K H1 a xs /\ R (Itt K a) H1) \/ ∃ cs,x = S cs /\ R (Its cs) H1
theorem ZhX {l : Expr} {tl : TE} (hl : PE X l tl) : PI X tg l (ZiG X.K tl) := by
 intro pins s σ H R I h;refine thn (hl pins s σ H _ I h) fun v s1 ⟨x,H1,I1,r1,q1⟩ => ?_
 rcases q1 with ⟨a,xs,e,hq,q⟩ | ⟨a,xs,e,hq,q⟩ | ⟨cs,e,q⟩
 · subst e
   cases r1;obtain ⟨its,rv,p,hz⟩ := I1.list hq;refine wpAny_pyIter_list p.isList ?_;refine ⟨s1.heap.objs.size,[s1.heap.objs.size],_,_,H1,rfl,I1.kept (t' := s1.toks) fun b o e => Heap.get?_push_of_some _ e,ZdY a _,⟨_,Heap.get?_push_size _ rfl,rfl,rfl⟩,fun b hb => ?_,q⟩;have e : b = s1.heap.objs.size := by simpa using hb
   subst e;exact I1.fpOk (Nat.le_refl _) (I1.hok.fresh (Nat.le_refl _))
 · have hpi := ZhO (X:=X) (tg:=tg) (l:=l) (tl:=fun _ H Q => Q (.ref a) H)
   subst e;cases r1;obtain ⟨its,rv,p,hz⟩ := I1.tuple hq;refine wpAny_pyIter_tuple (show s1.heap.IsTuple a its.toArray from p) ?_;refine ⟨s1.heap.objs.size,[s1.heap.objs.size],_,_,H1,rfl,I1.kept (t' := s1.toks) fun b o e => Heap.get?_push_of_some _ e,Zaz a _,⟨_,Heap.get?_push_size _ rfl,rfl,rfl⟩,fun b hb => ?_,q⟩;have e : b = s1.heap.objs.size := by simpa using hb
   subst e;exact I1.fpOk (Nat.le_refl _) (I1.hok.fresh (Nat.le_refl _))
 · subst e
   obtain ⟨t,rfl⟩ := r1;refine wpAny_pyIter_strU ?_;refine ⟨s1.heap.objs.size,[s1.heap.objs.size],_,_,H1,rfl,I1.kept (t' := s1.toks) fun b o e => Heap.get?_push_of_some _ e,ZeJ _ cs t,⟨_,Heap.get?_push_size _ rfl,rfl,rfl⟩,fun b hb => ?_,q⟩;have e : b = s1.heap.objs.size := by simpa using hb
   subst e;exact I1.fpOk (Nat.le_refl _) (I1.hok.fresh (Nat.le_refl _))
def rAddS : R2 := fun x y H Q => ∃ a b,x = S a /\ y = S b /\ a.length + b.length <= sizeLine /\ Q (S (a ++ b)) H
theorem op_addS : OpR X (binaryOp .Add) rAddS := by
 intro pins s σ H x y v u Q I rx ry h;obtain ⟨a,b,rfl,rfl,hz,q⟩ := h;refine Zcl pins s σ H _ _ v u Q I rx ry ⟨tx a,tx b,rfl,rfl,by rw [Xr,Xr]; exact hz,?_⟩;rw [ZcT];exact q
def Zi7 : R2 := fun x y H Q => rI0 (fun i j => .int (i + j)) x y H Q \/ rAddS x y H Q \/ ZkN x y H Q
def ZiH (neg : Bool) : R2 := fun x y H Q => ∃ c b,x = S [c] /\ y = S b /\ Q (.bl (neg != decide (c ∈ b))) H
theorem op_inS : OpR X (compareOp .In) (ZiH false) := by
 intro pins s σ H x y v u Q I rx ry h;obtain ⟨c,b,rfl,rfl,q⟩ := h;refine ZdZ pins s σ H _ _ v u Q I rx ry ⟨tx [c],tx b,rfl,rfl,?_⟩;have e := StrLaws.found_one (tx b) c;rw [Q6] at e;rw [show tx [c] = (⟨#[c]⟩ : Str) from rfl,e];simpa using q
theorem op_notInS : OpR X (compareOp .NotIn) (ZiH true) := by
 intro pins s σ H x y v u Q I rx ry h;obtain ⟨c,b,rfl,rfl,q⟩ := h;refine Zbn pins s σ H _ _ v u Q I rx ry ⟨tx [c],tx b,rfl,rfl,?_⟩;have e := StrLaws.found_one (tx b) c;rw [Q6] at e;rw [show tx [c] = (⟨#[c]⟩ : Str) from rfl,e];simpa using q
def UR (K : PySem.W.Frag) (neg : Bool) : R2 := fun x y H Q => ZiH neg x y H Q \/ rIn K neg x y H Q
theorem ZhY : OpR X (compareOp .In) (UR X.K false) := op_inS.or Zd2
theorem Zd6 : OpR X (compareOp .NotIn) (UR X.K true) := op_notInS.or Zbp
def rIxSt : R2 := fun x y H Q => ∃ a i c,x = S a /\ y = .int i /\ a.length <= sizeLine /\ atI a i = some c /\ Q (S [c]) H
theorem ZkP : IxR X rIxSt := by
 intro value slice pins s σ H x y v u Q I rx ry h hs;obtain ⟨a,i,c,rfl,rfl,hz,he,q⟩ := h;exact ix_str value slice pins s σ H _ _ v u Q I rx ry ⟨tx a,i,c,rfl,rfl,by rw [Xr]; exact hz,by rw [Q6]; exact he,q⟩ hs
def Q8 (K : PySem.W.Frag) : R2 := fun x y H Q => Zkx K x y H Q \/ Zky K x y H Q \/ rIxSt x y H Q
theorem ZkQ : IxR X (Q8 X.K) := ix_list.or (ix_tup.or ZkP)
def rSlS : V -> Option Int -> Option Int -> Hp -> VK -> Prop := fun x lo hi H Q => ∃ a,x = S a /\ a.length <= sizeLine /\ Q (S (cutL a lo hi)) H
theorem sl_S : SlR X rSlS := by
 intro pins s σ H x v vl vu lo hi sl Q I rx hs pl pu h;obtain ⟨a,rfl,hz,q⟩ := h;obtain ⟨t,rfl⟩ := rx;refine ⟨"str",_,F.slot_str_getitem.lookup,typeIs_str _ _ _,?_⟩;have fin : ∀ t' k,EP X pins σ Q (.str (Txt.slice (tx a) lo hi) t') { s with toks := k } := fun t' k => ⟨S (cutL a lo hi),H,I.tok _,⟨t',by rw [ZeI]⟩,q⟩
 have hle : (Txt.slice (tx a) lo hi).length <= sizeLine := Nat.le_trans (Txt.slice_le _ _ _) (by rw [Xr]; exact hz);cases pl with
 | none =>
  cases pu with
  | none => exact wpAny_getItem_str_slice (l:=none) (u:=none) (st:=none) hs rfl (post_val_or_str ⟨hle,fin⟩)
  | int j uj => exact wpAny_getItem_str_slice (l:=none) (u:=some (j,uj)) (st:=none) hs rfl (post_val_or_str ⟨hle,fin⟩)
 | int i ui =>
  cases pu with
  | none => exact wpAny_getItem_str_slice (l:=some (i,ui)) (u:=none) (st:=none) hs rfl (post_val_or_str ⟨hle,fin⟩)
  | int j uj => exact wpAny_getItem_str_slice (l:=some (i,ui)) (u:=some (j,uj)) (st:=none) hs rfl (post_val_or_str ⟨hle,fin⟩)
def ZiI (K : PySem.W.Frag) : V -> Option Int -> Option Int -> Hp -> VK -> Prop := fun x lo hi H Q => rSlS x lo hi H Q \/ Zkz K x lo hi H Q \/ Zkw K x lo hi H Q
theorem ZkR : SlR X (ZiI X.K) := sl_S.or (sl_list.or ZhU)
def ZfQ (K : PySem.W.Frag) : List V -> Hp -> VK -> Prop := fun xs H Q => (∃ a,xs = [S a] /\ a.length <= sizeLine /\ Q (.int a.length) H) \/ ∃ p ys,xs = [.ref p] /\ (SqL K H p ys \/ SqT K H p ys) /\ Q (.int ys.length) H
theorem Zd7 : Xe X (.builtin "len") (ZfQ X.K) := by
 intro pins s σ H xs us Q I rs q;rcases q with ⟨a,rfl,hz,q⟩ | q
 · exact Zbr pins s σ H _ us Q I rs ⟨tx a,rfl,by rw [Xr]; exact hz,by rw [Xr]; exact q⟩
 · exact Zbq pins s σ H xs us Q I rs q
end
section
variable {X : Cx} {K : PySem.W.Frag} {pos : Pos} {tg : Expr}
theorem Zi8 (hK : X.K = K := by rfl) : OpR X (compareOp .In) (UR K false) := hK ▸ ZhY
theorem ZbY (hK : X.K = K := by rfl) : OpR X (compareOp .NotIn) (UR K true) := hK ▸ Zd6
theorem ZD (hK : X.K = K := by rfl) : IxR X (Q8 K) := hK ▸ ZkQ
theorem Um (hK : X.K = K := by rfl) : SlR X (ZiI K) := hK ▸ ZkR
theorem Ye (hK : X.K = K := by rfl) : Xe X (.builtin "len") (ZfQ K) := hK ▸ Zd7
theorem Xs {l : Expr} {tl : TE} (hl : PE X l tl) (hK : X.K = K := by rfl) : PI X tg l (ZiG K tl) := hK ▸ ZhX hl
theorem V1 {e : Expr} {ta : TE} {f : Str} (he : PE X e ta) (hb : attributeBase e f X.env (eval e X.env) = eval e X.env := by rfl) (hK : X.K = K := by rfl) : PE X (.Attribute e f pos) (ZiD K ta f) := hK ▸ ZhQ he hb
def Zfi (K : PySem.W.Frag) : List V -> Hp -> VK -> Prop := fun xs H Q => ∃ p ys,xs = [.ref p] /\ ((SqL K H p ys /\ ∀ l,H l = none -> Q (.ref l) (upd H l (.tup ys))) \/ (SqT K H p ys /\ Q (.ref p) H))
theorem Q9 (hK : X.K = K := by rfl) : Xe X (.type "tuple") (Zfi K) := hK ▸ ZaX
theorem XW {o e : Expr} {es : List Expr} {to : TE} {t : TA} {name : Str} {apos cpos : Pos} {T id : String} {r : V -> List V -> Hp -> VK -> Prop} (pa : PlainAttrs T) (slot : Slot T name id) (hty : typeOf (.builtin id) = pure (.type "method_descriptor")) (hm : MtR X id r) (ho : PE X o to) (ha : PA X (e :: es) t)
 (hbase : attributeBase o name X.env (eval o X.env) = eval o X.env := by rfl)
 (hfew : ((backTo cpos (starEach (e :: es) X.env)).all (fun x => !x.1) && (backToKw cpos (keywordEach [] X.env)).all (fun x => x.1.isSome)
   && decide ((e :: es).length + ([] : List Keyword).length + (if ([] : List Keyword).isEmpty then 0 else 1) < 30)) = true := by rfl)
 (hline : (apos.endLine == cpos.line) = true := by rfl) (hs : starEach (e :: es) X.env = (false,eval e X.env) :: starEach es X.env := by rfl) (hplain : (backTo cpos (starEach es X.env)).any (·.1) = false := by rfl) (hK : X.K = K := by rfl) :
 PE X (.Call (.Attribute o name apos) (e :: es) [] cpos) (tBM K T r to t) := hK ▸ Zi4 pa slot hty hm ho ha hbase hfew hline hs hplain
theorem Zi9 {es : List Expr} {k : Nat} {t : TGs} {n : Nat} (h : PGs X es t) (hc : X.calm = true := by rfl)
 (hn : (assignEach es X.env).length = n := by rfl) (hst : (assignEach es X.env).findIdx? (·.1) = none := by rfl) (hK : X.K = K := by rfl) : PG X (.Tuple es k pos) (J7 K n t) := hK ▸ ZhN hc h hn hst
end
end L2
namespace L2
open PySem PySem.Spec PyProof.Rows
theorem ZeK {H : Hp} {q : Addr} {o : HO} (h : H q = none) : Same H (upd H q o) := fun b u e => by
 rw [Zt (Yn e h)];exact e
structure Walk (J : It) (xs : List V) (H : Hp) : Prop where
 go : ∀ i,i < xs.length -> J.go i H
 yld : ∀ (i : Nat) v H',i < xs.length -> J.yld i H v H' -> H' = H /\ xs[i]? = some v
 stop : ∀ i,xs.length <= i -> J.stop i H
end L2
namespace L2
open PySem PySem.Spec PyProof.Rows
def ZiJ (lo c : Int) (n : Nat) : It := ⟨fun i _ => i < n,fun i H x H' => H' = H /\ x = .int (lo + i * c),fun i _ => n <= i⟩
theorem ZbL {P : Program} {w : World} {K : PySem.W.Frag} {tg : Expr} (it : Addr) (lo c : Int) (n : Nat) : Turn P w K tg (ZiJ lo c n) [it] it (fun i h => IsRangeIter h it (lo + (i : Nat) * c) ((n : Int) - (i : Nat)) c) where
 mem := by simp
 obj := fun i h st b hb => by
  have e : b = it := by simpa using hb
  subst e
  exact ⟨_,st,fun v z => by
   have z' : Data.fields _ = Data.cell v := z;cases z'⟩
 keep := fun i h h' st k => k it (by simp) _ st
 item := by
  intro X hP hw hK hc i pins s σ H E I hf st hg;subst hP hw hK;obtain ⟨f0,f1,f2,f3,f4,f5⟩ := hf it (by simp);have W := Walks.range (prog:=X.prog) (w:=X.w) (I.ok.hd hc) it lo c n;refine W.item i s _ _ hg st fun v h' tk hv st' kk => ?_
  obtain ⟨t,rfl⟩ := hv;have I1 : Inv X pins σ H { s with heap := h',toks := tk } := I.turned (fun b o hb e => kk b o (by simpa using hb) e) f0 f1 f3 f4 f5;exact ⟨_,rfl,Qo (s:={ s with heap := h',toks := tk }) (n:="range_iterator") st' rfl rfl (by decide) ⟨.int (lo + i * c),H,I1,⟨t,rfl⟩,⟨rfl,rfl⟩,st',fun b hb => (hf b hb).1⟩⟩
 done := by
  intro X hP hw hK hc i pins s σ H E I hf st hg;subst hP hw hK;obtain ⟨f0,f1,f2,f3,f4,f5⟩ := hf it (by simp);exact wpAny_pyNext_range_end (I.ok.hd hc) st (by have : n <= i := hg; omega) fun h' eb => ⟨rfl,I.turned (t' := s.toks) (fun b o hb e => eb b o hb e) f0 f1 f3 f4 f5⟩
 self := fun _ _ _ _ _ st h => wpAny_pyIter_rangeiter st h
section
variable {X : Cx} {tg : Expr}
def Zhd (ta : TA) : TI := fun σ H R => ta σ H fun vs H1 => ∃ i j c : Int,vs = [.int i,.int j,.int c] /\ (c ≠ 0 /\ c.natAbs < 1073741824 /\ Builtin.Range.small i j c = true) /\ R (ZiJ i c (Builtin.Range.rangeSize i j c).toNat) H1
theorem ZbM (i j c : Int) (hc : c ≠ 0) : 0 <= Builtin.Range.rangeSize i j c := by
 unfold Builtin.Range.rangeSize
 split
 · split
   · have := Int.ediv_nonneg (a:=j - i - 1) (b:=c) (by omega) (by omega)
     omega
   · omega
 · split
   · have := Int.ediv_nonneg (a:=i - j - 1) (b:=-c) (by omega) (by omega)
     omega
   · omega
theorem Zd8 {a b c : Expr} {ta : TA} {p pos : Pos} (hg : Gl X "range") (hm : X.mg "range" = none) (ha : PA X [a,b,c] ta) (hs : starEach [a,b,c] X.env = [(false,eval a X.env),(false,eval b X.env),(false,eval c X.env)] := by rfl) (hs2 : starEach [b,c] X.env = [(false,eval b X.env),(false,eval c X.env)] := by rfl) :
 PI X tg (.Call (.Name "range" p) [a,b,c] [] pos) (Zhd ta) := by
 intro pins s σ H R I h;refine Call_ (Uf I hg hm boot_range (PyProof.Rows.callWith_type1 (thn (ha pos pins s σ H _ I h) fun us s1 ⟨vs,H1,I1,r1,q1⟩ => ?_) (by rw [hs,hs2]) (by rw [hs2]; rfl)));obtain ⟨i,j,c,e,⟨q1,q2,q3⟩,q⟩ := q1;subst e;cases r1 with
 | cons r rr =>
  cases rr with
  | cons r' rr =>
   cases rr with
   | cons r'' rr =>
    cases rr;obtain ⟨t,rfl⟩ := r;obtain ⟨t',rfl⟩ := r';obtain ⟨t'',rfl⟩ := r'';refine call_range_3 q1 ?_ (.inl (PyProof.noPylong_small q2));refine wpAny_pyIter_range (IsRange.new ..) q3 ?_;have I2 : Inv X pins σ H1 { s1 with heap := s1.heap.push { cls := .type "range",data := .fields #[.int i t,.int j t',.int c t''] },toks := s1.toks } := I1.kept fun b o e => Heap.get?_push_of_some _ e
    refine ⟨(s1.heap.push { cls := .type "range",data := .fields #[.int i t,.int j t',.int c t''] }).objs.size,[(s1.heap.push { cls := .type "range",data := .fields #[.int i t,.int j t',.int c t''] }).objs.size],_,_,H1,rfl,
     I2.kept (t' := s1.toks) fun b o e => Heap.get?_push_of_some _ e,ZbL _ i c (Builtin.Range.rangeSize i j c).toNat,?_,fun b hb => ?_,q⟩
    · have e1 : i + ((0 : Nat) : Int) * c = i := by simp
      have e2 : (((Builtin.Range.rangeSize i j c).toNat : Nat) : Int) - ((0 : Nat) : Int) = Builtin.Range.rangeSize i j c := by
       have := ZbM i j c q1;omega
      show IsRangeIter _ _ (i + ((0 : Nat) : Int) * c) ((((Builtin.Range.rangeSize i j c).toNat : Nat) : Int) - ((0 : Nat) : Int)) c;rw [e1,e2];exact Heap.get?_push_size _ rfl
    · have e : b = (s1.heap.push { cls := .type "range",data := .fields #[.int i t,.int j t',.int c t''] }).objs.size := by simpa using hb
      subst e;exact I2.fpOk (Nat.le_refl _) (I2.hok.fresh (Nat.le_refl _))
end
end L2
namespace L2
open PySem PySem.Spec PyProof.Rows
def ZiK (n0 : Nat) (cs : List Nat) : It := ⟨fun i _ => i < cs.length,fun i H v H' => ∃ c p,cs[i]? = some c /\ H p = none /\ v = .ref p /\ H' = upd H p (.tup [.int ((n0 + i : Nat) : Int),S [c]]),fun i _ => cs.length <= i⟩
theorem Zba {prog : Program} {w : World} {A : Around} (hh : A.handled = none) (it : Addr) (cs : List Nat) (t : Tok) (n0 : Nat) :
 Draws prog w A it [it] (n0 + cs.length) (fun i v => ∃ j c u,i = n0 + j /\ cs[j]? = some c /\ v = .str ⟨#[c]⟩ u) (fun i h => ∃ j,i = n0 + j /\ h.IsStrIter it (strIterType (tx cs)) (tx cs) t j) where
 live := fun i h ⟨j,_,o,ho,_⟩ => ⟨o,ho⟩
 frame := fun i h h' ⟨j,e,o,ho,r⟩ hk => ⟨j,e,o,hk it (by simp) o ho,r⟩
 item := fun i s Q E hi st hQ => by
  obtain ⟨j,rfl,st⟩ := st;have hj : j < cs.length := by omega
  have hx : (tx cs).cps[j]? = some cs[j] := by simp [tx,hj]
  rcases UQ (tx cs) with z | z
  · rw [z] at st
    refine wpAny_nextOf_ascii_item st hx fun h' st' sb => ?_
    exact hQ _ h' (s.toks + 1) ⟨j,_,_,rfl,by simp [hj],rfl⟩ ⟨j + 1,by omega,by rw [z]; exact st'⟩ sb
  · rw [z] at st
    refine wpAny_nextOf_wide_item st hx fun h' st' sb => ?_
    exact hQ _ h' (s.toks + 1) ⟨j,_,_,rfl,by simp [hj],rfl⟩ ⟨j + 1,by omega,by rw [z]; exact st'⟩ sb
 done := fun s Q E st hE => by
  obtain ⟨j,e,st⟩ := st;have hj : j = cs.length := by omega
  subst hj;have hx : (tx cs).cps[cs.length]? = none := by simp [tx]
  rcases UQ (tx cs) with z | z
  · rw [z] at st
    exact wpAny_nextOf_ascii_end hh st hx hE
  · rw [z] at st
    exact wpAny_nextOf_wide_end hh st hx hE
theorem Zcv {P : Program} {w : World} {K : PySem.W.Frag} {elts : List Expr} {x1 : Nat} {tpos : Pos} (e it : Addr) (hne : e ≠ it) (n0 : Nat) (cs : List Nat) (t : Tok) :
 Turn P w K (.Tuple elts x1 tpos) (ZiK n0 cs) [e,it] e (fun i h => (i <= cs.length /\ ∃ old,IsEnum h e it ((n0 + i : Nat) : Int) old) /\ h.IsStrIter it (strIterType (tx cs)) (tx cs) t i) where
 mem := by simp
 obj := fun i h st b hb => by
  obtain ⟨⟨_,old,he⟩,o,ho,hc,hd⟩ := st;simp at hb;rcases hb with rfl | rfl
  · exact ⟨_, he, fun v z => by
     have z' : Data.fields _ = Data.cell v := z;cases z'⟩
  · exact ⟨o,ho,fun v z => by rw [hd] at z; cases z⟩
 keep := fun i h h' st k => by
  obtain ⟨⟨hi,old,he⟩,o,ho,r⟩ := st;exact ⟨⟨hi,old,k e (by simp) _ he⟩,o,k it (by simp) o ho,r⟩
 item := by
  intro X hP hw hK hc i pins s σ H E I hf st hg;subst hP hw hK;obtain ⟨⟨_,old,he⟩,st⟩ := st;have hg : i < cs.length := hg;have f := hf e (by simp);have g := hf it (by simp);obtain ⟨e0,e1,e2,e3,e4,e5⟩ := f;obtain ⟨f0,f1,f2,f3,f4,f5⟩ := g;have D := Zba (prog:=X.prog) (w:=X.w) (A:=X.A.in1) (I.ok.hd hc) it cs t n0;refine wpAny_pyNext_enum_itemD D he ⟨i,rfl,st⟩ (by omega) hne (by simp [hne]) fun x h' tk hP ho st' hT hsz hk => ?_
  obtain ⟨j,c,u,ej,hcx,rfl⟩ := hP;have ej' : j = i := by omega
  subst ej';refine ⟨_,rfl,wpAny_letOwnedTupleGo_enum ho fun h2 he2 hs2 => ?_⟩;have hs2 : Heap.SameBut e h' h2 := hs2;have hTl : e < s.heap.objs.size := Heap.lt_size he;obtain ⟨j',ej2,st''⟩ := st';have ej3 : j' = j + 1 := by omega
  subst ej3;have hT2 : h2.get? s.heap.objs.size = some { cls := .type "tuple",data := .seq #[.int ((n0 + j : Nat) : Int) tk,.str ⟨#[c]⟩ u] } := (hs2.2 _ (Nat.ne_of_gt hTl)).trans hT;have k2 : ∀ b o,b ≠ e -> b ≠ it -> s.heap.get? b = some o -> h2.get? b = some o := fun b o hb hb' q => (hs2.2 b hb).trans (hk b o hb hb' q)
  have hTn : H s.heap.objs.size = none := I.hok.fresh (Nat.le_refl _);have neT : ∀ b o,s.heap.get? b = some o -> b ≠ s.heap.objs.size := fun b o q => Nat.ne_of_lt (Heap.lt_size q)
  have I2 : Inv X pins σ (upd H s.heap.objs.size (.tup [.int ((n0 + j : Nat) : Int),S [c]])) { s with heap := h2,toks := tk + 1 } := by
   refine I.step (g' := s.gens) (d' := s.drawn) (ch:=[e,it]) (fun b hb => ?_) (fun b o _ _ hcb q _ => ?_) (fun b o _ _ hcb q _ => ?_) (fun b o hcb q n => ?_) (fun b o hcb q => ?_) (fun b xs q => ?_) (fun b o v q => ?_) (fun b ps q => ?_) (fun m hm => ?_) (fun b o q => ?_) I.bare
   · simp at hb
     rcases hb with rfl | rfl
     · exact ⟨e3,e1,e4,e5⟩
     · exact ⟨f3,f1,f4,f5⟩
   · simp at hcb
     exact k2 b o hcb.1 hcb.2 q
   · simp at hcb
     exact ⟨o.slots,k2 b o hcb.1 hcb.2 q⟩
   · rw [Zt (neT b o q)]
     exact n
   · simp at hcb
     exact ⟨o,k2 b o hcb.1 hcb.2 q⟩
   · rw [Zt (Yn q hTn)]
     exact q
   · rw [Zt (Yn q hTn)]
     exact q
   · exact ⟨#[],by rw [Zt (Yn q hTn),q]; simp⟩
   · obtain ⟨o,es,ep,q,r⟩ := hm
     exact ⟨o,es,ep,k2 _ o (Ne.symm e1) (Ne.symm f1) q,r⟩
   · by_cases hb : b = s.heap.objs.size
     · subst hb
       rw [ZM] at q;cases q;refine ⟨by show 2 <= sizeLine; decide,[.int ((n0 + j : Nat) : Int) tk,.str ⟨#[c]⟩ u],.cons ⟨_,rfl⟩ (.cons ⟨_,rfl⟩ .nil),?_⟩;exact ⟨_,hT2,rfl,⟨_,rfl⟩,rfl⟩
     · rw [Zt hb] at q
       have nn : ∀ (b : Addr) (o : HO),H b = some o -> b ≠ e /\ b ≠ it := fun b o q => ⟨fun z => (by rw [z,e0] at q; cases q),fun z => (by rw [z,f0] at q; cases q)⟩
       refine (I.hok b o q).stay (fun d v hd q' => ?_) (fun d q' => by rw [Zt (Yn q' hTn)]; exact q') fun d xs q' => by rw [Zt (Yn q' hTn)]; exact q'
       rcases hd with rfl | hd
       · exact k2 d v (nn d o q).1 (nn d o q).2 q'
       · exact k2 d v (nn d _ hd).1 (nn d _ hd).2 q'
  have he3 : IsEnum h2 e it ((n0 + (j + 1) : Nat) : Int) (.str ⟨#[c]⟩ u) := by
   have : ((n0 + (j + 1) : Nat) : Int) = ((n0 + j : Nat) : Int) + 1 := by push_cast; omega
   rw [this];exact he2
  refine ⟨.ref s.heap.objs.size,_,I2,rfl,⟨c,s.heap.objs.size,hcx,hTn,rfl,rfl⟩,⟨⟨hg,_,he3⟩,?_⟩,fun b hb => ?_⟩
  · obtain ⟨o,ho',r⟩ := st''
    exact ⟨o,(hs2.2 it (Ne.symm hne)).trans ho',r⟩
  · simp at hb
    rcases hb with rfl | rfl
    · rw [Zt (Nat.ne_of_lt hTl)]; exact e0
    · obtain ⟨o,ho',_⟩ := st
      rw [Zt (neT _ o ho')]; exact f0
 done := by
  intro X hP hw hK hc i pins s σ H E I hf st hg;subst hP hw hK;obtain ⟨⟨hi,old,he⟩,st⟩ := st;have hg : cs.length <= i := hg;have ei : i = cs.length := by omega
  subst ei;obtain ⟨f0,f1,f2,f3,f4,f5⟩ := hf it (by simp);have D := Zba (prog:=X.prog) (w:=X.w) (A:=X.A.in1) (I.ok.hd hc) it cs t n0;exact wpAny_pyNext_enum_endD D he ⟨cs.length,rfl,st⟩ fun h' eb => ⟨rfl,I.turned (t' := s.toks) (fun b o hb q => eb b o hb q) f0 f1 f3 f4 f5⟩
 self := fun _ _ _ _ _ st h => by
  obtain ⟨⟨_,old,he⟩,_⟩ := st;exact wpAny_pyIter_enum he h
section
variable {X : Cx} {elts : List Expr} {x1 : Nat} {tpos : Pos}
end
end L2
namespace L2
open PySem PySem.Spec PyProof.Rows
section
variable {κ : Type} [DecidableEq κ]
def Xj (kvs : List (κ × V)) (k : κ) : Option V := (kvs.find? fun kv => decide (kv.1 = k)).map (·.2)
def YU (kvs : List (κ × V)) (k : κ) (v : V) : List (κ × V) :=
 if (kvs.any fun kv => decide (kv.1 = k)) = true then kvs.map (fun kv => if kv.1 = k then (kv.1,v) else kv) else kvs ++ [(k,v)]
theorem ZaI {p : κ × V} {r : List (κ × V)} {k : κ} (e : p.1 = k) : Xj (p :: r) k = some p.2 := by simp [Xj,List.find?_cons,e]
theorem ZaJ {p : κ × V} {r : List (κ × V)} {k : κ} (e : ¬ p.1 = k) : Xj (p :: r) k = Xj r k := by simp [Xj,List.find?_cons,e]
theorem ZaK (k : κ) : ∀ kvs : List (κ × V),(kvs.any fun kv => decide (kv.1 = k)) = (Xj kvs k).isSome
 | [] => rfl
 | p :: r => by
  rw [List.any_cons]
  by_cases e : p.1 = k
  · simp only [ZaI e,decide_eq_true e,Bool.true_or,Option.isSome_some]
  · rw [ZaJ e,decide_eq_false e,Bool.false_or]; exact ZaK k r
theorem Zaw (kvs : List (κ × V)) (k : κ) (v : V) : (YU kvs k v).length <= kvs.length + 1 := by
 unfold YU
 split
 · rw [List.length_map]; omega
 · rw [List.length_append,List.length_cons,List.length_nil]; omega
theorem RelO.isSome_eq {o : Option V} {u : Option Value} (r : RelO o u) : o.isSome = u.isSome := by
 cases o with
 | none => cases u with
  | none => rfl
  | some _ => exact (show False from r).elim
 | some _ => cases u with
  | none => exact (show False from r).elim
  | some _ => rfl
theorem KV.val {kvs : List (κ × V)} {vs : List (κ × Value)} (r : KV kvs vs) (k : κ) : RelO (Xj kvs k) (valueAt vs k) := by
 unfold KV at r
 induction r with
 | nil => exact True.intro
 | @cons p q ps qs h t ih =>
  obtain ⟨h1,h2⟩ := h
  by_cases e : p.1 = k
  · have e' : q.1 = k := h1.symm.trans e
    have b : valueAt (q :: qs) k = some q.2 := by simp [valueAt,List.find?_cons,e']
    rw [ZaI e,b]; exact h2
  · have e' : ¬ q.1 = k := fun z => e (h1.trans z)
    have b : valueAt (q :: qs) k = valueAt qs k := by simp [valueAt,List.find?_cons,e']
    rw [ZaJ e,b]; exact ih
theorem KV.any {kvs : List (κ × V)} {vs : List (κ × Value)} (r : KV kvs vs) (k : κ) : (kvs.any fun kv => decide (kv.1 = k)) = vs.any fun kv => decide (kv.1 = k) := by
 unfold KV at r
 induction r with
 | nil => rfl
 | cons h t ih => rw [List.any_cons,List.any_cons,ih,h.1]
theorem KV.repl {kvs : List (κ × V)} {vs : List (κ × Value)} (r : KV kvs vs) (k : κ) {y : V} {u : Value} (ry : RelV y u) :
 KV (kvs.map fun kv => if kv.1 = k then (kv.1,y) else kv) (vs.map fun kv => if kv.1 = k then (kv.1,u) else kv) := by
 unfold KV at r ⊢
 induction r with
 | nil => exact .nil
 | @cons p q ps qs h t ih =>
  rw [List.map_cons,List.map_cons];refine .cons ?_ ih;obtain ⟨h1,h2⟩ := h
  by_cases e : p.1 = k
  · rw [if_pos e,if_pos (h1.symm.trans e)]; exact ⟨h1,ry⟩
  · rw [if_neg e,if_neg (fun z => e (h1.trans z))]; exact ⟨h1,h2⟩
theorem KV.put {kvs : List (κ × V)} {vs : List (κ × Value)} (r : KV kvs vs) (k : κ) {y : V} {u : Value} (ry : RelV y u) : KV (YU kvs k y) (stored vs k u) := by
 unfold YU stored;rw [r.any k]
 by_cases e : (vs.any fun kv => decide (kv.1 = k)) = true
 · rw [if_pos e,if_pos e]; exact r.repl k ry
 · rw [if_neg e,if_neg e]; exact Paired.snoc r ⟨rfl,ry⟩
theorem KV.length {kvs : List (κ × V)} {vs : List (κ × Value)} (r : KV kvs vs) : kvs.length = vs.length := Paired.length r
end
theorem ZfR {P : Program} {w : World} {k : Key} {u : Value} (r : RelV (kV k) u) : (Xc P w).is k u = true := by
 cases k with
 | inl i => obtain ⟨t,e⟩ := (show ∃ t,u = Value.int i t from r); subst e; exact ZbJ P w i t
 | inr x => obtain ⟨t,e⟩ := (show ∃ t,u = Value.str x t from r); subst e; exact ZbK P w x t
theorem Zbb {P : Program} {w : World} : ∀ {ks : List Key} {us : List Value},Vals (ks.map kV) us -> ItemsAre (Xc P w) ks us
 | [],_,r => by rw [List.map_nil] at r; cases r; exact .nil
 | k :: ks,_,r => by
  rw [List.map_cons] at r;cases r with
  | cons h t => exact .cons (ZfR h) (Zbb t)
abbrev KT (H : Hp) : List (List Key × V) -> List (List Key × Addr × Value) -> Prop := Paired fun p q => p.1 = q.1 /\ H q.2.1 = some (.tup (p.1.map kV)) /\ RelV p.2 q.2.2
theorem KT.val {H : Hp} {kvs : List (List Key × V)} {xs : List (List Key × Addr × Value)} (r : KT H kvs xs) (k : List Key) : RelO (Xj kvs k) ((atKey xs k).map (·.2)) := by
 induction r with
 | nil => exact True.intro
 | @cons p q ps qs h t ih =>
  obtain ⟨h1,_,h2⟩ := h
  by_cases e : p.1 = k
  · have e' : q.1 = k := h1.symm.trans e
    have b : atKey (q :: qs) k = some q.2 := by simp [atKey,List.find?_cons,e']
    rw [ZaI e,b]; exact h2
  · have e' : ¬ q.1 = k := fun z => e (h1.trans z)
    have b : atKey (q :: qs) k = atKey qs k := by simp [atKey,List.find?_cons,e']
    rw [ZaJ e,b]; exact ih
theorem KT.repl {H : Hp} {kvs : List (List Key × V)} {xs : List (List Key × Addr × Value)} (r : KT H kvs xs) (k : List Key) {y : V} {u : Value} (ry : RelV y u) :
 KT H (kvs.map fun kv => if kv.1 = k then (kv.1,y) else kv) (xs.map (putAt k u)) := by
 induction r with
 | nil => exact .nil
 | @cons p q ps qs h t ih =>
  rw [List.map_cons,List.map_cons];refine .cons ?_ ih;obtain ⟨h1,h2,h3⟩ := h;unfold putAt
  by_cases e : p.1 = k
  · rw [if_pos e,if_pos (h1.symm.trans e)]; exact ⟨h1,h2,ry⟩
  · rw [if_neg e,if_neg (fun z => e (h1.trans z))]; exact ⟨h1,h2,h3⟩
theorem KT.put {H : Hp} {kvs : List (List Key × V)} {xs : List (List Key × Addr × Value)} (r : KT H kvs xs) (k : List Key) {b : Addr} {y : V} {u : Value} (hb : H b = some (.tup (k.map kV))) (ry : RelV y u) :
 KT H (YU kvs k y) (storedH xs k b u) := by
 have e : (kvs.any fun kv => decide (kv.1 = k)) = (atKey xs k).isSome := by
  rw [ZaK,(r.val k).isSome_eq,Option.isSome_map]
 unfold YU storedH;rw [e]
 by_cases q : (atKey xs k).isSome = true
 · rw [if_pos q,if_pos q]; exact r.repl k ry
 · rw [if_neg q,if_neg q]; exact Paired.snoc r ⟨rfl,hb,ry⟩
theorem KT.keeps {H H' : Hp} {kvs : List (List Key × V)} {xs : List (List Key × Addr × Value)} (r : KT H kvs xs) (ht : ∀ b ys,H b = some (.tup ys) -> H' b = some (.tup ys)) : KT H' kvs xs :=
 Paired.mapP r fun _ _ z => ⟨z.1,ht _ _ z.2.1,z.2.2⟩
section
variable {P : Program} {w : World} {H : Hp} {h : Heap} {a : Addr}
theorem Zhe {u : HO} (ok : HOk P w H h) (e : Rd H a u) : ObjOk P w H h a u := e.ok ok
theorem Zhf {kvs : List (Key × V)} (ok : HOk P w H h) (e : Rd H a (.dK kvs)) : kvs.length <= sizeLine /\ (a == sysModules) = false /\ ∃ vs,KV kvs vs /\ h.DictOf (Xc P w) a vs :=
 show ObjOk P w H h a (.dK kvs) from Zhe ok e
theorem Zja {kvs : List (Key × V)} (ok : HOk P w H h) (e : H a = some (.dK kvs)) : kvs.length <= sizeLine /\ (a == sysModules) = false /\ ∃ vs,KV kvs vs /\ h.DictOf (Xc P w) a vs := Zhf ok (.inl e)
theorem ZcV {ks : List Key} (ok : HOk P w H h) (e : H a = some (.tup (ks.map kV))) : (tupleKind (Xc P w)).is h ks a := by
 obtain ⟨_,its,r,o,h1,h2,⟨n,h3⟩,_⟩ := (show ObjOk P w H h a (.tup (ks.map kV)) from ok a _ e)
 exact ⟨o,its.toArray,n,h1,h2,h3,by simpa using Zbb r⟩
theorem Zhg {kvs : List (List Key × V)} (ok : HOk P w H h) (e : Rd H a (.dT kvs)) : kvs.length <= sizeLine /\ (a == sysModules) = false /\
 ∃ xs,KT H kvs xs /\ h.DictOfH (tupleKind (Xc P w)) a xs := by
 obtain ⟨z,y,xs,r,o,es,ep,h1,h2,h3,h4,h5⟩ := (show ObjOk P w H h a (.dT kvs) from Zhe ok e)
 refine ⟨z,y,xs,r,o,es,ep,h1,h2,h3,h4,fun x hx => ?_,h5⟩
 have all : ∀ {l : List (List Key × V)} {m : List (List Key × Addr × Value)},KT H l m -> ∀ x ∈ m,(tupleKind (Xc P w)).is h x.1 x.2.1 := by
  intro l m q
  induction q with
  | nil => intro x hx; exact nomatch hx
  | @cons p q ps qs hq t ih =>
   intro x hx;rcases List.mem_cons.mp hx with e | hx
   · subst e
     exact ZcV ok (by rw [<- hq.1]; exact hq.2.1)
   · exact ih x hx
 exact all r x hx
theorem Zjb {kvs : List (List Key × V)} (ok : HOk P w H h) (e : H a = some (.dT kvs)) : kvs.length <= sizeLine /\ (a == sysModules) = false /\
 ∃ xs,KT H kvs xs /\ h.DictOfH (tupleKind (Xc P w)) a xs := Zhg ok (.inl e)
end
def DGet (H : Hp) (a : Addr) (y : V) (r : Option V) : Prop :=
 (∃ kvs k,Rd H a (.dK kvs) /\ y = kV k /\ r = Xj kvs k) \/ ∃ kvs k b,Rd H a (.dT kvs) /\ y = .ref b /\ H b = some (.tup (k.map kV)) /\ r = Xj kvs k
def DPut (H : Hp) (a : Addr) (y v : V) (H' : Hp) : Prop :=
 (∃ kvs k,H a = some (.dK kvs) /\ y = kV k /\ kvs.length < sizeLine /\ H' = upd H a (.dK (YU kvs k v))) \/
 ∃ kvs k b,H a = some (.dT kvs) /\ y = .ref b /\ H b = some (.tup (k.map kV)) /\ kvs.length < sizeLine /\ H' = upd H a (.dT (YU kvs k v))
theorem DGet.k {H : Hp} {a : Addr} {kvs : List (Key × V)} {k : Key} (e : H a = some (.dK kvs)) : DGet H a (kV k) (Xj kvs k) := .inl ⟨kvs,k,.inl e,rfl,rfl⟩
theorem DGet.t {H : Hp} {a b : Addr} {kvs : List (List Key × V)} {k : List Key} (e : H a = some (.dT kvs)) (eb : H b = some (.tup (k.map kV))) : DGet H a (.ref b) (Xj kvs k) := .inr ⟨kvs,k,b,.inl e,rfl,eb,rfl⟩
theorem DPut.k {H : Hp} {a : Addr} {kvs : List (Key × V)} {k : Key} {v : V} (e : H a = some (.dK kvs)) (hl : kvs.length < sizeLine) : DPut H a (kV k) v (upd H a (.dK (YU kvs k v))) := .inl ⟨kvs,k,e,rfl,hl,rfl⟩
theorem DPut.t {H : Hp} {a b : Addr} {kvs : List (List Key × V)} {k : List Key} {v : V} (e : H a = some (.dT kvs)) (eb : H b = some (.tup (k.map kV))) (hl : kvs.length < sizeLine) :
 DPut H a (.ref b) v (upd H a (.dT (YU kvs k v))) := .inr ⟨kvs,k,b,e,rfl,eb,hl,rfl⟩
section
variable {X : Cx} {pins : List (Addr × Obj)} {σ : St} {H : Hp} {s : Shared} {a : Addr} {y v : V} {u r : Value} {o : Option V} {A : Around} {E : Value -> Shared -> Prop}
theorem Inv.big (I : Inv X pins σ H s) : sysModules < s.heap.objs.size := by
 have h : mainGlobals < s.heap.objs.size := (I.mod.glob.keeps I.bk).lt;exact Nat.lt_trans (by decide) h
theorem Zgf {Q : Value -> Shared -> Prop} (hu : A.units + 1 < cLine) (I : Inv X pins σ H s) (g : DGet H a y o) (ry : RelV y u) (h : ∀ s',Inv X pins σ H s' -> Q (.bool (!o.isSome)) s') :
 wpAny (model X.prog X.w) A (compareOp .NotIn u (.ref a)) Q E s := by
 rcases g with ⟨kvs,k,e,ey,l⟩ | ⟨kvs,k,b,e,ey,eb,l⟩
 · subst ey
   obtain ⟨z,hd,vs,rel,dd⟩ := Zhf I.hok e;refine wpAny_notIn_of (ZfR ry) hd dd.mapOf ?_;rw [<- (rel.val k).isSome_eq,<- l];exact h _ (I.tok _)
 · subst ey
   cases (show u = Value.ref b from ry);obtain ⟨z,hd,xs,rel,dd⟩ := Zhg I.hok e;refine wpAny_notIn_heap (tupleKind_room_in1 hu) (ZcV I.hok eb) hd dd ?_;have q := (rel.val k).isSome_eq;rw [Option.isSome_map] at q;rw [<- q,<- l];exact h _ (I.tok _)
theorem Zdi {h' : Heap} {t' : Nat} {ob : HO} (I : Inv X pins σ H s) (mu : Mut (H a)) (hs : Heap.SameBut a s.heap h') (he : ∃ q,h'.get? a = some q) (new : ObjOk X.prog X.w (upd H a ob) h' a ob) :
 Inv X pins σ (upd H a ob) { s with heap := h',toks := t' } :=
 I.write (x:=a) (e:=a) mu (.inl rfl) (fun b q hb z => (hs.2 b hb).trans z) he new
theorem ZhZ {P : Program} {w : World} {H' : Hp} {h' : Heap} {kvs : List (Key × V)} {vs : List (Key × Value)} (z : kvs.length <= sizeLine) (hd : (a == sysModules) = false) (rel : KV kvs vs) (dd : h'.DictOf (Xc P w) a vs) :
 ObjOk P w H' h' a (.dK kvs) := ⟨z,hd,vs,rel,dd⟩
theorem Zd9 {H' : Hp} {Q : Unit -> Shared -> Prop} (hu : A.units + 1 < cLine) (I : Inv X pins σ H s) (g : DPut H a y v H') (ry : RelV y u) (rv : RelV v r) (h : ∀ s',Inv X pins σ H' s' -> Q () s') :
 wpAny (model X.prog X.w) A (setItem (.ref a) u r) Q E s := by
 rcases g with ⟨kvs,k,e,ey,l,eH⟩ | ⟨kvs,k,b,e,ey,eb,l,eH⟩
 · subst ey eH
   obtain ⟨z,hd,vs,rel,dd⟩ := Zja I.hok e;have hz : vs.length <= sizeLine := by rw [<- rel.length]; exact z
   have hl : (YU kvs k v).length <= sizeLine := by have := Zaw kvs k v; omega
   refine wpAny_setItem_pairs (hsz:=hz) (ZfR ry) dd fun h' dd' hs => h _ ?_
   have he : ∃ q,h'.get? a = some q := let ⟨q,_,_,hq,_⟩ := dd'; ⟨q,hq⟩
   exact Zdi I (by rw [e]; exact True.intro) hs he (ZhZ hl hd (rel.put k rv) dd')
 · subst ey eH
   cases (show u = Value.ref b from ry);obtain ⟨z,hd,xs,rel,dd⟩ := Zjb I.hok e;have hz : xs.length <= sizeLine := by rw [<- Paired.length rel]; exact z
   have hl : (YU kvs k v).length <= sizeLine := by have := Zaw kvs k v; omega
   refine wpAny_setItem_heap (hsz:=hz) (tupleKind_room_in1 hu) (ZcV I.hok eb) dd fun h' dd' hs => h _ ?_
   obtain ⟨q,es,ep,hq,h2,h3,h4,_,h5⟩ := dd';refine Zdi I (by rw [e]; exact True.intro) hs ⟨q,hq⟩ ⟨hl,hd,_,(rel.put k eb rv).keeps fun c ys ec => ?_,q,es,ep,hq,h2,h3,h4,h5⟩;rw [Zt (ZiX ec e (fun z => nomatch z))];exact ec
end
section
variable {X : Cx} {pins : List (Addr × Obj)} {σ : St} {H : Hp} {s : Shared} {a : Addr} {kvs : List (Key × V)} {k : Key} {u : Value} {A : Around} {E : Value -> Shared -> Prop}
end
def Zdj (ty td : TE) : TE := fun σ H Q => ty σ H fun y H1 => td σ H1 fun x H2 => ∃ a o,x = .ref a /\ DGet H2 a y o /\ Q (.bl (!o.isSome)) H2
def Zhh (td ty tv : TE) : TS := fun D σ H => tv σ H fun v H1 => td σ H1 fun x H2 => ty σ H2 fun y H3 => ∃ a H4,x = .ref a /\ DPut H3 a y v H4 /\ D.nx σ H4
section
variable {X : Cx} {o i e value : Expr} {pos pos' tpos : Pos} {td ty tv : TE}
theorem Zea (hu : X.A.units + 1 < cLine) (hi : PE X i ty) (ho : PE X o td) : PC X .NotIn i o (Zdj ty td) := by
 intro pins s σ H Q I h;refine thn (hi pins s σ H _ I h) fun iv s1 ⟨y,H1,I1,ry,q1⟩ => thn (ho pins s1 σ H1 _ I1 q1) fun u s2 ⟨x,H2,I2,rx,a,ov,ex,g,q2⟩ => ?_
 subst ex;obtain rfl : u = Value.ref a := rx;exact Zgf hu I2 g ry fun s3 I3 => ⟨.bl (!ov.isSome),H2,I3,rfl,q2⟩
theorem Zgg (hu : X.A.units + 1 < cLine) (ho : PE X o td) (hi : PE X i ty) (hv : PE X value tv) (hs : swapsWith value (some (.Subscript o i pos')) pos.line X.env = pure false) :
 PS X (.Assign [.Subscript o i pos'] value pos) (Zhh td ty tv) := by
 intro pins s σ H D I h;refine wpAny_Assign_Subscript (thn (hv pins s σ H _ I h) fun r s1 ⟨v,H1,I1,rv,q1⟩ => thn (ho pins s1 σ H1 _ I1 q1) fun u s2 ⟨x,H2,I2,rx,q2⟩ => thn (hi pins s2 σ H2 _ I2 q2) fun iv s3 ⟨y,H3,I3,ry,a,H4,ex,g,q3⟩ => ?_) hs;subst ex;obtain rfl : u = Value.ref a := rx;exact Zd9 hu I3 g ry rv fun s4 I4 => ⟨σ,H4,I4,q3⟩
end
theorem ZeL {P : Program} {w : World} {H : Hp} (h : Heap) (hb : sysModules < h.objs.size) : ObjOk P w H (h.push { cls := .type "dict",data := .dict #[] }) h.objs.size (.dK []) :=
 ⟨Nat.zero_le _,beq_eq_false_iff_ne.mpr (Ne.symm (Nat.ne_of_lt hb)),[],.nil,Heap.DictOf.new h⟩
def tDNewK : TE := fun _ H Q => ∀ p,H p = none -> Q (.ref p) (upd H p (.dK []))
section
variable {X : Cx} {pos : Pos}
theorem ZeM : PE X (.Dict [] [] pos) tDNewK := fun pins s σ H Q I h =>
 wpAny_Dict_empty ⟨.ref s.heap.objs.size,_,I.laid (a:=s.heap.objs.size) (o:=.dK []) (t' := s.toks) (fun _ _ q => Heap.get?_push_of_some _ q) (Nat.le_refl _) (ZeL s.heap I.big),rfl,h _ (I.hok.fresh (Nat.le_refl _))⟩
end
structure M1 (X : Cx) (o : Expr) (m : Str) (apos : Pos) (e : Expr) (cpos : Pos) : Prop where
 base : attributeBase o m X.env (eval o X.env) = eval o X.env
 few : ((backTo cpos (starEach [e] X.env)).all (fun x => !x.1) && (backToKw cpos (keywordEach [] X.env)).all (fun x => x.1.isSome)
  && decide (([e] : List Expr).length + ([] : List Keyword).length + (if ([] : List Keyword).isEmpty then 0 else 1) < 30)) = true
 line : (apos.endLine == cpos.line) = true
 trees : backTo cpos (starEach [e] X.env) = [(false,eval e X.env)]
structure M2 (X : Cx) (o : Expr) (m : Str) (apos : Pos) (e f : Expr) (cpos : Pos) : Prop where
 base : attributeBase o m X.env (eval o X.env) = eval o X.env
 few : ((backTo cpos (starEach [e,f] X.env)).all (fun x => !x.1) && (backToKw cpos (keywordEach [] X.env)).all (fun x => x.1.isSome)
  && decide (([e,f] : List Expr).length + ([] : List Keyword).length + (if ([] : List Keyword).isEmpty then 0 else 1) < 30)) = true
 line : (apos.endLine == cpos.line) = true
 trees : backTo cpos (starEach [e,f] X.env) = [(false,eval e X.env),(false,eval f X.env)]
section
variable {X : Cx} {pins : List (Addr × Obj)} {σ : St} {H : Hp} {s : Shared} {a : Addr} {y d : V} {u r : Value} {o : Option V} {A : Around} {E : Value -> Shared -> Prop}
end
section
variable {X : Cx} {o e f : Expr} {apos cpos : Pos} {td ty tx : TE}
end
section
variable {X : Cx} {pins : List (Addr × Obj)} {σ : St} {H : Hp} {s : Shared} {a : Addr} {kvs : List (Key × V)} {A : Around} {E : Value -> Shared -> Prop}
end
section
variable {X : Cx} {pins : List (Addr × Obj)} {σ : St} {H : Hp} {s : Shared} {a : Addr} {y : V} {u : Value} {A : Around} {E : Value -> Shared -> Prop}
end
end L2
namespace DL
open PySem PySem.Spec L2
inductive D where
 | non
 | bl (b : Bool)
 | int (i : Int)
 | str (cs : List Nat)
 | lst (xs : List D)
 | tup (xs : List D)
 | obj (c : String) (ks : List String) (xs : List D)
 | dct (ks : List Key) (xs : List D)
 | dtt (ks : List (List Key)) (xs : List D)
def KL (K : PySem.W.Frag) (a : Addr) (vs : List V) : Prop := ∃ (o : Obj) (its : Array Value) (n : Nat),K.lookup a = some o /\ o.cls = .type "list" /\ o.dict = none /\ o.data = .seq its n /\ its.size <= sizeLine /\ Vals vs its.toList
structure Kn where
 c : String -> Addr
 K : PySem.W.Frag
def Zy : D -> Bool
 | .non => true
 | .bl _ => true
 | .int _ => true
 | .str _ => true
 | _ => false
mutual
def Rep (cA : Kn) (av : Addr -> Prop) (H : Hp) : D -> V -> Prop
 | .non,v => v = .non
 | .bl b,v => v = .bl b
 | .int i,v => v = .int i
 | .str cs,v => v = S cs
 | .lst xs,v => ∃ a vs,v = .ref a /\ (av a -> KL cA.K a vs) /\ SqL cA.K H a vs /\ RepL cA av H xs vs
 | .tup xs,v => ∃ a vs,v = .ref a /\ ¬ av a /\ H a = some (.tup vs) /\ RepL cA av H xs vs
 | .obj c ks xs,v => ∃ a dx vs,v = .ref a /\ ¬ av a /\ H a = some (.ins (cA.c c) dx ((ks.map Str.ofString).zip vs)) /\ ks.length = xs.length /\ RepL cA av H xs vs
 | .dct ks xs,v => ∃ a vs,v = .ref a /\ ¬ av a /\ H a = some (.dK (ks.zip vs)) /\ ks.length = xs.length /\ RepL cA av H xs vs
 | .dtt ks xs,v => ∃ a vs,v = .ref a /\ ¬ av a /\ H a = some (.dT (ks.zip vs)) /\ ks.length = xs.length /\ RepL cA av H xs vs
def RepL (cA : Kn) (av : Addr -> Prop) (H : Hp) : List D -> List V -> Prop
 | [],vs => vs = []
 | x :: xs,vs => ∃ v r,vs = v :: r /\ Rep cA av H x v /\ RepL cA av H xs r
end
section
variable {cA : Kn} {G : Cn} {av av' : Addr -> Prop} {H H' : Hp}
theorem Rd.ext {a : Addr} {u : HO} (h : Rd H a u) (k : ∀ o,H a = some o -> H' a = some o) : Rd H' a u := by
 rcases h with h | ⟨o,h⟩
 · exact .inl (k _ h)
 · exact .inr ⟨o,k _ h⟩
theorem Rd.there {a : Addr} {u : HO} (h : Rd H a u) : H a ≠ none := by
 rcases h with h | ⟨o,h⟩ <;> rw [h] <;> exact fun z => by cases z
theorem ZcW {K : PySem.W.Frag} {a : Addr} {vs : List V} (n : av a -> KL K a vs) (r : SqL K H a vs) (k : ∀ b o,¬ av b -> H b = some o -> H' b = some o) : SqL K H' a vs := by
 by_cases h : av a
 · exact .inr (n h)
 · rcases r with r | r
   · exact .inl (Rd.ext r fun o => k a o h)
   · exact .inr r
theorem Zjc {K : PySem.W.Frag} {a : Addr} {vs : List V} (n : av a -> KL K a vs) (r : SqL K H a vs) (k : ∀ b,av' b -> av b \/ H b = none) : av' a -> KL K a vs := fun z => by
 rcases k a z with z | z
 · exact n z
 · rcases r with r | r
   · exact absurd z (Rd.there r)
   · exact r
mutual
theorem Rep.ext : ∀ {d : D} {v : V},(∀ b o,¬ av b -> H b = some o -> H' b = some o) -> Rep cA av H d v -> Rep cA av H' d v
 | .non,_,_,h => h
 | .bl _,_,_,h => h
 | .int _,_,_,h => h
 | .str _,_,_,h => h
 | .lst xs,v,k,h => by
  unfold Rep at h ⊢;obtain ⟨a,vs,e,n,r,l⟩ := h;exact ⟨a,vs,e,n,ZcW n r k,RepL.ext k l⟩
 | .tup xs,v,k,h => by
  unfold Rep at h ⊢;obtain ⟨a,vs,e,n,r,l⟩ := h;exact ⟨a,vs,e,n,k a _ n r,RepL.ext k l⟩
 | .obj c ks xs,v,k,h => by
  unfold Rep at h ⊢;obtain ⟨a,dx,vs,e,n,r,z,l⟩ := h;exact ⟨a,dx,vs,e,n,k a _ n r,z,RepL.ext k l⟩
 | .dct ks xs,v,k,h => by
  unfold Rep at h ⊢;obtain ⟨a,vs,e,n,r,z,l⟩ := h;exact ⟨a,vs,e,n,k a _ n r,z,RepL.ext k l⟩
 | .dtt ks xs,v,k,h => by
  unfold Rep at h ⊢;obtain ⟨a,vs,e,n,r,z,l⟩ := h;exact ⟨a,vs,e,n,k a _ n r,z,RepL.ext k l⟩
theorem RepL.ext : ∀ {xs : List D} {vs : List V},(∀ b o,¬ av b -> H b = some o -> H' b = some o) -> RepL cA av H xs vs -> RepL cA av H' xs vs
 | [],_,_,h => h
 | x :: xs,vs,k,h => by
  unfold RepL at h ⊢;obtain ⟨v,r,e,h1,h2⟩ := h;exact ⟨v,r,e,Rep.ext k h1,RepL.ext k h2⟩
end
mutual
theorem Rep.av : ∀ {d : D} {v : V},(∀ b,av' b -> av b \/ H b = none) -> Rep cA av H d v -> Rep cA av' H d v
 | .non,_,_,h => h
 | .bl _,_,_,h => h
 | .int _,_,_,h => h
 | .str _,_,_,h => h
 | .lst xs,v,k,h => by
  unfold Rep at h ⊢;obtain ⟨a,vs,e,n,r,l⟩ := h;exact ⟨a,vs,e,Zjc n r k,r,RepL.av k l⟩
 | .tup xs,v,k,h => by
  unfold Rep at h ⊢;obtain ⟨a,vs,e,n,r,l⟩ := h;exact ⟨a,vs,e,fun z => (k a z).elim n (by rw [r]; exact fun z => by cases z),r,RepL.av k l⟩
 | .obj c ks xs,v,k,h => by
  unfold Rep at h ⊢;obtain ⟨a,dx,vs,e,n,r,z,l⟩ := h;exact ⟨a,dx,vs,e,fun y => (k a y).elim n (by rw [r]; exact fun z => by cases z),r,z,RepL.av k l⟩
 | .dct ks xs,v,k,h => by
  unfold Rep at h ⊢;obtain ⟨a,vs,e,n,r,z,l⟩ := h;exact ⟨a,vs,e,fun y => (k a y).elim n (by rw [r]; exact fun z => by cases z),r,z,RepL.av k l⟩
 | .dtt ks xs,v,k,h => by
  unfold Rep at h ⊢;obtain ⟨a,vs,e,n,r,z,l⟩ := h;exact ⟨a,vs,e,fun y => (k a y).elim n (by rw [r]; exact fun z => by cases z),r,z,RepL.av k l⟩
theorem RepL.av : ∀ {xs : List D} {vs : List V},(∀ b,av' b -> av b \/ H b = none) -> RepL cA av H xs vs -> RepL cA av' H xs vs
 | [],_,_,h => h
 | x :: xs,vs,k,h => by
  unfold RepL at h ⊢;obtain ⟨v,r,e,h1,h2⟩ := h;exact ⟨v,r,e,Rep.av k h1,RepL.av k h2⟩
end
theorem Rep.scal {d : D} {v : V} (hs : Zy d = true) (h : Rep cA av H d v) : Rep cA av' H' d v := by
 cases d <;> first | exact h | cases hs
theorem Rep.same {d : D} {v : V} (k : Same H H') (h : Rep cA av H d v) : Rep cA av H' d v := h.ext fun b o _ => k b o
theorem RepL.same {xs : List D} {vs : List V} (k : Same H H') (h : RepL cA av H xs vs) : RepL cA av H' xs vs := h.ext fun b o _ => k b o
theorem RepL.nil : RepL cA av H [] [] := by unfold RepL; rfl
theorem RepL.cons {d : D} {v : V} {xs : List D} {vs : List V} (h : Rep cA av H d v) (t : RepL cA av H xs vs) : RepL cA av H (d :: xs) (v :: vs) := by
 unfold RepL;exact ⟨v,vs,rfl,h,t⟩
theorem RepL.uncons {d : D} {xs : List D} {vs : List V} (h : RepL cA av H (d :: xs) vs) : ∃ v r,vs = v :: r /\ Rep cA av H d v /\ RepL cA av H xs r := by
 unfold RepL at h;exact h
theorem RepL.nil_of {vs : List V} (h : RepL cA av H [] vs) : vs = [] := by
 unfold RepL at h;exact h
theorem RepL.length : ∀ {xs : List D} {vs : List V},RepL cA av H xs vs -> xs.length = vs.length
 | [],vs,h => by rw [h.nil_of]; rfl
 | x :: xs,vs,h => by
  obtain ⟨v,r,rfl,_,t⟩ := h.uncons;rw [List.length_cons,List.length_cons,RepL.length t]
theorem RepL.get : ∀ {xs : List D} {vs : List V} {i : Nat} {x : D},RepL cA av H xs vs -> xs[i]? = some x -> ∃ v,vs[i]? = some v /\ Rep cA av H x v
 | [],_,_,_,_,e => by simp at e
 | y :: xs,vs,0,x,h,e => by
  obtain ⟨v,r,rfl,h1,_⟩ := h.uncons;simp at e; subst e;exact ⟨v,rfl,h1⟩
 | y :: xs,vs,i + 1,x,h,e => by
  obtain ⟨v,r,rfl,_,t⟩ := h.uncons;obtain ⟨u,h1,h2⟩ := RepL.get (i:=i) t (by simpa using e);exact ⟨u,by simpa using h1,h2⟩
theorem RepL.append : ∀ {xs ys : List D} {vs ws : List V},RepL cA av H xs vs -> RepL cA av H ys ws -> RepL cA av H (xs ++ ys) (vs ++ ws)
 | [],_,vs,_,h,t => by rw [h.nil_of]; exact t
 | x :: xs,ys,vs,ws,h,t => by
  obtain ⟨v,r,rfl,h1,h2⟩ := h.uncons;exact .cons h1 (RepL.append h2 t)
theorem RepL.drop : ∀ {xs : List D} {vs : List V} (n : Nat),RepL cA av H xs vs -> RepL cA av H (xs.drop n) (vs.drop n)
 | _,_,0,h => h
 | [],vs,n + 1,h => by rw [h.nil_of]; exact .nil
 | x :: xs,vs,n + 1,h => by
  obtain ⟨v,r,rfl,_,h2⟩ := h.uncons;exact RepL.drop n h2
theorem RepL.take : ∀ {xs : List D} {vs : List V} (n : Nat),RepL cA av H xs vs -> RepL cA av H (xs.take n) (vs.take n)
 | _,_,0,h => by simp; exact .nil
 | [],vs,n + 1,h => by rw [h.nil_of]; exact .nil
 | x :: xs,vs,n + 1,h => by
  obtain ⟨v,r,rfl,h1,h2⟩ := h.uncons;exact .cons h1 (RepL.take n h2)
theorem RepL.set {d : D} {v : V} (hd : Rep cA av H d v) : ∀ {xs : List D} {vs : List V} (i : Nat),RepL cA av H xs vs -> RepL cA av H (xs.set i d) (vs.set i v)
 | [],vs,_,h => by rw [h.nil_of]; exact .nil
 | x :: xs,vs,0,h => by
  obtain ⟨v',r,rfl,h1,h2⟩ := h.uncons;exact .cons hd h2
 | x :: xs,vs,i + 1,h => by
  obtain ⟨v',r,rfl,h1,h2⟩ := h.uncons;exact .cons h1 (RepL.set hd i h2)
def val : D -> V
 | .bl b => .bl b
 | .int i => .int i
 | .str cs => S cs
 | _ => .non
theorem Rep.val {d : D} {v : V} (hs : Zy d = true) (h : Rep cA av H d v) : v = DL.val d := by
 cases d <;> first | exact h | cases hs
theorem Rep.of_val {d : D} (hs : Zy d = true) : Rep cA av H d (DL.val d) := by
 cases d <;> first | rfl | cases hs
theorem RepL.vals : ∀ {xs : List D} {vs : List V},xs.all Zy = true -> RepL cA av H xs vs -> vs = xs.map DL.val
 | [],vs,_,h => h.nil_of
 | x :: xs,vs,hs,h => by
  rw [List.all_cons,Bool.and_eq_true] at hs;obtain ⟨v,r,rfl,h1,h2⟩ := h.uncons;rw [List.map_cons,h1.val hs.1,RepL.vals hs.2 h2]
theorem RepL.of_vals : ∀ {xs : List D},xs.all Zy = true -> RepL cA av H xs (xs.map DL.val)
 | [],_ => .nil
 | x :: xs,hs => by
  rw [List.all_cons,Bool.and_eq_true] at hs;exact .cons (.of_val hs.1) (RepL.of_vals hs.2)
def RepT (cA : Kn) (t i : Addr -> Prop) (H : Hp) : D -> V -> Prop
 | .lst xs,v => ∃ a vs,v = .ref a /\ (t a -> KL cA.K a vs) /\ SqL cA.K H a vs /\ RepL cA i H xs vs
 | .tup xs,v => ∃ a vs,v = .ref a /\ ¬ t a /\ H a = some (.tup vs) /\ RepL cA i H xs vs
 | .obj c ks xs,v => ∃ a dx vs,v = .ref a /\ ¬ t a /\ H a = some (.ins (cA.c c) dx ((ks.map Str.ofString).zip vs)) /\ ks.length = xs.length /\ RepL cA i H xs vs
 | .dct ks xs,v => ∃ a vs,v = .ref a /\ ¬ t a /\ H a = some (.dK (ks.zip vs)) /\ ks.length = xs.length /\ RepL cA i H xs vs
 | .dtt ks xs,v => ∃ a vs,v = .ref a /\ ¬ t a /\ H a = some (.dT (ks.zip vs)) /\ ks.length = xs.length /\ RepL cA i H xs vs
 | d,v => v = DL.val d
theorem Rep.t {d : D} {v : V} (h : Rep cA av H d v) : RepT cA av av H d v := by
 cases d <;> first | exact h | (unfold Rep at h; exact h)
theorem RepT.r {d : D} {v : V} (h : RepT cA av av H d v) : Rep cA av H d v := by
 cases d <;> first | exact h | (unfold Rep; exact h)
theorem RepT.weak {t t' i i' : Addr -> Prop} {d : D} {v : V} (ht : ∀ a,t' a -> t a) (hi : ∀ a,i' a -> i a) (h : RepT cA t i H d v) : RepT cA t' i' H d v := by
 cases d with
 | lst xs => obtain ⟨a,vs,e,n,r,l⟩ := h; exact ⟨a,vs,e,fun z => n (ht a z),r,l.av fun b z => .inl (hi b z)⟩
 | tup xs => obtain ⟨a,vs,e,n,r,l⟩ := h; exact ⟨a,vs,e,fun z => n (ht a z),r,l.av fun b z => .inl (hi b z)⟩
 | obj c ks xs => obtain ⟨a,dx,vs,e,n,r,z,l⟩ := h; exact ⟨a,dx,vs,e,fun z => n (ht a z),r,z,l.av fun b z => .inl (hi b z)⟩
 | dct ks xs => obtain ⟨a,vs,e,n,r,z,l⟩ := h; exact ⟨a,vs,e,fun z => n (ht a z),r,z,l.av fun b z => .inl (hi b z)⟩
 | dtt ks xs => obtain ⟨a,vs,e,n,r,z,l⟩ := h; exact ⟨a,vs,e,fun z => n (ht a z),r,z,l.av fun b z => .inl (hi b z)⟩
 | _ => exact h
theorem RepT.same {t i : Addr -> Prop} {d : D} {v : V} (k : Same H H') (h : RepT cA t i H d v) : RepT cA t i H' d v := by
 cases d with
 | lst xs => obtain ⟨a,vs,e,n,r,l⟩ := h; exact ⟨a,vs,e,n,k.seq r,l.same k⟩
 | tup xs => obtain ⟨a,vs,e,n,r,l⟩ := h; exact ⟨a,vs,e,n,k a _ r,l.same k⟩
 | obj c ks xs => obtain ⟨a,dx,vs,e,n,r,z,l⟩ := h; exact ⟨a,dx,vs,e,n,k a _ r,z,l.same k⟩
 | dct ks xs => obtain ⟨a,vs,e,n,r,z,l⟩ := h; exact ⟨a,vs,e,n,k a _ r,z,l.same k⟩
 | dtt ks xs => obtain ⟨a,vs,e,n,r,z,l⟩ := h; exact ⟨a,vs,e,n,k a _ r,z,l.same k⟩
 | _ => exact h
end
abbrev Env := List (Option D)
structure Cn where
 cA : Kn
 pin : Nat -> Option (Addr ⊕ V)
def AV (av : Addr -> Prop) (A : Nat -> Option Addr) (a : Addr) : Prop := av a \/ ∃ i,A i = some a
def Own (cA : Kn) (av : Addr -> Prop) (H : Hp) : D -> Addr -> Prop
 | .lst xs,a => ∃ vs,H a = some (.lst vs) /\ RepL cA av H xs vs
 | .obj c ks xs,a => ∃ dx vs,H a = some (.ins (cA.c c) dx ((ks.map Str.ofString).zip vs)) /\ ks.length = xs.length /\ RepL cA av H xs vs
 | .dct ks xs,a => ∃ vs,H a = some (.dK (ks.zip vs)) /\ ks.length = xs.length /\ RepL cA av H xs vs
 | .dtt ks xs,a => ∃ vs,H a = some (.dT (ks.zip vs)) /\ ks.length = xs.length /\ RepL cA av H xs vs
 | _,_ => False
structure ER (G : Cn) (ow : List Nat) (H0 : Hp) (av : Addr -> Prop) (A : Nat -> Option Addr) (σ : St) (H : Hp) (δ : Env) : Prop where
 same : Same H0 H
 avd : ∀ a,av a -> H0 a ≠ none
 fr : ∀ i a,A i = some a -> H0 a = none
 inj : ∀ i j a,A i = some a -> A j = some a -> i = j
 live : ∀ i a,A i = some a -> H a ≠ none
 dom : ∀ i,A i ≠ none -> i ∈ ow
 dom' : ∀ i ∈ ow,A i ≠ none
 len : σ.length = δ.length
 pin : ∀ i a,G.2 i = some (.inl a) -> A i = some a
 kept : ∀ i v,G.2 i = some (.inr v) -> σ[i]? = some (some v)
 var : ∀ (i : Nat) (d : D),δ[i]? = some (some d) -> ∃ v,σ[i]? = some (some v) /\ (A i = none -> Rep G.1 (AV av A) H d v) /\ (∀ a,A i = some a -> v = .ref a /\ Own G.1 (AV av A) H d a)
inductive Ql where
 | cl | tp | dt
def RepQ (cA : Kn) (av : Addr -> Prop) (A : Nat -> Option Addr) (H : Hp) : Ql -> D -> V -> Prop
 | .cl,d,v => RepT cA (AV av A) (AV av A) H d v
 | .tp,d,v => RepT cA av (AV av A) H d v
 | .dt,d,v => RepT cA av av H d v
def Ql.it : Ql -> Ql
 | .dt => .dt
 | _ => .cl
section
variable {cA : Kn} {G : Cn} {ow : List Nat} {H0 H H' : Hp} {av : Addr -> Prop} {A : Nat -> Option Addr} {σ : St} {δ : Env}
theorem AV.l {a : Addr} (h : av a) : AV av A a := .inl h
def Ql.iv (q : Ql) (av : Addr -> Prop) (A : Nat -> Option Addr) : Addr -> Prop := match q with
 | .dt => av
 | _ => AV av A
theorem RepQ.tp {q : Ql} {d : D} {v : V} (h : RepQ cA av A H q d v) : RepT cA av (q.iv av A) H d v := by
 cases q with
 | cl => exact h.weak (fun a => .inl) fun a z => z
 | tp => exact h
 | dt => exact h
theorem RepQ.any {q : Ql} {d : D} {v : V} (h : RepQ cA av A H q d v) : Rep cA av H d v := by
 cases q with
 | cl => exact (h.weak (fun a => .inl) fun a => .inl).r
 | tp => exact (h.weak (fun a z => z) fun a => .inl).r
 | dt => exact h.r
theorem RepQ.same {q : Ql} {d : D} {v : V} (k : Same H H') (h : RepQ cA av A H q d v) : RepQ cA av A H' q d v := by
 cases q <;> exact RepT.same k h
theorem ER.mono (E : ER G ow H0 av A σ H δ) (k : Same H H') : ER G ow H0 av A σ H' δ := by
 refine ⟨E.same.trans k,E.avd,E.fr,E.inj,fun i a e => ?_,E.dom,E.dom',E.len,E.pin,E.kept,fun i d e => ?_⟩
 · have := E.live i a e
   cases q : H a with
   | none => exact absurd q this
   | some o => rw [k a o q]; exact fun z => by cases z
 · obtain ⟨v,h1,h2,h3⟩ := E.var i d e
   refine ⟨v,h1,fun z => (h2 z).same k,fun a z => ⟨(h3 a z).1,?_⟩⟩;have := (h3 a z).2;cases d with
   | lst xs => obtain ⟨vs,q1,q2⟩ := this; exact ⟨vs,k _ _ q1,q2.same k⟩
   | obj c ks xs => obtain ⟨dx,vs,q1,q0,q2⟩ := this; exact ⟨dx,vs,k _ _ q1,q0,q2.same k⟩
   | dct ks xs => obtain ⟨vs,q1,q0,q2⟩ := this; exact ⟨vs,k _ _ q1,q0,q2.same k⟩
   | dtt ks xs => obtain ⟨vs,q1,q0,q2⟩ := this; exact ⟨vs,k _ _ q1,q0,q2.same k⟩
   | _ => exact this
theorem ER.avl (E : ER G ow H0 av A σ H δ) : ∀ a,AV av A a -> H a ≠ none := fun a h => by
 rcases h with h | ⟨i,h⟩
 · have := E.avd a h
   cases q : H0 a with
   | none => exact absurd q this
   | some o => rw [E.same a o q]; exact fun z => by cases z
 · exact E.live i a h
theorem ER.avH (E : ER G ow H0 av A σ H δ) : ∀ a,av a -> H a ≠ none := fun a h => E.avl a (.inl h)
end
def VE (G : Cn) (ow : List Nat) (te : TE) (q : Ql) (ε : Env -> Option D) : Prop :=
 ∀ H0 av A σ H δ,ER G ow H0 av A σ H δ -> ∀ d,ε δ = some d -> ∀ Q : VK,(∀ v H',Same H H' -> RepQ G.1 av A H' q d v -> Q v H') -> te σ H Q
def VF (G : Cn) (ow : List Nat) (te : TE) (ε : Env -> Option D) : Prop :=
 ∀ H0 av A σ H δ,ER G ow H0 av A σ H δ -> ∀ d,ε δ = some d -> ∀ Q : VK,(∀ p vs xs H1,Same H H1 -> H1 p = none -> RepL G.1 (AV av A) H1 xs vs -> d = .lst xs -> Q (.ref p) (upd H1 p (.lst vs))) -> te σ H Q
def VT (G : Cn) (ow : List Nat) (tt : TT) (τ : Env -> Option Bool) : Prop :=
 ∀ H0 av A σ H δ,ER G ow H0 av A σ H δ -> ∀ b,τ δ = some b -> ∀ Q : Bool -> Hp -> Prop,(∀ H',Same H H' -> Q b H') -> tt σ H Q
def RepQL (cA : Kn) (av : Addr -> Prop) (A : Nat -> Option Addr) (H : Hp) (q : Ql) : List D -> List V -> Prop
 | [],vs => vs = []
 | x :: xs,vs => ∃ v r,vs = v :: r /\ RepQ cA av A H q x v /\ RepQL cA av A H q xs r
def VA (G : Cn) (ow : List Nat) (ta : TA) (q : Ql) (α : Env -> Option (List D)) : Prop :=
 ∀ H0 av A σ H δ,ER G ow H0 av A σ H δ -> ∀ ds,α δ = some ds -> ∀ Q : List V -> Hp -> Prop,(∀ vs H',Same H H' -> RepQL G.1 av A H' q ds vs -> Q vs H') -> ta σ H Q
section
variable {cA : Kn} {G : Cn} {ow : List Nat}
theorem RepQL.same {av : Addr -> Prop} {A : Nat -> Option Addr} {H H' : Hp} {q : Ql} (k : Same H H') : ∀ {xs : List D} {vs : List V},RepQL cA av A H q xs vs -> RepQL cA av A H' q xs vs
 | [],_,h => h
 | x :: xs,vs,h => by
  obtain ⟨v,r,e,h1,h2⟩ := h;exact ⟨v,r,e,h1.same k,RepQL.same k h2⟩
theorem RepQL.cl {av : Addr -> Prop} {A : Nat -> Option Addr} {H : Hp} : ∀ {xs : List D} {vs : List V},RepQL cA av A H .cl xs vs -> RepL cA (AV av A) H xs vs
 | [],_,h => by unfold RepL; exact h
 | x :: xs,vs,h => by
  obtain ⟨v,r,e,h1,h2⟩ := h;subst e;exact .cons (RepT.r h1) (RepQL.cl h2)
theorem RepQL.any {av : Addr -> Prop} {A : Nat -> Option Addr} {H : Hp} {q : Ql} : ∀ {xs : List D} {vs : List V},RepQL cA av A H q xs vs -> RepL cA av H xs vs
 | [],_,h => by unfold RepL; exact h
 | x :: xs,vs,h => by
  obtain ⟨v,r,e,h1,h2⟩ := h;subst e;exact .cons h1.any (RepQL.any h2)
theorem VE.dt {te : TE} {q : Ql} {ε : Env -> Option D} (h : VE G ow te q ε) : VE G ow te .dt ε := fun H0 av A σ H δ E d e Q k =>
 h H0 av A σ H δ E d e Q fun v H' s r => k v H' s r.any.t
theorem Yc {H : Hp} {p : Addr} {o : HO} (h : H p = none) : Same H (upd H p o) := ZeK h
theorem VF.cl {te : TE} {ε : Env -> Option D} (h : VF G ow te ε) : VE G ow te .cl ε := fun H0 av A σ H δ E d e Q k =>
 h H0 av A σ H δ E d e Q fun p vs xs H1 s hp l hd => by
  subst hd;refine k _ _ (s.trans (Yc hp)) ⟨p,vs,rfl,fun z => ((E.mono s).avl p z hp).elim,SqL.of ZM,l.same (Yc hp)⟩
def YV (ε : Env -> Option D) (δ : Env) : Option D := match ε δ with
 | some d => if Zy d then some d else none
 | none => none
theorem VE.scal {te : TE} {q : Ql} {ε : Env -> Option D} (h : VE G ow te q ε) : VE G ow te .cl (YV ε) := fun H0 av A σ H δ E d e Q k => by
 unfold YV at e;cases he : ε δ with
 | none => rw [he] at e; cases e
 | some d' =>
  rw [he] at e
  by_cases hs : Zy d' = true
  · have e' : d' = d := by simpa [hs] using e
    subst e';exact h H0 av A σ H δ E d' he Q fun v H' s r => k v H' s (Rep.scal hs r.any).t
  · simp [hs] at e
def Za (i : Nat) (δ : Env) : Option D := match δ[i]? with
 | some (some d) => some d
 | _ => none
theorem YL {i : Nat} {δ : Env} {d : D} (h : Za i δ = some d) : δ[i]? = some (some d) := by
 unfold Za at h;cases e : δ[i]? with
 | none => rw [e] at h; cases h
 | some o =>
  rw [e] at h;cases o with
  | none => cases h
  | some x => exact congrArg (some ∘ some) (Option.some.inj h)
theorem Zc (i : Nat) (hi : (ow.contains i) = false) : VE G ow (YO i) .cl (Za i) := fun H0 av A σ H δ E d e Q k => by
 obtain ⟨v,h1,h2,_⟩ := E.var i d (YL e)
 have hn : A i = none := by
  cases q : A i with
  | none => rfl
  | some a =>
   have := E.dom i (by rw [q]; exact fun z => by cases z);simp at hi;exact absurd this hi
 exact ⟨v,h1,k v H (Same.refl H) (h2 hn).t⟩
theorem ZcX (i : Nat) (hi : (ow.contains i) = true) : VE G ow (YO i) .tp (Za i) := fun H0 av A σ H δ E d e Q k => by
 obtain ⟨v,h1,_,h3⟩ := E.var i d (YL e);have hi' : i ∈ ow := by simpa using hi
 cases q : A i with
 | none => exact absurd q (E.dom' i hi')
 | some a =>
  obtain ⟨rfl,o⟩ := h3 a q;have na : ¬ av a := fun z => E.avd a z (E.fr i a q)
  refine ⟨_,h1,k _ H (Same.refl H) ?_⟩;cases d with
  | lst xs => obtain ⟨vs,q1,q2⟩ := o; exact ⟨a,vs,rfl,fun z => (na z).elim,SqL.of q1,q2⟩
  | obj c ks xs => obtain ⟨dx,vs,q1,q0,q2⟩ := o; exact ⟨a,dx,vs,rfl,na,q1,q0,q2⟩
  | dct ks xs => obtain ⟨vs,q1,q0,q2⟩ := o; exact ⟨a,vs,rfl,na,q1,q0,q2⟩
  | dtt ks xs => obtain ⟨vs,q1,q0,q2⟩ := o; exact ⟨a,vs,rfl,na,q1,q0,q2⟩
  | _ => exact False.elim o
def eC (d : D) (_ : Env) : Option D := some d
theorem Zm {v : V} {d : D} (hs : Zy d = true) (hv : v = val d) : VE G ow (tC v) .cl (eC d) := fun H0 av A σ H δ E d' e Q k => by
 have e' : d = d' := Option.some.inj e;subst e' hv;exact k _ H (Same.refl H) (Rep.of_val hs).t
def YZ (cA : Kn) (r : R2) (f : D -> D -> Option D) : Prop :=
 ∀ (t t' i : Addr -> Prop) (H : Hp) (x y : D) (vx vy : V) (d : D),(∀ a,i a -> H a ≠ none) -> RepT cA t i H x vx -> RepT cA t' i H y vy -> f x y = some d -> ∀ Q : VK,(∀ v H',Same H H' -> Rep cA i H' d v -> Q v H') -> r vx vy H Q
def eOp (f : D -> D -> Option D) (a b : Env -> Option D) (δ : Env) : Option D := match a δ with
 | some x => match b δ with
  | some y => f x y
  | none => none
 | none => none
theorem ZaL {f : D -> D -> Option D} {a b : Env -> Option D} {δ : Env} {d : D} (h : eOp f a b δ = some d) : ∃ x y,a δ = some x /\ b δ = some y /\ f x y = some d := by
 unfold eOp at h;cases ea : a δ with
 | none => rw [ea] at h; cases h
 | some x =>
  rw [ea] at h;cases eb : b δ with
  | none => rw [eb] at h; cases h
  | some y => rw [eb] at h; exact ⟨x,y,rfl,rfl,h⟩
def Ql.jn : Ql -> Ql -> Ql
 | .dt,_ => .dt
 | _,.dt => .dt
 | _,_ => .cl
theorem Zg {r : R2} {f : D -> D -> Option D} {ta tb : TE} {qa qb : Ql} {a b : Env -> Option D} (hr : YZ G.1 r f) (ha : VE G ow ta qa a) (hb : VE G ow tb qb b) : VE G ow (tOp r ta tb) (qa.jn qb) (eOp f a b) := fun H0 av A σ H δ E d e Q k => by
 obtain ⟨x,y,ex,ey,ed⟩ := ZaL e;refine ha H0 av A σ H δ E x ex _ fun vx H1 s1 r1 => hb H0 av A σ H1 δ (E.mono s1) y ey _ fun vy H2 s2 r2 => ?_
 have E2 := (E.mono s1).mono s2;have r1' := (r1.same s2).tp;have r2' := r2.tp;have key : ∀ i : Addr -> Prop,(∀ a,i a -> H2 a ≠ none) -> RepT G.1 av i H2 x vx -> RepT G.1 av i H2 y vy -> (∀ v H',Same H2 H' -> Rep G.1 i H' d v -> Q v H') -> r vx vy H2 Q := fun i hi h1 h2 h3 => hr av av i H2 x y vx vy d hi h1 h2 ed Q h3
 have toav : ∀ {dd : D} {v : V},RepT G.1 av (AV av A) H2 dd v -> RepT G.1 av av H2 dd v := fun h => h.weak (fun a z => z) fun a => .inl
 cases qa with
 | dt =>
  refine key av E2.avH r1' ?_ fun v H' s3 r3 => k v H' ((s1.trans s2).trans s3) r3.t
  cases qb with
  | dt => exact r2'
  | cl => exact toav r2'
  | tp => exact toav r2'
 | cl =>
  cases qb with
  | dt => exact key av E2.avH (toav r1') r2' fun v H' s3 r3 => k v H' ((s1.trans s2).trans s3) r3.t
  | cl => exact key _ E2.avl r1' r2' fun v H' s3 r3 => k v H' ((s1.trans s2).trans s3) r3.t
  | tp => exact key _ E2.avl r1' r2' fun v H' s3 r3 => k v H' ((s1.trans s2).trans s3) r3.t
 | tp =>
  cases qb with
  | dt => exact key av E2.avH (toav r1') r2' fun v H' s3 r3 => k v H' ((s1.trans s2).trans s3) r3.t
  | cl => exact key _ E2.avl r1' r2' fun v H' s3 r3 => k v H' ((s1.trans s2).trans s3) r3.t
  | tp => exact key _ E2.avl r1' r2' fun v H' s3 r3 => k v H' ((s1.trans s2).trans s3) r3.t
end
end DL
namespace DL
open PySem PySem.Spec L2
mutual
def toP : D -> PyData
 | .non => .none
 | .bl b => .bool b
 | .int i => .int i
 | .str cs => .str (tx cs)
 | .lst xs => .list (Uo xs)
 | .tup xs => .tuple (Uo xs)
 | .obj _ _ _ => .dict []
 | .dct _ _ => .dict []
 | .dtt _ _ => .dict []
def Uo : List D -> List PyData
 | [] => []
 | x :: xs => toP x :: Uo xs
end
section
variable {X : Cx} {cA : Kn}
mutual
theorem Qy {pins : List (Addr × Obj)} {σ : L2.St} {H : Hp} {s : Shared} {av : Addr -> Prop} (hK : cA.K = X.K) (I : Inv X pins σ H s) : ∀ (d : D) (v : V) (u : Value),PyData.canLay0 (toP d) = true -> Rep cA av H d v -> RelV v u -> ∃ as,Reads s.heap u (toP d) as
 | .non,v,u,_,h,r => by
  cases (show v = .non from h); cases r;exact ⟨_,.none⟩
 | .bl b,v,u,_,h,r => by
  cases (show v = .bl b from h); cases r;exact ⟨_,.bool b⟩
 | .int i,v,u,_,h,r => by
  cases (show v = .int i from h);obtain ⟨t,rfl⟩ := r;exact ⟨_,.int i t⟩
 | .str cs,v,u,_,h,r => by
  cases (show v = S cs from h);obtain ⟨t,rfl⟩ := r;exact ⟨_,.str _ t⟩
 | .lst xs,v,u,c,h,r => by
  unfold Rep at h;obtain ⟨a,vs,rfl,_,rd,l⟩ := h;cases r;obtain ⟨its,rv,⟨ob,n,e,hc,hd,hs⟩,z⟩ := I.list (show SqL X.K H a vs from hK ▸ rd);obtain ⟨as,ra⟩ := Zao hK I xs vs its (by unfold toP PyData.canLay0 at c; exact c) l rv;unfold toP;exact ⟨_,.list e hc hs (by simpa using ra)⟩
 | .tup xs,v,u,c,h,r => by
  unfold Rep at h;obtain ⟨a,vs,rfl,_,rd,l⟩ := h;cases r;obtain ⟨z,its,rv,ob,e,hc,⟨n,hd⟩,_⟩ := (show ObjOk X.prog X.w H s.heap a (.tup vs) from I.hok a _ rd)
  obtain ⟨as,ra⟩ := Zao hK I xs vs its (by unfold toP PyData.canLay0 at c; exact c) l rv;unfold toP;exact ⟨_,.tuple e hc hd (by simpa using ra)⟩
 | .obj c' ks xs,v,u,c,h,r => by
  unfold toP PyData.canLay0 at c;cases c
 | .dct ks xs,v,u,c,h,r => by
  unfold toP PyData.canLay0 at c;cases c
 | .dtt ks xs,v,u,c,h,r => by
  unfold toP PyData.canLay0 at c;cases c
theorem Zao {pins : List (Addr × Obj)} {σ : L2.St} {H : Hp} {s : Shared} {av : Addr -> Prop} (hK : cA.K = X.K) (I : Inv X pins σ H s) : ∀ (xs : List D) (vs : List V) (us : List Value),PyData.canLayAll0 (Uo xs) = true -> RepL cA av H xs vs -> Vals vs us -> ∃ as,ReadsAll s.heap us (Uo xs) as
 | [],vs,us,_,h,r => by
  rw [h.nil_of] at r;cases r;exact ⟨_,.nil⟩
 | x :: xs,vs,us,c,h,r => by
  obtain ⟨v,rr,rfl,h1,h2⟩ := h.uncons;cases r with
  | cons r1 r2 =>
   unfold Uo PyData.canLayAll0 at c;rw [Bool.and_eq_true] at c;obtain ⟨a1,q1⟩ := Qy hK I x v _ c.1 h1 r1;obtain ⟨a2,q2⟩ := Zao hK I xs rr _ c.2 h2 r2;unfold Uo;exact ⟨_,.cons q1 q2⟩
end
end
def eqD (x y : D) : Option D :=
 if Zy x && Zy y && scal (val x) (val y) then some (.bl (decide (val x = val y)))
 else if SeqAt.shaped (toP x) && SeqAt.shaped (toP y) then some (.bl (PyData.eqv (toP x) (toP y))) else none
def neD (x y : D) : Option D := match eqD x y with
 | some (.bl b) => some (.bl (!b))
 | _ => none
def Ja (cA : Kn) (neg : Bool) : R2 := fun x y H Q => ∃ av av' dx dy b,Rep cA av H dx x /\ Rep cA av' H dy y /\ eqD dx dy = some (.bl b) /\ Q (.bl (neg != b)) H
section
variable {X : Cx} {cA : Kn}
theorem Qz (hu : X.A.units + 64 < cLine) (hK : cA.K = X.K := by rfl) : OpR X (compareOp .Eq) (Ja cA false) := by
 intro pins s σ H x y v u Q I rx ry h;obtain ⟨av,av',dx,dy,b,hx,hy,e,q⟩ := h;unfold eqD at e
 by_cases h1 : (Zy dx && Zy dy && scal (val dx) (val dy)) = true
 · rw [if_pos h1] at e
   simp only [Bool.and_eq_true] at h1;obtain ⟨⟨s1,s2⟩,s3⟩ := h1;have e1 := hx.val s1;have e2 := hy.val s2;subst e1 e2;have e' : decide (val dx = val dy) = b := by simpa using e
   exact ZiZ pins s σ H _ _ v u Q I rx ry ⟨s3,by rw [e']; simpa using q⟩
 · rw [if_neg h1] at e
   by_cases h2 : (SeqAt.shaped (toP dx) && SeqAt.shaped (toP dy)) = true
   · rw [if_pos h2] at e
     rw [Bool.and_eq_true] at h2;obtain ⟨as,ra⟩ := Qy hK I dx x v (SeqAt.canLay_of_shaped h2.1) hx rx;obtain ⟨bs,rb⟩ := Qy hK I dy y u (SeqAt.canLay_of_shaped h2.2) hy ry;have e' : PyData.eqv (toP dx) (toP dy) = b := by simpa using e
     exact PyProof.Rows.eq_dataH ra rb h2.1 h2.2 hu (by rw [e']; exact ⟨.bl b,H,I,rfl,by simpa using q⟩)
   · rw [if_neg h2] at e
     cases e
theorem ZcY (hu : X.A.units + 64 < cLine) (hK : cA.K = X.K := by rfl) : OpR X (compareOp .NotEq) (Ja cA true) := by
 intro pins s σ H x y v u Q I rx ry h;obtain ⟨av,av',dx,dy,b,hx,hy,e,q⟩ := h;unfold eqD at e
 by_cases h1 : (Zy dx && Zy dy && scal (val dx) (val dy)) = true
 · rw [if_pos h1] at e
   simp only [Bool.and_eq_true] at h1;obtain ⟨⟨s1,s2⟩,s3⟩ := h1;have e1 := hx.val s1;have e2 := hy.val s2;subst e1 e2;have e' : decide (val dx = val dy) = b := by simpa using e
   exact Zi0 pins s σ H _ _ v u Q I rx ry ⟨s3,by rw [e']; simpa using q⟩
 · rw [if_neg h1] at e
   by_cases h2 : (SeqAt.shaped (toP dx) && SeqAt.shaped (toP dy)) = true
   · rw [if_pos h2] at e
     rw [Bool.and_eq_true] at h2;obtain ⟨as,ra⟩ := Qy hK I dx x v (SeqAt.canLay_of_shaped h2.1) hx rx;obtain ⟨bs,rb⟩ := Qy hK I dy y u (SeqAt.canLay_of_shaped h2.2) hy ry;have e' : PyData.eqv (toP dx) (toP dy) = b := by simpa using e
     exact PyProof.Rows.ne_dataH ra rb h2.1 h2.2 hu (by rw [e']; exact ⟨.bl (!b),H,I,rfl,by simpa using q⟩)
   · rw [if_neg h2] at e
     cases e
theorem RepT.av0 {t i : Addr -> Prop} {H : Hp} {d : D} {v : V} (h : RepT cA t i H d v) : Rep cA (fun _ => False) H d v := (h.weak (fun _ z => z.elim) fun _ z => z.elim).r
theorem Zfj {x y d : D} (h : eqD x y = some d) : ∃ b,d = .bl b := by
 unfold eqD at h
 split at h
 · exact ⟨_,(Option.some.inj h).symm⟩
 · split at h
   · exact ⟨_,(Option.some.inj h).symm⟩
   · cases h
theorem QA : YZ cA (Ja cA false) eqD := fun t t' i H x y vx vy d _ hx hy e Q k => by
 obtain ⟨b,rfl⟩ := Zfj e;exact ⟨_,_,x,y,b,hx.av0,hy.av0,e,k _ H (Same.refl H) (by cases b <;> rfl)⟩
theorem ZfS : YZ cA (Ja cA true) neD := fun t t' i H x y vx vy d _ hx hy e Q k => by
 unfold neD at e;cases he : eqD x y with
 | none => rw [he] at e; cases e
 | some z =>
  obtain ⟨b,rfl⟩ := Zfj he;rw [he] at e;have e' : D.bl (!b) = d := Option.some.inj e;subst e';exact ⟨_,_,x,y,b,hx.av0,hy.av0,he,k _ H (Same.refl H) (by cases b <;> rfl)⟩
def US (x : List Nat) (n : Int) : List Nat := (List.replicate n.toNat x).flatten
theorem Zbc (x : List Nat) : ∀ (k : Nat) (acc : Array Nat),(List.replicate k x.toArray).foldl (· ++ ·) acc = acc ++ (List.replicate k x).flatten.toArray
 | 0,acc => by simp
 | k + 1,acc => by
  rw [List.replicate_succ,List.replicate_succ,List.foldl_cons,Zbc x k,List.flatten_cons];simp
theorem Zh0 (x : List Nat) (n : Int) : Txt.mul (tx x) n = tx (US x n) := by
 unfold Txt.mul US
 by_cases h1 : n < 1
 · rw [if_pos h1]
   have : n.toNat = 0 := by omega
   rw [this];rfl
 · rw [if_neg h1]
   by_cases h2 : (n == 1 || (tx x).length == 0) = true
   · rw [if_pos h2]
     rw [Bool.or_eq_true] at h2;rcases h2 with h2 | h2
     · have : n = 1 := by simpa using h2
       subst this;simp
     · have : x = [] := by
        have : (tx x).length = 0 := by simpa using h2
        rw [Xr] at this;exact List.eq_nil_of_length_eq_zero this
       subst this;simp
   · rw [if_neg h2]
     have := Zbc x n.toNat #[];rw [this];simp
def rMulS : R2 := fun x y H Q => ∃ a n,x = S a /\ y = .int n /\ (n < 2 ^ 63 /\ -(2 ^ 63) <= n /\ a.length * n.toNat <= sizeLine) /\ Q (S (US a n)) H
theorem op_mulS : OpR X (binaryOp .Mult) rMulS := by
 intro pins s σ H x y v u Q I rx ry h;obtain ⟨a,n,rfl,rfl,⟨h1,h2,h3⟩,q⟩ := h;obtain ⟨t,rfl⟩ := rx;obtain ⟨t',rfl⟩ := ry;refine SB.mul ⟨?_,fun hn hc => ?_,fun hn hc => ?_⟩ fun t' k => ⟨S (US a n),H,I.tok _,⟨_,by rw [Zh0]⟩,q⟩
 · have e1 : decide (n < -(2 ^ 63 : Int)) = false := decide_eq_false (by omega)
   have e2 : decide (n ≥ 2 ^ 63) = false := decide_eq_false (by omega);rw [e1,e2]; rfl
 · rw [Xr]
   have hs : sizeLine = 16777216 := sizeLine_eq;intro hgt
   have h5 : (a.length : Int) * n <= 16777216 := by
    have : (a.length : Int) * n = ((a.length * n.toNat : Nat) : Int) := by
     rw [Int.natCast_mul,Int.toNat_of_nonneg (by omega)]
    rw [this]; omega
   have h6 : (2 ^ 63 - 1) / n < (a.length : Int) := hgt
   have h7 : (2 ^ 63 - 1 : Int) < (a.length : Int) * n := by
    have := Int.lt_mul_of_ediv_lt (show (0 : Int) < n by omega) h6;rw [Int.mul_comm]; rw [Int.mul_comm] at this; exact this
   omega
 · rw [Xr]
   show decide (a.length * n.toNat > sizeLine) = false;exact decide_eq_false (by omega)
instance (i j : Int) : Decidable (CMul i j) := by unfold CMul; infer_instance
instance (i j : Int) : Decidable (Qq i j) := by unfold Qq; infer_instance
def addD : D -> D -> Option D
 | .int i,.int j => some (.int (i + j))
 | .str a,.str b => if a.length + b.length <= sizeLine then some (.str (a ++ b)) else none
 | _,_ => none
def subD : D -> D -> Option D
 | .int i,.int j => some (.int (i - j))
 | _,_ => none
def ZkA : D -> D -> Option D
 | .int i,.int j => if CMul i j then some (.int (i * j)) else none
 | .str a,.int n => if n < 2 ^ 63 /\ -(2 ^ 63) <= n /\ a.length * n.toNat <= sizeLine then some (.str (US a n)) else none
 | _,_ => none
def Zhi : D -> D -> Option D
 | .int i,.int j => if Qq i j then some (.int (i / j)) else none
 | _,_ => none
def ZkB : D -> D -> Option D
 | .int i,.int j => if 0 < j then some (.int (i % j)) else none
 | _,_ => none
def Yg (p : Int -> Int -> Bool) : D -> D -> Option D
 | .int i,.int j => some (.bl (p i j))
 | _,_ => none
theorem Zh1 : YZ cA Zi7 addD := fun t t' i H x y vx vy d _ hx hy e Q k => by
 cases x <;> cases y <;> first | (cases e; done) | skip
 · cases (show vx = _ from hx); cases (show vy = _ from hy)
   cases e;exact .inl ⟨_,_,rfl,rfl,k _ H (Same.refl H) rfl⟩
 · cases (show vx = _ from hx); cases (show vy = _ from hy)
   rename_i a b;dsimp only [addD] at e
   by_cases hz : a.length + b.length <= sizeLine
   · rw [if_pos hz] at e
     cases e;exact .inr (.inl ⟨_,_,rfl,rfl,hz,k _ H (Same.refl H) rfl⟩)
   · rw [if_neg hz] at e; cases e
theorem Xk : YZ cA (rI0 fun i j => .int (i - j)) subD := fun t t' i H x y vx vy d _ hx hy e Q k => by
 cases x <;> cases y <;> first | (cases e; done) | skip
 cases (show vx = _ from hx); cases (show vy = _ from hy);cases e;exact ⟨_,_,rfl,rfl,k _ H (Same.refl H) rfl⟩
theorem Vk {p : Int -> Int -> Bool} : YZ cA (rI0 fun i j => .bl (p i j)) (Yg p) := fun t t' i H x y vx vy d _ hx hy e Q k => by
 cases x <;> cases y <;> first | (cases e; done) | skip
 cases (show vx = _ from hx); cases (show vy = _ from hy);cases e;exact ⟨_,_,rfl,rfl,k _ H (Same.refl H) rfl⟩
def inD (neg : Bool) : D -> D -> Option D
 | .str [c],.str b => some (.bl (neg != decide (c ∈ b)))
 | x,.lst ys => if Zy x && ys.all Zy then some (.bl (if neg then !(inV (val x) (ys.map val)) else inV (val x) (ys.map val))) else none
 | x,.tup ys => if Zy x && ys.all Zy then some (.bl (if neg then !(inV (val x) (ys.map val)) else inV (val x) (ys.map val))) else none
 | _,_ => none
theorem ZaM {d : D} : Zy d = true -> XV (val d) = true := by
 intro h;cases d <;> first | rfl | cases h
theorem Zap : ∀ {xs : List D},xs.all Zy = true -> (xs.map val).all XV = true
 | [],_ => rfl
 | x :: xs,h => by
  rw [List.all_cons,Bool.and_eq_true] at h;rw [List.map_cons,List.all_cons,ZaM h.1,Zap h.2];rfl
theorem Zgh {t i : Addr -> Prop} {H : Hp} {d : D} {v : V} (hs : Zy d = true) (h : RepT cA t i H d v) : v = val d := by
 cases d <;> first | exact h | cases hs
theorem ZfT {neg : Bool} : YZ cA (UR cA.K neg) (inD neg) := fun t t' i H x y vx vy d _ hx hy e Q k => by
 have seq : ∀ ys,(y = .lst ys \/ y = .tup ys) -> (if Zy x && ys.all Zy then some (D.bl (if neg then !(inV (val x) (ys.map val)) else inV (val x) (ys.map val))) else none) = some d -> UR cA.K neg vx vy H Q := fun ys hy' e => by
  by_cases hz : (Zy x && ys.all Zy) = true
  · rw [if_pos hz] at e
    rw [Bool.and_eq_true] at hz;have ex := Zgh hz.1 hx;subst ex;cases e;rcases hy' with rfl | rfl
    · obtain ⟨a,vs,rfl,_,rd,l⟩ := hy
      have ev := l.vals hz.2;subst ev;exact .inr ⟨a,_,rfl,.inl rd,ZaM hz.1,Zap hz.2,k _ H (Same.refl H) rfl⟩
    · obtain ⟨a,vs,rfl,_,rd,l⟩ := hy
      have ev := l.vals hz.2;subst ev;exact .inr ⟨a,_,rfl,.inr (SqT.of rd),ZaM hz.1,Zap hz.2,k _ H (Same.refl H) rfl⟩
  · rw [if_neg hz] at e; cases e
 cases y with
 | lst ys => exact seq ys (.inl rfl) (by cases x <;> first | exact e | (rename_i cs; cases cs <;> first | exact e | (rename_i c r; cases r <;> exact e)))
 | tup ys => exact seq ys (.inr rfl) (by cases x <;> first | exact e | (rename_i cs; cases cs <;> first | exact e | (rename_i c r; cases r <;> exact e)))
 | str b =>
  cases x with
  | str cs =>
   cases cs with
   | nil => cases e
   | cons c r =>
    cases r with
    | cons _ _ => cases e
    | nil =>
     cases (show vx = _ from hx); cases (show vy = _ from hy);cases e;exact .inl ⟨c,b,rfl,rfl,k _ H (Same.refl H) rfl⟩
  | _ => cases e
 | _ => cases x <;> first | (cases e; done) | (rename_i cs; cases cs <;> first | (cases e; done) | (rename_i c r; cases r <;> cases e))
def ixD : D -> D -> Option D
 | .lst xs,.int i => atI xs i
 | .tup xs,.int i => atI xs i
 | .str cs,.int i => if cs.length <= sizeLine then (atI cs i).map fun c => .str [c] else none
 | _,_ => none
theorem Zdk {av : Addr -> Prop} {H : Hp} {xs : List D} {vs : List V} {i : Int} {d : D} (l : RepL cA av H xs vs) (h : atI xs i = some d) : ∃ v,atI vs i = some v /\ Rep cA av H d v := by
 unfold atI at h ⊢;rw [l.length] at h;cases e : ixN vs.length i with
 | none => rw [e] at h; cases h
 | some j =>
  rw [e] at h;exact l.get h
theorem Zz : YZ cA (Q8 cA.K) ixD := fun t t' i H x y vx vy d _ hx hy e Q k => by
 cases y <;> first | (cases x <;> cases e; done) | skip
 rename_i j;cases (show vy = _ from hy);cases x <;> first | (cases e; done) | skip
 · cases (show vx = _ from hx)
   rename_i cs;dsimp only [ixD] at e
   by_cases hz : cs.length <= sizeLine
   · rw [if_pos hz] at e
     cases ea : atI cs j with
     | none => rw [ea] at e; cases e
     | some c =>
      rw [ea] at e;cases e;exact .inr (.inr ⟨cs,j,c,rfl,rfl,hz,ea,k _ H (Same.refl H) rfl⟩)
   · rw [if_neg hz] at e; cases e
 · obtain ⟨a,vs,rfl,_,rd,l⟩ := hx
   obtain ⟨v,h1,h2⟩ := Zdk l e;exact .inl ⟨a,vs,j,v,rfl,rfl,rd,h1,k v H (Same.refl H) h2⟩
 · obtain ⟨a,vs,rfl,_,rd,l⟩ := hx
   obtain ⟨v,h1,h2⟩ := Zdk l e;exact .inr (.inl ⟨a,vs,j,v,rfl,rfl,SqT.of rd,h1,k v H (Same.refl H) h2⟩)
end
end DL
namespace DL
open PySem PySem.Spec L2
section
variable {cA : Kn} {G : Cn} {ow : List Nat}
def bD : Option D -> Option Bool
 | some (.bl b) => some b
 | _ => none
theorem Zdl {o : Option D} {b : Bool} (h : bD o = some b) : o = some (.bl b) := by
 cases o with
 | none => cases h
 | some d => cases d <;> first | (cases h; rfl) | cases h
def xB (ε : Env -> Option D) (δ : Env) : Option Bool := bD (ε δ)
theorem Yx {te : TE} {q : Ql} {ε : Env -> Option D} (h : VE G ow te q ε) : VT G ow (tB te) (xB ε) := fun H0 av A σ H δ E b e Q k =>
 h H0 av A σ H δ E _ (Zdl e) _ fun v H' s r => ⟨b,by cases q <;> exact r,k H' s⟩
theorem YD {te : TE} {q : Ql} {ε : Env -> Option D} (h : VE G ow te q ε) : VT G ow (Zg9 te) (xB ε) := fun H0 av A σ H δ E b e Q k =>
 h H0 av A σ H δ E _ (Zdl e) _ fun v H' s r => ⟨b,by cases q <;> exact r,k H' s⟩
def Xl (τ : Env -> Option Bool) (δ : Env) : Option Bool := match τ δ with
 | some b => some (!b)
 | none => none
theorem Jb {t : TT} {τ : Env -> Option Bool} (h : VT G ow t τ) : VT G ow (Zkr t) (Xl τ) := fun H0 av A σ H δ E b e Q k => by
 unfold Xl at e;cases he : τ δ with
 | none => rw [he] at e; cases e
 | some c =>
  rw [he] at e;cases e;exact h H0 av A σ H δ E c he _ fun H' s => k H' s
def Xu (τ υ : Env -> Option Bool) (δ : Env) : Option Bool := match τ δ with
 | some true => υ δ
 | some false => some false
 | none => none
def xOr (τ υ : Env -> Option Bool) (δ : Env) : Option Bool := match τ δ with
 | some true => some true
 | some false => υ δ
 | none => none
theorem Zfk {t u : TT} {τ υ : Env -> Option Bool} (h : VT G ow t τ) (h' : VT G ow u υ) : VT G ow (Zkq t u) (Xu τ υ) := fun H0 av A σ H δ E b e Q k => by
 unfold Xu at e;cases he : τ δ with
 | none => rw [he] at e; cases e
 | some c =>
  rw [he] at e;refine h H0 av A σ H δ E c he _ fun H' s => ?_
  cases c with
  | true => exact Uk (h' H0 av A σ H' δ (E.mono s) b e _ fun H2 s2 => k H2 (s.trans s2))
  | false => cases e; exact Uj (k H' s)
theorem ZfU {t u : TT} {τ υ : Env -> Option Bool} (h : VT G ow t τ) (h' : VT G ow u υ) : VT G ow (tOr t u) (xOr τ υ) := fun H0 av A σ H δ E b e Q k => by
 unfold xOr at e;cases he : τ δ with
 | none => rw [he] at e; cases e
 | some c =>
  rw [he] at e;refine h H0 av A σ H δ E c he _ fun H' s => ?_
  cases c with
  | true => cases e; exact Uk (k H' s)
  | false => exact Uj (h' H0 av A σ H' δ (E.mono s) b e _ fun H2 s2 => k H2 (s.trans s2))
theorem QB : VT G ow tYes (fun _ => some true) := fun H0 av A σ H δ E b e Q k => by
 cases e;exact k H (Same.refl H)
theorem blq {av : Addr -> Prop} {A : Nat -> Option Addr} {H : Hp} {q : Ql} {b : Bool} : RepQ cA av A H q (.bl b) (.bl b) := by cases q <;> exact rfl
theorem qbl {av : Addr -> Prop} {A : Nat -> Option Addr} {H : Hp} {q : Ql} {b : Bool} {v : V} (h : RepQ cA av A H q (.bl b) v) : v = .bl b := by cases q <;> exact h
def Up (a b : Env -> Option D) (δ : Env) : Option D := match a δ with
 | some (.bl true) => b δ
 | some (.bl false) => some (.bl false)
 | _ => none
def eOr (a b : Env -> Option D) (δ : Env) : Option D := match a δ with
 | some (.bl true) => some (.bl true)
 | some (.bl false) => b δ
 | _ => none
def ZkC (a : Env -> Option D) (δ : Env) : Option D := match a δ with
 | some (.bl b) => some (.bl (!b))
 | _ => none
theorem Zh2 {ta tb : TE} {qa qb : Ql} {a b : Env -> Option D} (ha : VE G ow ta qa a) (hb : VE G ow tb qb b) : VE G ow (Zg6 ta tb) qb (Up a b) := fun H0 av A σ H δ E d e Q k => by
 unfold Up at e;cases he : a δ with
 | none => rw [he] at e; cases e
 | some x =>
  rw [he] at e;cases x <;> first | (cases e; done) | skip
  rename_i c;refine ha H0 av A σ H δ E _ he _ fun v H' s r => ⟨c,qbl r,?_⟩
  cases c with
  | true => exact Uk (hb H0 av A σ H' δ (E.mono s) d e _ fun v2 H2 s2 r2 => k v2 H2 (s.trans s2) r2)
  | false => cases e; exact Uj (k _ H' s blq)
def eIf (τ : Env -> Option Bool) (a b : Env -> Option D) (δ : Env) : Option D := match τ δ with
 | some true => a δ
 | some false => b δ
 | none => none
def Y4 : D -> Bool
 | .non => true
 | _ => false
theorem Zdm {av : Addr -> Prop} {H : Hp} {d : D} {v : V} (h : Rep cA av H d v) : decide (v = .non) = Y4 d := by
 cases d with
 | non => cases (show v = _ from h); rfl
 | bl b => cases (show v = _ from h); rfl
 | int i => cases (show v = _ from h); rfl
 | str cs => cases (show v = _ from h); rfl
 | lst xs => unfold Rep at h; obtain ⟨a,vs,rfl,_⟩ := h; rfl
 | tup xs => unfold Rep at h; obtain ⟨a,vs,rfl,_⟩ := h; rfl
 | obj c ks xs => unfold Rep at h; obtain ⟨a,dx,vs,rfl,_⟩ := h; rfl
 | dct ks xs => unfold Rep at h; obtain ⟨a,vs,rfl,_⟩ := h; rfl
 | dtt ks xs => unfold Rep at h; obtain ⟨a,vs,rfl,_⟩ := h; rfl
def Z2 (a : Env -> Option D) (δ : Env) : Option D := match a δ with
 | some d => some (.bl (Y4 d))
 | none => none
def YF (a : Env -> Option D) (δ : Env) : Option D := match a δ with
 | some d => some (.bl (!Y4 d))
 | none => none
theorem Vl {ta : TE} {qa : Ql} {a : Env -> Option D} (ha : VE G ow ta qa a) : VE G ow (J6 ta) .cl (Z2 a) := fun H0 av A σ H δ E d e Q k => by
 unfold Z2 at e;cases he : a δ with
 | none => rw [he] at e; cases e
 | some x =>
  rw [he] at e;cases e;refine ha H0 av A σ H δ E _ he _ fun v H' s r => ?_
  rw [Zdm r.any];exact k _ H' s blq
theorem Jc {ta : TE} {qa : Ql} {a : Env -> Option D} (ha : VE G ow ta qa a) : VE G ow (Zg5 ta) .cl (YF a) := fun H0 av A σ H δ E d e Q k => by
 unfold YF at e;cases he : a δ with
 | none => rw [he] at e; cases e
 | some x =>
  rw [he] at e;cases e;refine ha H0 av A σ H δ E _ he _ fun v H' s r => ?_
  rw [Zdm r.any];exact k _ H' s blq
def Zfl (f g : D -> D -> Option D) (a b c : Env -> Option D) (δ : Env) : Option D := match eOp f a b δ with
 | some (.bl true) => eOp g b c δ
 | some (.bl false) => some (.bl false)
 | _ => none
def YG : D -> Option D
 | .int i => some (.int (-i))
 | _ => none
def eUn (f : D -> Option D) (a : Env -> Option D) (δ : Env) : Option D := match a δ with
 | some x => f x
 | none => none
theorem Vm {ta : TE} {qa : Ql} {a : Env -> Option D} (ha : VE G ow ta qa a) : VE G ow (tUn (rU fun i => .int (-i)) ta) .cl (eUn YG a) := fun H0 av A σ H δ E d e Q k => by
 unfold eUn at e;cases he : a δ with
 | none => rw [he] at e; cases e
 | some x =>
  rw [he] at e;cases x <;> first | (cases e; done) | skip
  cases e;refine ha H0 av A σ H δ E _ he _ fun v H' s r => ?_
  have e1 := r.any;exact ⟨_,e1,k _ H' s rfl⟩
def eNil (_ : Env) : Option (List D) := some []
def Zb (a : Env -> Option D) (r : Env -> Option (List D)) (δ : Env) : Option (List D) := match a δ with
 | some x => match r δ with
  | some xs => some (x :: xs)
  | none => none
 | none => none
theorem Zi {q : Ql} : VA G ow tNil q eNil := fun H0 av A σ H δ E ds e Q k => by
 cases e;exact k [] H (Same.refl H) rfl
theorem Zd {te : TE} {ta : TA} {q : Ql} {a : Env -> Option D} {r : Env -> Option (List D)} (ha : VE G ow te q a) (hr : VA G ow ta q r) : VA G ow (YT te ta) q (Zb a r) := fun H0 av A σ H δ E ds e Q k => by
 unfold Zb at e;cases he : a δ with
 | none => rw [he] at e; cases e
 | some x =>
  rw [he] at e;cases hr' : r δ with
  | none => rw [hr'] at e; cases e
  | some xs =>
   rw [hr'] at e;cases e;exact ha H0 av A σ H δ E x he _ fun v H1 s1 r1 => hr H0 av A σ H1 δ (E.mono s1) xs hr' _ fun vs H2 s2 r2 => k _ H2 (s1.trans s2) ⟨v,vs,rfl,r1.same s2,r2⟩
theorem RepQL.length {av : Addr -> Prop} {A : Nat -> Option Addr} {H : Hp} {q : Ql} {xs : List D} {vs : List V} (h : RepQL cA av A H q xs vs) : xs.length = vs.length := h.any.length
def ZK (α : Env -> Option (List D)) (δ : Env) : Option D := match α δ with
 | some xs => if xs.length <= sizeLine then some (.lst xs) else none
 | none => none
theorem Y5 {t : TA} {α : Env -> Option (List D)} (h : VA G ow t .cl α) : VF G ow (UL t) (ZK α) := fun H0 av A σ H δ E d e Q k => by
 unfold ZK at e;cases he : α δ with
 | none => rw [he] at e; cases e
 | some xs =>
  rw [he] at e
  by_cases hz : xs.length <= sizeLine
  · have e' : D.lst xs = d := by simpa [hz] using e
    exact h H0 av A σ H δ E xs he _ fun vs H1 s1 r1 => ⟨by rw [<- r1.length]; exact hz,fun p hp => k p vs xs H1 s1 hp r1.cl e'.symm⟩
  · simp [hz] at e
def ZkD (α : Env -> Option (List D)) (δ : Env) : Option D := match α δ with
 | some xs => if xs.length <= sizeLine then some (.tup xs) else none
 | none => none
def UT (cA : Kn) (i : Addr -> Prop) (H : Hp) : List D -> List V -> Prop
 | [],vs => vs = []
 | x :: xs,vs => ∃ v r,vs = v :: r /\ (∃ t,RepT cA t i H x v) /\ UT cA i H xs r
theorem RepQL.il {av : Addr -> Prop} {A : Nat -> Option Addr} {H : Hp} {q : Ql} : ∀ {xs : List D} {vs : List V},RepQL cA av A H q xs vs -> UT cA (q.iv av A) H xs vs
 | [],_,h => h
 | x :: xs,vs,h => by
  obtain ⟨v,r,e,h1,h2⟩ := h;exact ⟨v,r,e,⟨_,h1.tp⟩,RepQL.il h2⟩
def ZiL (cA : Kn) (r : List V -> Hp -> VK -> Prop) (f : List D -> Option D) : Prop :=
 ∀ (i : Addr -> Prop) (H : Hp) (ds : List D) (vs : List V) (d : D),(∀ a,i a -> H a ≠ none) -> UT cA i H ds vs -> f ds = some d -> ∀ Q : VK,(∀ v H',Same H H' -> Rep cA i H' d v -> Q v H') -> r vs H Q
def eCB (f : List D -> Option D) (α : Env -> Option (List D)) (δ : Env) : Option D := match α δ with
 | some ds => f ds
 | none => none
theorem ZX {r : List V -> Hp -> VK -> Prop} {f : List D -> Option D} {t : TA} {q : Ql} {α : Env -> Option (List D)} (hr : ZiL G.1 r f) (h : VA G ow t q α) : VE G ow (tCB r t) q.it (eCB f α) := fun H0 av A σ H δ E d e Q k => by
 unfold eCB at e;cases he : α δ with
 | none => rw [he] at e; cases e
 | some ds =>
  rw [he] at e;refine h H0 av A σ H δ E ds he _ fun vs H1 s1 r1 => ?_
  have E1 := E.mono s1;cases q with
  | cl => exact hr _ H1 ds vs d E1.avl r1.il e _ fun v H' s r => k v H' (s1.trans s) r.t
  | tp => exact hr _ H1 ds vs d E1.avl r1.il e _ fun v H' s r => k v H' (s1.trans s) r.t
  | dt => exact hr _ H1 ds vs d E1.avH r1.il e _ fun v H' s r => k v H' (s1.trans s) r.t
theorem il1 {i : Addr -> Prop} {H : Hp} {x : D} {vs : List V} (h : UT cA i H [x] vs) : ∃ v t,vs = [v] /\ RepT cA t i H x v := by
 obtain ⟨v,r,rfl,⟨t,h1⟩,h2⟩ := h;cases (show r = [] from h2);exact ⟨v,t,rfl,h1⟩
def lenD : List D -> Option D
 | [.str a] => if a.length <= sizeLine then some (.int a.length) else none
 | [.lst xs] => some (.int xs.length)
 | [.tup xs] => some (.int xs.length)
 | _ => none
theorem Z3 : ZiL cA (ZfQ cA.K) lenD := fun i H ds vs d _ h e Q k => by
 cases ds with
 | nil => cases e
 | cons x r =>
  cases r with
  | cons _ _ => cases x <;> cases e
  | nil =>
   obtain ⟨v,t,rfl,hx⟩ := il1 h;cases x <;> first | (cases e; done) | skip
   · rename_i a
     dsimp only [lenD] at e
     by_cases hz : a.length <= sizeLine
     · rw [if_pos hz] at e
       cases e;exact .inl ⟨a,by rw [show v = S a from hx],hz,k _ H (Same.refl H) rfl⟩
     · rw [if_neg hz] at e; cases e
   · obtain ⟨a,ws,rfl,_,rd,l⟩ := hx
     cases e;exact .inr ⟨a,ws,rfl,.inl rd,k _ H (Same.refl H) (by rw [l.length]; rfl)⟩
   · obtain ⟨a,ws,rfl,_,rd,l⟩ := hx
     cases e;exact .inr ⟨a,ws,rfl,.inr (SqT.of rd),k _ H (Same.refl H) (by rw [l.length]; rfl)⟩
def ZkE : List D -> Option D
 | [.int i,.int j] => some (.int (if j < i then j else i))
 | _ => none
def ZkF : List D -> Option D
 | [.int i,.int j] => some (.int (if j > i then j else i))
 | _ => none
def Xv : List D -> Option D
 | [.lst xs] => some (.tup xs)
 | [.tup xs] => some (.tup xs)
 | _ => none
theorem Jd {t : TA} {α : Env -> Option (List D)} (h : VA G ow t .cl α) : VE G ow (tCB (Zfi G.1.K) t) .cl (eCB Xv α) := fun H0 av A σ H δ E d e Q k => by
 unfold eCB at e;cases he : α δ with
 | none => rw [he] at e; cases e
 | some ds =>
  rw [he] at e;refine h H0 av A σ H δ E ds he _ fun vs H1 s1 r1 => ?_
  have E1 := E.mono s1;have e : Xv ds = some d := e;unfold Xv at e
  split at e
  · rename_i xs
    cases e;obtain ⟨v,r,rfl,⟨a,ws,rfl,_,rd,l⟩,h2⟩ := r1;cases (show r = [] from h2);exact ⟨a,ws,rfl,.inl ⟨rd,fun p hp => k _ _ (s1.trans (Yc hp)) ⟨p,ws,rfl,fun z => E1.avl p z hp,ZM,l.same (Yc hp)⟩⟩⟩
  · rename_i xs
    cases e;obtain ⟨v,r,rfl,⟨a,ws,rfl,na,rd,l⟩,h2⟩ := r1;cases (show r = [] from h2);exact ⟨a,ws,rfl,.inr ⟨SqT.of rd,k _ H1 s1 ⟨a,ws,rfl,na,rd,l⟩⟩⟩
  · cases e
end
end DL
namespace DL
open PySem PySem.Spec L2
inductive Out where
 | nx (δ : Env)
 | rt (d : D)
 | bk (δ : Env)
 | ct (δ : Env)
def Zhj (G : Cn) (owN owB owC : List Nat) (H0 : Hp) (av : Addr -> Prop) (De : Ends) : Out -> Prop
 | .nx δ' => ∀ A' σ' H',ER G owN H0 av A' σ' H' δ' -> De.nx σ' H'
 | .rt d => ∀ v H',Same H0 H' -> Rep G.1 av H' d v -> De.rt v H'
 | .bk δ' => ∀ A' σ' H',ER G owB H0 av A' σ' H' δ' -> De.bk σ' H'
 | .ct δ' => ∀ A' σ' H',ER G owC H0 av A' σ' H' δ' -> De.ct σ' H'
def VS (G : Cn) (ow owN owB owC : List Nat) (ts : TS) (φ : Env -> Option Out) : Prop :=
 ∀ H0 av A σ H δ,ER G ow H0 av A σ H δ -> ∀ o,φ δ = some o -> ∀ De : Ends,Zhj G owN owB owC H0 av De o -> ts De σ H
def VG (G : Cn) (ow ow' : List Nat) (g : TG) (γ : D -> Env -> Option Env) : Prop :=
 ∀ H0 av A σ H δ,ER G ow H0 av A σ H δ -> ∀ d v,Rep G.1 (AV av A) H d v -> ∀ δ',γ d δ = some δ' -> ∀ Q : L2.St -> Hp -> Prop,(∀ A' σ' H',Same H H' -> ER G ow' H0 av A' σ' H' δ' -> Q σ' H') -> g v σ H Q
def sub (a b : List Nat) : Bool := a.all fun x => b.contains x
theorem Je {a b : List Nat} (h : sub a b = true) : ∀ x ∈ a,x ∈ b := fun x hx => by
 have := List.all_eq_true.mp h x hx;simpa using this
section
variable {cA : Kn} {G : Cn} {ow owN owB owC ow1 ow2 : List Nat} {H0 H H' : Hp} {av : Addr -> Prop} {A : Nat -> Option Addr} {σ : L2.St} {δ : Env}
theorem Jf {α : Type} {l : List (Option α)} {i j : Nat} {x y : α} (h : (l.set i (some x))[j]? = some (some y)) : (j = i /\ y = x /\ i < l.length) \/ (j ≠ i /\ l[j]? = some (some y)) := by
 by_cases e : j = i
 · subst e
   by_cases hl : j < l.length
   · rw [List.getElem?_set_self hl] at h
     exact .inl ⟨rfl,(Option.some.inj (Option.some.inj h)).symm,hl⟩
   · rw [List.getElem?_eq_none (by simpa using hl)] at h
     cases h
 · rw [List.getElem?_set_ne (Ne.symm e)] at h
   exact .inr ⟨e,h⟩
theorem ER.set {i : Nat} {d : D} {v : V} (E : ER G ow H0 av A σ H δ) (h : Rep G.1 (AV av A) H d v) (hw : ∀ j,j ∈ ow1 ↔ j ∈ ow /\ j ≠ i) (hn : G.2 i = none) :
 ER G ow1 H0 av (fun j => if j = i then none else A j) (σ.set i (some v)) H (δ.set i (some d)) := by
 have less : ∀ b,AV av (fun j => if j = i then none else A j) b -> AV av A b := fun b z => by
  rcases z with z | ⟨j,z⟩
  · exact .inl z
  · by_cases e : j = i
    · simp [e] at z
    · simp [e] at z; exact .inr ⟨j,z⟩
 refine ⟨E.same,E.avd,fun j a e => ?_,fun j k a e1 e2 => ?_,fun j a e => ?_,fun j e => ?_,fun j hj => ?_,by simp [E.len],fun j a e => (by
  have q : j ≠ i := fun z => by rw [z,hn] at e; cases e
  simp only [q,if_false]; exact E.pin j a e),(fun j v' e => by
  have q : j ≠ i := fun z => by rw [z,hn] at e; cases e
  rw [List.getElem?_set_ne (Ne.symm q)]; exact E.kept j v' e),fun j d' e => ?_⟩
 · by_cases q : j = i
   · simp [q] at e
   · simp [q] at e; exact E.fr j a e
 · by_cases q : j = i
   · simp [q] at e1
   · by_cases q2 : k = i
     · simp [q2] at e2
     · simp [q] at e1; simp [q2] at e2; exact E.inj j k a e1 e2
 · by_cases q : j = i
   · simp [q] at e
   · simp [q] at e; exact E.live j a e
 · by_cases q : j = i
   · simp [q] at e
   · simp [q] at e; exact (hw j).mpr ⟨E.dom j e,q⟩
 · obtain ⟨h1,h2⟩ := (hw j).mp hj
   simp [h2];exact E.dom' j h1
 · rcases Jf e with ⟨rfl,rfl,hl⟩ | ⟨q,e'⟩
   · refine ⟨v,?_,fun _ => h.av fun b z => .inl (less b z),fun a z => by simp at z⟩
     rw [List.getElem?_set_self (by rw [E.len]; exact hl)]
   · obtain ⟨v',h1,h2,h3⟩ := E.var j d' e'
     refine ⟨v',by rw [List.getElem?_set_ne (Ne.symm q)]; exact h1,fun z => ?_,fun a z => ?_⟩
     · simp [q] at z
       exact (h2 z).av fun b z => .inl (less b z)
     · simp [q] at z
       obtain ⟨r1,r2⟩ := h3 a z;refine ⟨r1,?_⟩;cases d' with
       | lst xs => obtain ⟨vs,q1,q2⟩ := r2; exact ⟨vs,q1,q2.av fun b z => .inl (less b z)⟩
       | obj c ks xs => obtain ⟨dx,vs,q1,q0,q2⟩ := r2; exact ⟨dx,vs,q1,q0,q2.av fun b z => .inl (less b z)⟩
       | dct ks xs => obtain ⟨vs,q1,q0,q2⟩ := r2; exact ⟨vs,q1,q0,q2.av fun b z => .inl (less b z)⟩
       | dtt ks xs => obtain ⟨vs,q1,q0,q2⟩ := r2; exact ⟨vs,q1,q0,q2.av fun b z => .inl (less b z)⟩
       | _ => exact r2
theorem ER.own {i : Nat} {xs : List D} {vs : List V} {p : Addr} (E : ER G ow H0 av A σ H δ) (hp : H p = none) (l : RepL G.1 (AV av A) H xs vs) (hw : ∀ j,j ∈ ow1 ↔ j ∈ ow \/ j = i) (hn : G.2 i = none) :
 ER G ow1 H0 av (fun j => if j = i then some p else A j) (σ.set i (some (.ref p))) (upd H p (.lst vs)) (δ.set i (some (.lst xs))) := by
 have hs : Same H (upd H p (.lst vs)) := Yc hp
 have less : ∀ b,AV av (fun j => if j = i then some p else A j) b -> AV av A b \/ H b = none := fun b z => by
  rcases z with z | ⟨j,z⟩
  · exact .inl (.inl z)
  · by_cases e : j = i
    · simp [e] at z; subst z; exact .inr hp
    · simp [e] at z; exact .inl (.inr ⟨j,z⟩)
 have np : ∀ j a,A j = some a -> a ≠ p := fun j a e z => by subst z; exact E.live j a e hp
 have h0 : H0 p = none := by
  cases q : H0 p with
  | none => rfl
  | some o => rw [E.same p o q] at hp; cases hp
 refine ⟨E.same.trans hs,E.avd,fun j a e => ?_,fun j k a e1 e2 => ?_,fun j a e => ?_,fun j e => ?_,fun j hj => ?_,by simp [E.len],fun j a e => (by
  have q : j ≠ i := fun z => by rw [z,hn] at e; cases e
  simp only [q,if_false]; exact E.pin j a e),(fun j v' e => by
  have q : j ≠ i := fun z => by rw [z,hn] at e; cases e
  rw [List.getElem?_set_ne (Ne.symm q)]; exact E.kept j v' e),fun j d' e => ?_⟩
 · by_cases q : j = i
   · simp [q] at e; subst e; exact h0
   · simp [q] at e; exact E.fr j a e
 · by_cases q : j = i
   · by_cases q2 : k = i
     · rw [q,q2]
     · simp [q] at e1; simp [q2] at e2
       exact absurd e1.symm (np k a e2)
   · by_cases q2 : k = i
     · simp [q] at e1; simp [q2] at e2
       exact absurd e2.symm (np j a e1)
     · simp [q] at e1; simp [q2] at e2; exact E.inj j k a e1 e2
 · by_cases q : j = i
   · simp [q] at e; subst e; rw [ZM]; exact fun z => by cases z
   · simp [q] at e
     rw [Zt (np j a e)];exact E.live j a e
 · by_cases q : j = i
   · exact (hw j).mpr (.inr q)
   · simp [q] at e; exact (hw j).mpr (.inl (E.dom j e))
 · by_cases q : j = i
   · simp [q]
   · simp [q]
     exact E.dom' j (((hw j).mp hj).resolve_right q)
 · rcases Jf e with ⟨rfl,rfl,hl⟩ | ⟨q,e'⟩
   · refine ⟨.ref p,?_,fun z => by simp at z,fun a z => ?_⟩
     · rw [List.getElem?_set_self (by rw [E.len]; exact hl)]
     · simp at z
       subst z;exact ⟨rfl,vs,ZM,(l.av less).same hs⟩
   · obtain ⟨v',h1,h2,h3⟩ := E.var j d' e'
     refine ⟨v',by rw [List.getElem?_set_ne (Ne.symm q)]; exact h1,fun z => ?_,fun a z => ?_⟩
     · simp [q] at z
       exact ((h2 z).av less).same hs
     · simp [q] at z
       obtain ⟨r1,r2⟩ := h3 a z;refine ⟨r1,?_⟩;cases d' with
       | lst xs => obtain ⟨vs',q1,q2⟩ := r2; exact ⟨vs',hs _ _ q1,(q2.av less).same hs⟩
       | obj c ks xs => obtain ⟨dx,vs',q1,q0,q2⟩ := r2; exact ⟨dx,vs',hs _ _ q1,q0,(q2.av less).same hs⟩
       | dct ks xs => obtain ⟨vs',q1,q0,q2⟩ := r2; exact ⟨vs',hs _ _ q1,q0,(q2.av less).same hs⟩
       | dtt ks xs => obtain ⟨vs',q1,q0,q2⟩ := r2; exact ⟨vs',hs _ _ q1,q0,(q2.av less).same hs⟩
       | _ => exact r2
theorem ER.put {i : Nat} {a : Addr} {d d' : D} (E : ER G ow H0 av A σ H δ) (hi : A i = some a) (hd : δ[i]? = some (some d)) (hk : ∀ b o,b ≠ a -> H b = some o -> H' b = some o) (hl : H' a ≠ none) (ho : Own G.1 (AV av A) H' d' a) :
 ER G ow H0 av A σ H' (δ.set i (some d')) := by
 have kk : ∀ b o,¬ AV av A b -> H b = some o -> H' b = some o := fun b o n e => hk b o (fun z => n (.inr ⟨i,by rw [z]; exact hi⟩)) e
 refine ⟨fun b o e => hk b o (fun z => ?_) (E.same b o e),E.avd,E.fr,E.inj,fun j b e => ?_,E.dom,E.dom',by simp [E.len],E.pin,E.kept,fun j d'' e => ?_⟩
 · rw [z,E.fr i a hi] at e; cases e
 · by_cases q : b = a
   · subst q; exact hl
   · have := E.live j b e
     cases e' : H b with
     | none => exact absurd e' this
     | some o => rw [hk b o q e']; exact fun z => by cases z
 · rcases Jf e with ⟨rfl,rfl,hl'⟩ | ⟨q,e'⟩
   · obtain ⟨v,h1,_,h3⟩ := E.var j d hd
     obtain ⟨r1,_⟩ := h3 a hi
     exact ⟨v,h1,fun z => (by rw [hi] at z; cases z),fun b z => by
      rw [hi] at z; cases z;exact ⟨r1,ho⟩⟩
   · obtain ⟨v',h1,h2,h3⟩ := E.var j d'' e'
     refine ⟨v',h1,fun z => (h2 z).ext kk,fun b z => ?_⟩;obtain ⟨r1,r2⟩ := h3 b z;have nb : b ≠ a := fun w => q (E.inj j i a (by rw [<- w]; exact z) hi)
     refine ⟨r1,?_⟩;cases d'' with
     | lst xs => obtain ⟨vs,q1,q2⟩ := r2; exact ⟨vs,hk _ _ nb q1,q2.ext kk⟩
     | obj c ks xs => obtain ⟨dx,vs,q1,q0,q2⟩ := r2; exact ⟨dx,vs,hk _ _ nb q1,q0,q2.ext kk⟩
     | dct ks xs => obtain ⟨vs,q1,q0,q2⟩ := r2; exact ⟨vs,hk _ _ nb q1,q0,q2.ext kk⟩
     | dtt ks xs => obtain ⟨vs,q1,q0,q2⟩ := r2; exact ⟨vs,hk _ _ nb q1,q0,q2.ext kk⟩
     | _ => exact r2
theorem ER.freeze (i : Nat) (E : ER G ow H0 av A σ H δ) (hw : ∀ j,j ∈ ow1 ↔ j ∈ ow /\ j ≠ i) (hn : G.2 i = none) : ER G ow1 H0 av (fun j => if j = i then none else A j) σ H δ := by
 have less : ∀ b,AV av (fun j => if j = i then none else A j) b -> AV av A b := fun b z => by
  rcases z with z | ⟨j,z⟩
  · exact .inl z
  · by_cases e : j = i
    · simp [e] at z
    · simp [e] at z; exact .inr ⟨j,z⟩
 refine ⟨E.same,E.avd,fun j a e => ?_,fun j k a e1 e2 => ?_,fun j a e => ?_,fun j e => ?_,fun j hj => ?_,E.len,fun j a e => (by
  have q : j ≠ i := fun z => by rw [z,hn] at e; cases e
  simp only [q,if_false]; exact E.pin j a e),E.kept,fun j d' e => ?_⟩
 · by_cases q : j = i
   · simp [q] at e
   · simp [q] at e; exact E.fr j a e
 · by_cases q : j = i
   · simp [q] at e1
   · by_cases q2 : k = i
     · simp [q2] at e2
     · simp [q] at e1; simp [q2] at e2; exact E.inj j k a e1 e2
 · by_cases q : j = i
   · simp [q] at e
   · simp [q] at e; exact E.live j a e
 · by_cases q : j = i
   · simp [q] at e
   · simp [q] at e; exact (hw j).mpr ⟨E.dom j e,q⟩
 · obtain ⟨h1,h2⟩ := (hw j).mp hj
   simp [h2];exact E.dom' j h1
 · obtain ⟨v',h1,h2,h3⟩ := E.var j d' e
   refine ⟨v',h1,fun z => ?_,fun a z => ?_⟩
   · by_cases q : j = i
     · subst q
       cases hA : A j with
       | none => exact (h2 hA).av fun b z => .inl (less b z)
       | some a =>
        obtain ⟨rfl,r2⟩ := h3 a hA
        have na : ¬ AV av (fun k => if k = j then none else A k) a := fun z => by
         rcases z with z | ⟨k,z⟩
         · exact E.avd a z (E.fr j a hA)
         · by_cases qk : k = j
           · simp [qk] at z
           · simp [qk] at z; exact qk (E.inj k j a z hA)
        cases d' with
        | lst xs => obtain ⟨vs,q1,q2⟩ := r2; unfold Rep; exact ⟨a,vs,rfl,fun z => (na z).elim,SqL.of q1,q2.av fun b z => .inl (less b z)⟩
        | obj c ks xs => obtain ⟨dx,vs,q1,q0,q2⟩ := r2; unfold Rep; exact ⟨a,dx,vs,rfl,na,q1,q0,q2.av fun b z => .inl (less b z)⟩
        | dct ks xs => obtain ⟨vs,q1,q0,q2⟩ := r2; unfold Rep; exact ⟨a,vs,rfl,na,q1,q0,q2.av fun b z => .inl (less b z)⟩
        | dtt ks xs => obtain ⟨vs,q1,q0,q2⟩ := r2; unfold Rep; exact ⟨a,vs,rfl,na,q1,q0,q2.av fun b z => .inl (less b z)⟩
        | _ => exact False.elim r2
     · simp [q] at z
       exact (h2 z).av fun b z => .inl (less b z)
   · by_cases q : j = i
     · simp [q] at z
     · simp [q] at z
       obtain ⟨r1,r2⟩ := h3 a z;refine ⟨r1,?_⟩;cases d' with
       | lst xs => obtain ⟨vs,q1,q2⟩ := r2; exact ⟨vs,q1,q2.av fun b z => .inl (less b z)⟩
       | obj c ks xs => obtain ⟨dx,vs,q1,q0,q2⟩ := r2; exact ⟨dx,vs,q1,q0,q2.av fun b z => .inl (less b z)⟩
       | dct ks xs => obtain ⟨vs,q1,q0,q2⟩ := r2; exact ⟨vs,q1,q0,q2.av fun b z => .inl (less b z)⟩
       | dtt ks xs => obtain ⟨vs,q1,q0,q2⟩ := r2; exact ⟨vs,q1,q0,q2.av fun b z => .inl (less b z)⟩
       | _ => exact r2
open Classical in
noncomputable def cut (A : Nat -> Option Addr) (H : Hp) : Hp := fun b => if ∃ i,A i = some b then none else H b
theorem ZbZ {b : Addr} {o : HO} (h : cut A H b = some o) : H b = some o /\ ¬ ∃ i,A i = some b := by
 unfold cut at h
 by_cases e : ∃ i,A i = some b
 · rw [if_pos e] at h; cases h
 · rw [if_neg e] at h; exact ⟨h,e⟩
theorem Uq {b : Addr} (e : ¬ ∃ i,A i = some b) : cut A H b = H b := by
 unfold cut;rw [if_neg e]
theorem ER.cut (E : ER G ow H0 av A σ H δ) : ER G ow (DL.cut A H) av A σ H δ := by
 refine ⟨fun b o e => (ZbZ e).1,fun a z => ?_,fun i a e => ?_,E.inj,E.live,E.dom,E.dom',E.len,E.pin,E.kept,E.var⟩
 · rw [Uq fun ⟨i,e⟩ => E.avd a z (E.fr i a e)]
   exact E.avH a z
 · unfold DL.cut
   rw [if_pos ⟨i,e⟩]
theorem ER.sub0 (E : ER G ow H0 av A σ H δ) : Same H0 (DL.cut A H) := fun b o e => by
 rw [Uq fun ⟨i,z⟩ => by rw [E.fr i b z] at e; cases e];exact E.same b o e
theorem ER.uncut {A' : Nat -> Option Addr} {σ' : L2.St} {δ' : Env} (E : ER G ow H0 av A σ H δ) (E' : ER G ow1 (DL.cut A H) av A' σ' H' δ') : ER G ow1 H0 av A' σ' H' δ' :=
 ⟨E.sub0.trans E'.same,E.avd,fun i a e => E.sub0.free (E'.fr i a e),E'.inj,E'.live,E'.dom,E'.dom',E'.len,E'.pin,E'.kept,E'.var⟩
def sNext (δ : Env) : Option Out := some (.nx δ)
theorem Yy : VS G ow ow owB owC tNext sNext := fun H0 av A σ H δ E o e De k => by
 cases e;exact k A σ H E
def Zf (φ ψ : Env -> Option Out) (δ : Env) : Option Out := match φ δ with
 | some (.nx δ') => ψ δ'
 | r => r
theorem Zs {t u : TS} {φ ψ : Env -> Option Out} (h1 : VS G ow ow1 owB owC t φ) (h2 : VS G ow1 owN owB owC u ψ) : VS G ow owN owB owC (Qk t u) (Zf φ ψ) := fun H0 av A σ H δ E o e De k => by
 unfold Zf at e;cases he : φ δ with
 | none => rw [he] at e; cases e
 | some o1 =>
  rw [he] at e;refine h1 H0 av A σ H δ E o1 he _ ?_;cases o1 with
  | nx δ' => exact fun A' σ' H' E' => h2 H0 av A' σ' H' δ' E' o e De k
  | rt d => cases e; exact k
  | bk δ' => cases e; exact k
  | ct δ' => cases e; exact k
def sIf (τ : Env -> Option Bool) (φ ψ : Env -> Option Out) (δ : Env) : Option Out := match τ δ with
 | some true => φ δ
 | some false => ψ δ
 | none => none
theorem Yz {c : TT} {t u : TS} {τ : Env -> Option Bool} {φ ψ : Env -> Option Out} (hc : VT G ow c τ) (h1 : VS G ow owN owB owC t φ) (h2 : VS G ow owN owB owC u ψ) : VS G ow owN owB owC (Qn c t u) (sIf τ φ ψ) := fun H0 av A σ H δ E o e De k => by
 unfold sIf at e;cases he : τ δ with
 | none => rw [he] at e; cases e
 | some b =>
  rw [he] at e;refine hc H0 av A σ H δ E b he _ fun H' s => ?_
  cases b with
  | true => exact Uk (h1 H0 av A σ H' δ (E.mono s) o e De k)
  | false => exact Uj (h2 H0 av A σ H' δ (E.mono s) o e De k)
def Zv (ε : Env -> Option D) (δ : Env) : Option Out := match ε δ with
 | some d => some (.rt d)
 | none => none
theorem ZS {te : TE} {q : Ql} {ε : Env -> Option D} (h : VE G ow te q ε) : VS G ow owN owB owC (QZ te) (Zv ε) := fun H0 av A σ H δ E o e De k => by
 unfold Zv at e;cases he : ε δ with
 | none => rw [he] at e; cases e
 | some d =>
  rw [he] at e;cases e;exact h H0 av A σ H δ E d he _ fun v H' s r => k v H' (E.same.trans s) r.any
def Zhk (_ : Env) : Option Out := some (.rt .non)
def sNever (_ : Env) : Option Out := none
theorem UU {ts : TS} : VS G ow owN owB owC ts sNever := fun H0 av A σ H δ E o e De k => by cases e
def Zh (i : Nat) (ε : Env -> Option D) (δ : Env) : Option Out := match ε δ with
 | some d => some (.nx (δ.set i (some d)))
 | none => none
theorem QC {i : Nat} (h1 : sub ow1 ow = true) (h2 : ow1.contains i = false) (h3 : sub ow (i :: ow1) = true) : ∀ j,j ∈ ow1 ↔ j ∈ ow /\ j ≠ i := fun j => by
 constructor
 · intro h
   refine ⟨Je h1 j h,fun e => ?_⟩;subst e;have : j ∉ ow1 := by simpa using h2
   exact this h
 · rintro ⟨h,n⟩
   rcases List.mem_cons.mp (Je h3 j h) with e | e
   · exact absurd e n
   · exact e
theorem Zb0 {i : Nat} (h1 : sub ow1 (i :: ow) = true) (h2 : ow1.contains i = true) (h3 : sub ow ow1 = true) : ∀ j,j ∈ ow1 ↔ j ∈ ow \/ j = i := fun j => by
 constructor
 · intro h
   rcases List.mem_cons.mp (Je h1 j h) with e | e
   · exact .inr e
   · exact .inl e
 · rintro (h | rfl)
   · exact Je h3 j h
   · simpa using h2
theorem Zw {te : TE} {ε : Env -> Option D} (i : Nat) (h : VE G ow te .cl ε) (hn : G.2 i = none) (h1 : sub owN ow = true) (h2 : owN.contains i = false) (h3 : sub ow (i :: owN) = true) : VS G ow owN owB owC (YY te (YX i)) (Zh i ε) := fun H0 av A σ H δ E o e De k => by
 unfold Zh at e;cases he : ε δ with
 | none => rw [he] at e; cases e
 | some d =>
  rw [he] at e;cases e;exact h H0 av A σ H δ E d he _ fun v H' s r => k _ _ H' ((E.mono s).set (RepT.r r) (QC h1 h2 h3) hn)
theorem QD {te : TE} {ε : Env -> Option D} (i : Nat) (h : VF G ow te ε) (hn : G.2 i = none) (h1 : sub owN (i :: ow) = true) (h2 : owN.contains i = true) (h3 : sub ow owN = true) : VS G ow owN owB owC (YY te (YX i)) (Zh i ε) := fun H0 av A σ H δ E o e De k => by
 unfold Zh at e;cases he : ε δ with
 | none => rw [he] at e; cases e
 | some d =>
  rw [he] at e;cases e;refine h H0 av A σ H δ E d he _ fun p vs xs H1 s hp l hd => ?_
  subst hd;exact k _ _ _ ((E.mono s).own hp l (Zb0 h1 h2 h3) hn)
def Vn (ε : Env -> Option D) (δ : Env) : Option Out := match ε δ with
 | some _ => some (.nx δ)
 | none => none
theorem Zdn {te : TE} {q : Ql} {ε : Env -> Option D} (h : VE G ow te q ε) : VS G ow ow owB owC (Ug te) (Vn ε) := fun H0 av A σ H δ E o e De k => by
 unfold Vn at e;cases he : ε δ with
 | none => rw [he] at e; cases e
 | some d =>
  rw [he] at e;cases e;exact h H0 av A σ H δ E d he _ fun v H' s r => k A σ H' (E.mono s)
def Y6 (i : Nat) (ε : Env -> Option D) (δ : Env) : Option Out := match Za i δ with
 | some (.lst xs) => match ε δ with
  | some d => if xs.length < sizeLine then some (.nx (δ.set i (some (.lst (xs ++ [d]))))) else none
  | none => none
 | _ => none
theorem QF {K : PySem.W.Frag} {te : TE} {ε : Env -> Option D} (i : Nat) (hi : ow.contains i = true) (h : VE G ow te .cl ε) : VS G ow ow owB owC (Ug (tBM K "list" rAppend (YO i) (YT te tNil))) (Y6 i ε) := fun H0 av A σ H δ E o e De k => by
 unfold Y6 at e;cases hv : Za i δ with
 | none => rw [hv] at e; cases e
 | some x =>
  rw [hv] at e;cases x <;> first | (cases e; done) | skip
  rename_i xs;dsimp only at e;cases he : ε δ with
  | none => rw [he] at e; cases e
  | some d =>
   rw [he] at e;dsimp only at e
   by_cases hz : xs.length < sizeLine
   · rw [if_pos hz] at e
     cases e;have hi' : i ∈ ow := by simpa using hi
     cases hA : A i with
     | none => exact absurd hA (E.dom' i hi')
     | some a =>
      obtain ⟨v,h1,_,h3⟩ := E.var i _ (YL hv);obtain ⟨rfl,vs,q1,q2⟩ := h3 a hA;refine ⟨_,h1,.inl ⟨rfl,vs,SqL.of q1⟩,h H0 av A σ H δ E d he _ fun v H' s r => ?_⟩;have E' := E.mono s;have q1' := s _ _ q1;refine ⟨a,vs,v,rfl,rfl,q1',by rw [<- q2.length]; exact hz,k A σ _ (E'.put hA (YL hv) (fun b o hb e => by rw [Zt hb]; exact e) (by rw [ZM]; exact fun z => by cases z) ⟨_,ZM,?_⟩)⟩
      have ex : ∀ b o,¬ AV av A b -> H' b = some o -> upd H' a (.lst (vs ++ [v])) b = some o := fun b o n e => by
       rw [Zt fun z => n (.inr ⟨i,by rw [z]; exact hA⟩)];exact e
      exact ((q2.same s).append (.cons (RepT.r r) .nil)).ext ex
   · rw [if_neg hz] at e; cases e
theorem VS.frz {t : TS} {φ : Env -> Option Out} (i : Nat) (h : VS G ow1 owN owB owC t φ) (hn : G.2 i = none) (h1 : sub ow1 ow = true) (h2 : ow1.contains i = false) (h3 : sub ow (i :: ow1) = true) : VS G ow owN owB owC t φ := fun H0 av A σ H δ E o e De k =>
 h H0 av _ σ H δ (E.freeze i (QC h1 h2 h3) hn) o e De k
def Zo (i : Nat) (d : D) (δ : Env) : Option Env := some (δ.set i (some d))
theorem Z5 (i : Nat) (hi : ow.contains i = false) (hn : G.2 i = none) : VG G ow ow (YX i) (Zo i) := fun H0 av A σ H δ E d v r δ' e Q k => by
 cases e
 exact k _ _ H (Same.refl H) (E.set r (fun j => by
  have : i ∉ ow := by simpa using hi
  exact ⟨fun h => ⟨h,fun z => this (z ▸ h)⟩,fun h => h.1⟩) hn)
def VGs (G : Cn) (ow ow' : List Nat) (g : TGs) (γ : List D -> Env -> Option Env) : Prop :=
 ∀ H0 av A σ H δ,ER G ow H0 av A σ H δ -> ∀ ds vs,RepL G.1 (AV av A) H ds vs -> ∀ δ',γ ds δ = some δ' -> ∀ Q : L2.St -> Hp -> Prop,(∀ A' σ' H',Same H H' -> (∀ b,AV av A' b -> AV av A b) -> ER G ow' H0 av A' σ' H' δ' -> Q σ' H') -> g vs σ H Q
def gsNil (ds : List D) (δ : Env) : Option Env := match ds with
 | [] => some δ
 | _ => none
theorem Zby : VGs G ow ow gNil gsNil := fun H0 av A σ H δ E ds vs r δ' e Q k => by
 cases ds with
 | nil => cases e; exact ⟨r.nil_of,k A σ H (Same.refl H) (fun _ z => z) E⟩
 | cons _ _ => cases e
def Yv (i : Nat) (γs : List D -> Env -> Option Env) (ds : List D) (δ : Env) : Option Env := match ds with
 | d :: r => γs r (δ.set i (some d))
 | [] => none
theorem UV {gs : TGs} {γs : List D -> Env -> Option Env} (i : Nat) (hi : ow.contains i = false) (hn : G.2 i = none) (h : VGs G ow ow gs γs) : VGs G ow ow (Zg7 (YX i) gs) (Yv i γs) := fun H0 av A σ H δ E ds vs r δ' e Q k => by
 cases ds with
 | nil => cases e
 | cons d ds =>
  obtain ⟨v,vr,rfl,r1,r2⟩ := r.uncons;refine ⟨v,vr,rfl,?_⟩
  have less : ∀ b,AV av (fun j => if j = i then none else A j) b -> AV av A b := fun b z => by
   rcases z with z | ⟨j,z⟩
   · exact .inl z
   · by_cases e : j = i
     · simp [e] at z
     · simp [e] at z; exact .inr ⟨j,z⟩
  have E1 : ER G ow H0 av (fun j => if j = i then none else A j) (σ.set i (some v)) H (δ.set i (some d)) := E.set r1 (fun j => by
   have : i ∉ ow := by simpa using hi
   exact ⟨fun h => ⟨h,fun z => this (z ▸ h)⟩,fun h => h.1⟩) hn
  exact h H0 av _ _ H _ E1 ds vr (r2.av fun b z => .inl (less b z)) δ' e Q fun A' σ' H' s l E' => k A' σ' H' s (fun b z => less b (l b z)) E'
def XJ (n : Nat) (γs : List D -> Env -> Option Env) (d : D) (δ : Env) : Option Env := match d with
 | .tup ds => if ds.length = n then γs ds δ else none
 | _ => none
theorem ZcZ {K : PySem.W.Frag} {n : Nat} {gs : TGs} {γs : List D -> Env -> Option Env} (h : VGs G ow ow gs γs) : VG G ow ow (J7 K n gs) (XJ n γs) := fun H0 av A σ H δ E d v r δ' e Q k => by
 cases d <;> first | (cases e; done) | skip
 rename_i ds;dsimp only [XJ] at e
 by_cases hz : ds.length = n
 · rw [if_pos hz] at e
   unfold Rep at r;obtain ⟨a,vs,rfl,_,rd,l⟩ := r;exact ⟨a,vs,rfl,SqT.of rd,by rw [<- l.length]; exact hz,h H0 av A σ H δ E ds vs l δ' e Q fun A' σ' H' s _ E' => k A' σ' H' s E'⟩
 · rw [if_neg hz] at e; cases e
def Vo (cA : Kn) (iv : Addr -> Prop) (J : It) (xs : List D) (H0 : Hp) : Prop := ∀ H,Same H0 H ->
 (∀ i,i < xs.length -> J.go i H) /\
 (∀ (i : Nat) x v H',xs[i]? = some x -> J.yld i H v H' -> Same H H' /\ ∀ av' : Addr -> Prop,(∀ b,av' b -> H b ≠ none) -> (∀ b,av' b -> iv b \/ H0 b = none) -> Rep cA av' H' x v) /\
 (∀ i,xs.length <= i -> J.stop i H)
def VI (G : Cn) (ow : List Nat) (wi : TI) (ι : Env -> Option (List D)) : Prop :=
 ∀ H0 av A σ H δ,ER G ow H0 av A σ H δ -> ∀ xs,ι δ = some xs -> ∀ R : It -> Hp -> Prop,(∀ J H1,Same H H1 -> Vo G.1 (AV av A) J xs (DL.cut A H1) -> R J H1) -> wi σ H R
def ZW (γ : D -> Env -> Option Env) (φ : Env -> Option Out) : List D -> Env -> Option Out
 | [],δ => some (.nx δ)
 | x :: r,δ => match γ x δ with
  | none => none
  | some δ1 => match φ δ1 with
   | none => none
   | some (.nx δ2) => ZW γ φ r δ2
   | some (.ct δ2) => ZW γ φ r δ2
   | some (.bk δ2) => some (.nx δ2)
   | some (.rt d) => some (.rt d)
def ZJ (ι : Env -> Option (List D)) (γ : D -> Env -> Option Env) (φ : Env -> Option Out) (δ : Env) : Option Out := match ι δ with
 | some xs => ZW γ φ xs δ
 | none => none
theorem Y7 {wi : TI} {g : TG} {tb : TS} {ι : Env -> Option (List D)} {γ : D -> Env -> Option Env} {φ : Env -> Option Out} (hi : VI G ow wi ι) (hg : VG G ow ow g γ) (hb : VS G ow ow ow ow tb φ) : VS G ow ow owB owC (Q0 wi g tb) (ZJ ι γ φ) := fun H0 av A σ H δ E o e De k => by
 unfold ZJ at e;cases he : ι δ with
 | none => rw [he] at e; cases e
 | some xs =>
  rw [he] at e;have e : ZW γ φ xs δ = some o := e;refine hi H0 av A σ H δ E xs he _ fun J H1 s1 W => ?_
  have E1 := E.mono s1;refine ⟨fun i m σ' H' => m = xs.length - i /\ i <= xs.length /\ ∃ A' δ',ER G ow (DL.cut A H1) av A' σ' H' δ' /\ ZW γ φ (xs.drop i) δ' = some o,⟨xs.length,by simp,Nat.zero_le _,A,δ,E1.cut,e⟩,?_⟩
  rintro i m σ' H' ⟨rfl,hle,A',δ',E',e'⟩
  obtain ⟨w1,w2,w3⟩ := W H' E'.same
  by_cases hlt : i < xs.length
  · refine .inr ⟨w1 i hlt,fun σ2 H2 => ∃ A2 δ2,ER G ow (DL.cut A H1) av A2 σ2 H2 δ2 /\ ZW γ φ (xs.drop (i + 1)) δ2 = some o,fun σ2 H2 ⟨A2,δ2,E2,e2⟩ => ⟨xs.length - (i + 1),by omega,rfl,hlt,A2,δ2,E2,e2⟩,fun v H2 y => ?_⟩
    have hx : xs[i]? = some xs[i] := List.getElem?_eq_getElem hlt;obtain ⟨s2,rep⟩ := w2 i _ v H2 hx y;have E2 := E'.mono s2
    have rep' : Rep G.1 (AV av A') H2 xs[i] v := rep _ E'.avl fun b z => by
     rcases z with z | ⟨j,z⟩
     · exact .inl (.inl z)
     · exact .inr (E'.fr j b z)
    rw [List.drop_eq_getElem_cons hlt] at e';unfold ZW at e';cases hγ : γ xs[i] δ' with
    | none => rw [hγ] at e'; cases e'
    | some δ1 =>
     rw [hγ] at e';dsimp only at e';refine hg _ av A' σ' H2 δ' E2 _ v rep' δ1 hγ _ fun A3 σ3 H3 s3 E3 => ?_
     cases hφ : φ δ1 with
     | none => rw [hφ] at e'; cases e'
     | some o1 =>
      rw [hφ] at e';refine hb _ av A3 σ3 H3 δ1 E3 o1 hφ _ ?_;cases o1 with
      | nx δ2 => exact fun A4 σ4 H4 E4 => ⟨A4,δ2,E4,e'⟩
      | ct δ2 => exact fun A4 σ4 H4 E4 => ⟨A4,δ2,E4,e'⟩
      | bk δ2 => cases e'; exact fun A4 σ4 H4 E4 => k A4 σ4 H4 (E1.uncut E4)
      | rt d => cases e'; exact fun v H4 s4 r4 => k v H4 (E1.sub0.trans s4) r4
  · have ei : i = xs.length := by omega
    subst ei;rw [List.drop_length] at e';cases e';exact .inl ⟨w3 _ (Nat.le_refl _),k A' σ' H' (E1.uncut E')⟩
open Classical in
end
end DL
namespace DL
open PySem PySem.Spec L2
section
variable {cA : Kn} {G : Cn} {ow owN owB owC : List Nat}
def ZH (ε : Env -> Option D) (δ : Env) : Option (List D) := match ε δ with
 | some (.lst xs) => some xs
 | some (.tup xs) => some xs
 | some (.str cs) => some (cs.map fun c => .str [c])
 | _ => none
theorem Rep.cut {av : Addr -> Prop} {A : Nat -> Option Addr} {H : Hp} {d : D} {v : V} (h : Rep cA (AV av A) H d v) : Rep cA (AV av A) (DL.cut A H) d v := h.ext fun b o n e => by
 rw [Uq fun ⟨i,z⟩ => n (.inr ⟨i,z⟩)];exact e
theorem RepL.cut {av : Addr -> Prop} {A : Nat -> Option Addr} {H : Hp} {d : List D} {v : List V} (h : RepL cA (AV av A) H d v) : RepL cA (AV av A) (DL.cut A H) d v := h.ext fun b o n e => by
 rw [Uq fun ⟨i,z⟩ => n (.inr ⟨i,z⟩)];exact e
theorem Zcw {iv : Addr -> Prop} {H0 : Hp} {a : Addr} {vs : List V} {xs : List D} (rd : SqL cA.K H0 a vs) (l : RepL cA iv H0 xs vs) : Vo cA iv (Itl cA.K a) xs H0 := fun H s => by
 have rd' : SqL cA.K H a vs := s.seq rd;refine ⟨fun i hi => ?_,fun i x v H' hx y => ?_,fun i hi => ⟨vs,rd',by rw [<- l.length]; exact hi⟩⟩
 · obtain ⟨v,hv,_⟩ := l.get (List.getElem?_eq_getElem hi)
   exact ⟨vs,v,rd',hv⟩
 · obtain ⟨rfl,hy⟩ := y
   obtain ⟨v',hv,r⟩ := l.get hx;rw [hy vs rd'] at hv;cases hv;exact ⟨Same.refl _,fun av' _ h2 => (r.av h2).same s⟩
theorem Zeb {K : PySem.W.Frag} {iv : Addr -> Prop} {H0 : Hp} {a : Addr} {vs : List V} {xs : List D} (rd : H0 a = some (.tup vs)) (l : RepL cA iv H0 xs vs) : Vo cA iv (Itt K a) xs H0 := fun H s => by
 have rd' : SqT K H a vs := SqT.of (s _ _ rd);refine ⟨fun i hi => ?_,fun i x v H' hx y => ?_,fun i hi => ⟨vs,rd',by rw [<- l.length]; exact hi⟩⟩
 · obtain ⟨v,hv,_⟩ := l.get (List.getElem?_eq_getElem hi)
   exact ⟨vs,v,rd',hv⟩
 · obtain ⟨rfl,hy⟩ := y
   obtain ⟨v',hv,r⟩ := l.get hx;rw [hy vs rd'] at hv;cases hv;exact ⟨Same.refl _,fun av' _ h2 => (r.av h2).same s⟩
theorem Zec {iv : Addr -> Prop} {H0 : Hp} {cs : List Nat} : Vo cA iv (Its cs) (cs.map fun c => .str [c]) H0 := fun H s => by
 refine ⟨fun i hi => (show i < cs.length by simpa using hi),fun i x v H' hx y => ?_,fun i hi => (show cs.length <= i by simpa using hi)⟩;obtain ⟨rfl,c,hc,rfl⟩ := y;rw [List.getElem?_map,hc] at hx;cases hx;exact ⟨Same.refl _,fun _ _ _ => rfl⟩
theorem Y8 {tl : TE} {ε : Env -> Option D} (h : VE G ow tl .cl ε) : VI G ow (ZiG G.1.K tl) (ZH ε) := fun H0 av A σ H δ E xs e R k => by
 unfold ZH at e;cases he : ε δ with
 | none => rw [he] at e; cases e
 | some d =>
  rw [he] at e;refine h H0 av A σ H δ E d he _ fun v H1 s r => ?_
  cases d <;> first | (cases e; done) | skip
  · cases e
    exact .inr (.inr ⟨_,r,k _ H1 s Zec⟩)
  · cases e
    obtain ⟨a,vs,rfl,na,rd,l⟩ := r;exact .inl ⟨a,vs,rfl,rd,k _ H1 s (Zcw (ZcW na rd fun b o n e => by rw [Uq fun ⟨i,z⟩ => n (.inr ⟨i,z⟩)]; exact e) l.cut)⟩
  · cases e
    obtain ⟨a,vs,rfl,na,rd,l⟩ := r;exact .inr (.inl ⟨a,vs,rfl,SqT.of rd,k _ H1 s (Zeb (by rw [Uq fun ⟨i,z⟩ => na (.inr ⟨i,z⟩)]; exact rd) l.cut)⟩)
def ZG (lo c : Int) (n : Nat) : List D := (List.range n).map fun k => .int (lo + (k : Nat) * c)
theorem Jg {iv : Addr -> Prop} {H0 : Hp} {lo : Int} {n : Nat} : Vo cA iv (Itr lo n) (ZG lo 1 n) H0 := fun H s => by
 refine ⟨fun i hi => (show i < n by simpa [ZG] using hi),fun i x v H' hx y => ?_,fun i hi => (show n <= i by simpa [ZG] using hi)⟩;obtain ⟨rfl,rfl⟩ := y;have hi : i < n := by have := (List.getElem?_eq_some_iff.mp hx).1; simpa [ZG] using this
 have : x = .int (lo + i) := by
  unfold ZG at hx;rw [List.getElem?_map,List.getElem?_range hi] at hx;have := Option.some.inj hx;rw [<- this];show D.int (lo + (i : Int) * 1) = _;rw [Int.mul_one]
 subst this;exact ⟨Same.refl _,fun _ _ _ => rfl⟩
theorem Zcx {iv : Addr -> Prop} {H0 : Hp} {lo c : Int} {n : Nat} : Vo cA iv (ZiJ lo c n) (ZG lo c n) H0 := fun H s => by
 refine ⟨fun i hi => (show i < n by simpa [ZG] using hi),fun i x v H' hx y => ?_,fun i hi => (show n <= i by simpa [ZG] using hi)⟩;obtain ⟨rfl,rfl⟩ := y;have hi : i < n := by have := (List.getElem?_eq_some_iff.mp hx).1; simpa [ZG] using this
 have : x = .int (lo + i * c) := by
  unfold ZG at hx;rw [List.getElem?_map,List.getElem?_range hi] at hx;exact (Option.some.inj hx).symm
 subst this;exact ⟨Same.refl _,fun _ _ _ => rfl⟩
def ZE (α : Env -> Option (List D)) (δ : Env) : Option (List D) := match α δ with
 | some [.int j] => if -(2 ^ 62) <= j /\ j < 2 ^ 62 then some (ZG 0 1 j.toNat) else none
 | some [.int i,.int j] => if -(2 ^ 62) <= i /\ i < 2 ^ 62 /\ -(2 ^ 62) <= j /\ j < 2 ^ 62 then some (ZG i 1 (j - i).toNat) else none
 | some [.int i,.int j,.int c] => if c ≠ 0 /\ c.natAbs < 1073741824 /\ Builtin.Range.small i j c = true then some (ZG i c (Builtin.Range.rangeSize i j c).toNat) else none
 | _ => none
theorem ql1 {av : Addr -> Prop} {A : Nat -> Option Addr} {H : Hp} {q : Ql} {x : Int} {vs : List V} (h : RepQL cA av A H q [.int x] vs) : vs = [.int x] := by
 obtain ⟨v,r,rfl,h1,h2⟩ := h;have := h1.any;cases (show v = _ from this); cases (show r = [] from h2); rfl
theorem ql2 {av : Addr -> Prop} {A : Nat -> Option Addr} {H : Hp} {q : Ql} {x y : Int} {vs : List V} (h : RepQL cA av A H q [.int x,.int y] vs) : vs = [.int x,.int y] := by
 obtain ⟨v,r,rfl,h1,h2⟩ := h;have := h1.any;cases (show v = _ from this); rw [ql1 h2]
theorem ql3 {av : Addr -> Prop} {A : Nat -> Option Addr} {H : Hp} {q : Ql} {x y z : Int} {vs : List V} (h : RepQL cA av A H q [.int x,.int y,.int z] vs) : vs = [.int x,.int y,.int z] := by
 obtain ⟨v,r,rfl,h1,h2⟩ := h;have := h1.any;cases (show v = _ from this); rw [ql2 h2]
theorem V2 {ta : TA} {q : Ql} {a : Env -> Option (List D)} (h : VA G ow ta q a) (hl : ∀ δ ds,a δ = some ds -> ds.length = 1) : VI G ow (ZfM ta) (ZE a) := fun H0 av A σ H δ E xs e R k => by
 unfold ZE at e;cases he : a δ with
 | none => rw [he] at e; cases e
 | some ds =>
  rw [he] at e;refine h H0 av A σ H δ E ds he _ fun vs H1 s r => ?_
  have hln := hl δ ds he
  split at e
  · rename_i j he2
    cases he2
    by_cases hz : -(2 ^ 62) <= j /\ j < 2 ^ 62
    · rw [if_pos hz] at e
      cases e;exact ⟨j,ql1 r,hz.1,hz.2,k _ H1 s Jg⟩
    · rw [if_neg hz] at e; cases e
  · rename_i he2; cases he2; simp at hln
  · rename_i he2; cases he2; simp at hln
  · cases e
theorem Zgi {ta : TA} {q : Ql} {a : Env -> Option (List D)} (h : VA G ow ta q a) (hl : ∀ δ ds,a δ = some ds -> ds.length = 2) : VI G ow (ZfN ta) (ZE a) := fun H0 av A σ H δ E xs e R k => by
 unfold ZE at e;cases he : a δ with
 | none => rw [he] at e; cases e
 | some ds =>
  rw [he] at e;refine h H0 av A σ H δ E ds he _ fun vs H1 s r => ?_
  have hln := hl δ ds he
  split at e
  · rename_i he2; cases he2; simp at hln
  · rename_i i j he2
    cases he2
    by_cases hz : -(2 ^ 62) <= i /\ i < 2 ^ 62 /\ -(2 ^ 62) <= j /\ j < 2 ^ 62
    · rw [if_pos hz] at e
      cases e;exact ⟨i,j,ql2 r,hz,k _ H1 s Jg⟩
    · rw [if_neg hz] at e; cases e
  · rename_i he2; cases he2; simp at hln
  · cases e
theorem Zbz {ta : TA} {q : Ql} {a : Env -> Option (List D)} (h : VA G ow ta q a) (hl : ∀ δ ds,a δ = some ds -> ds.length = 3) : VI G ow (Zhd ta) (ZE a) := fun H0 av A σ H δ E xs e R k => by
 unfold ZE at e;cases he : a δ with
 | none => rw [he] at e; cases e
 | some ds =>
  rw [he] at e;refine h H0 av A σ H δ E ds he _ fun vs H1 s r => ?_
  have hln := hl δ ds he
  split at e
  · rename_i he2; cases he2; simp at hln
  · rename_i he2; cases he2; simp at hln
  · rename_i i j c he2
    cases he2
    by_cases hz : c ≠ 0 /\ c.natAbs < 1073741824 /\ Builtin.Range.small i j c = true
    · rw [if_pos hz] at e
      cases e;exact ⟨i,j,c,ql3 r,hz,k _ H1 s Zcx⟩
    · rw [if_neg hz] at e; cases e
  · cases e
theorem Zgj {δ : Env} {ds : List D} (h : eNil δ = some ds) : ds.length = 0 := by cases h; rfl
theorem ZaN {a : Env -> Option D} {r : Env -> Option (List D)} {n : Nat} (hr : ∀ δ ds,r δ = some ds -> ds.length = n) : ∀ δ ds,Zb a r δ = some ds -> ds.length = n + 1 := fun δ ds h => by
 unfold Zb at h;cases ha : a δ with
 | none => rw [ha] at h; cases h
 | some x =>
  rw [ha] at h;cases hr' : r δ with
  | none => rw [hr'] at h; cases h
  | some xs => rw [hr'] at h; cases h; rw [List.length_cons,hr δ xs hr']
theorem Xw {a : Env -> Option D} : ∀ δ ds,Zb a eNil δ = some ds -> ds.length = 1 := ZaN fun _ _ => Zgj
theorem ZiM {a b : Env -> Option D} : ∀ δ ds,Zb a (Zb b eNil) δ = some ds -> ds.length = 2 := ZaN Xw
theorem ZiN {a b c : Env -> Option D} : ∀ δ ds,Zb a (Zb b (Zb c eNil)) δ = some ds -> ds.length = 3 := ZaN ZiM
def XX (n : Nat) (δ : Env) (js : List Nat) : Env := List.replicate n none ++ js.map fun j => (δ[j]?).getD none
def Z6 (γ : D -> Env -> Option Env) (τ : Env -> Option Bool) (ε : Env -> Option D) (δ0 : Env) : List D -> Option (List D)
 | [] => some []
 | x :: r => match γ x δ0 with
  | none => none
  | some δ1 => match τ δ1 with
   | none => none
   | some false => Z6 γ τ ε δ0 r
   | some true => match ε δ1 with
    | none => none
    | some y => match Z6 γ τ ε δ0 r with
     | none => none
     | some ys => some (y :: ys)
def ZT (ι : Env -> Option (List D)) (γ : D -> Env -> Option Env) (τ : Env -> Option Bool) (ε : Env -> Option D) (n : Nat) (js : List Nat) (δ : Env) : Option D := match ι δ with
 | none => none
 | some xs => match Z6 γ τ ε (XX n δ js) xs with
  | none => none
  | some ys => if ys.length <= sizeLine then some (.lst ys) else none
theorem ER.blk {H0 H : Hp} {av : Addr -> Prop} {A : Nat -> Option Addr} {σ : L2.St} {δ : Env} (n : Nat) (js : List Nat) (hjs : js.all (fun j => !ow.contains j) = true) (E : ER G ow H0 av A σ H δ) :
 ER ⟨G.1,fun _ => none⟩ [] H (AV av A) (fun _ => none) (L2.blk n σ js) H (XX n δ js) := by
 refine ⟨Same.refl H,E.avl,fun _ _ z => (by cases z),fun _ _ _ z => (by cases z),fun _ _ z => (by cases z),fun _ z => absurd rfl z,fun _ z => (by cases z),?_,fun _ _ z => (by cases z),fun _ _ z => (by cases z),fun i d e => ?_⟩
 · unfold L2.blk XX Qw
   rw [List.length_append,List.length_append,List.length_replicate,List.length_replicate,List.length_map,List.length_map]
 · unfold XX at e
   by_cases hi : i < n
   · rw [List.getElem?_append_left (by simpa using hi),List.getElem?_replicate,if_pos hi] at e
     cases e
   · rw [List.getElem?_append_right (by simpa using hi),List.length_replicate,List.getElem?_map] at e
     cases hj : js[i - n]? with
     | none => rw [hj] at e; cases e
     | some j =>
      rw [hj] at e;have e' : (δ[j]?).getD none = some d := Option.some.inj e
      have e2 : δ[j]? = some (some d) := by
       cases q : δ[j]? with
       | none => rw [q] at e'; cases e'
       | some z => rw [q] at e'; exact congrArg some e'
      obtain ⟨v,h1,h2,_⟩ := E.var j d e2
      have hjo : A j = none := by
       cases q : A j with
       | none => rfl
       | some a =>
        have h3 := E.dom j (by rw [q]; exact fun z => by cases z);have h4 := List.all_eq_true.mp hjs j (List.mem_of_getElem? hj);simp at h4;exact absurd h3 h4
      refine ⟨v,?_,fun _ => (h2 hjo).av fun b z => ?_,fun _ z => (by cases z)⟩
      · unfold L2.blk Qw
        rw [List.getElem?_append_right (by simpa using hi),List.length_replicate,List.getElem?_map,hj];show some ((σ[j]?).getD none) = _;rw [h1]; rfl
      · rcases z with z | ⟨_,z⟩
        · exact .inl z
        · cases z
theorem Xx {wi : TI} {g : TG} {tt : TT} {te : TE} {n : Nat} {js : List Nat} {ι : Env -> Option (List D)} {γ : D -> Env -> Option Env} {τ : Env -> Option Bool} {ε : Env -> Option D}
 (hjs : js.all (fun j => !ow.contains j) = true) (hi : VI G ow wi ι) (hg : VG ⟨G.1,fun _ => none⟩ [] [] g γ) (ht : VT ⟨G.1,fun _ => none⟩ [] tt τ) (he : VE ⟨G.1,fun _ => none⟩ [] te .cl ε) : VF G ow (ZfP wi g tt te n js) (ZT ι γ τ ε n js) := fun H0 av A σ H δ E d e Q k => by
 unfold ZT at e;cases hι : ι δ with
 | none => rw [hι] at e; cases e
 | some xs =>
  rw [hι] at e;dsimp only at e;cases hc : Z6 γ τ ε (XX n δ js) xs with
  | none => rw [hc] at e; cases e
  | some full =>
   rw [hc] at e;dsimp only at e
   by_cases hz : full.length <= sizeLine
   · rw [if_pos hz] at e
     have ed : D.lst full = d := Option.some.inj e;refine hi H0 av A σ H δ E xs hι _ fun J H1 s1 W => ?_
     have E1 := E.mono s1
     refine ⟨fun i m ys H' => m = xs.length - i /\ i <= xs.length /\ Same H1 H' /\ ∃ done rest,RepL G.1 (AV av A) H' done ys /\ Z6 γ τ ε (XX n δ js) (xs.drop i) = some rest /\ done ++ rest = full,
      ⟨xs.length,by simp,Nat.zero_le _,Same.refl _,[],full,.nil,hc,rfl⟩,?_⟩
     rintro i m ys H' ⟨rfl,hle,s',done,rest,rl,hr,hf⟩
     have E' := E1.mono s';have sc : Same (DL.cut A H1) H' := fun b o z => s' b o (ZbZ z).1
     obtain ⟨w1,w2,w3⟩ := W H' sc
     by_cases hlt : i < xs.length
     · refine .inr ⟨w1 i hlt,fun v H2 y => ?_⟩
       have hx : xs[i]? = some xs[i] := List.getElem?_eq_getElem hlt;obtain ⟨s2,rep⟩ := w2 i _ v H2 hx y;have rep' : Rep G.1 (AV av A) H2 xs[i] v := rep _ E'.avl fun b z => .inl z
       have E2 := E'.mono s2;have EB : ER ⟨G.1,fun _ => none⟩ [] H2 (AV av A) (fun _ => none) (L2.blk n σ js) H2 (XX n δ js) := E2.blk n js hjs
       have triv : ∀ (A' : Nat -> Option Addr) {σ' : L2.St} {H3 : Hp} {δ' : Env},ER ⟨G.1,fun _ => none⟩ [] H2 (AV av A) A' σ' H3 δ' -> ∀ b,AV (AV av A) A' b ↔ AV av A b := fun A' {σ' H3 δ'} E3 b => by
        constructor
        · rintro (z | ⟨j,z⟩)
          · exact z
          · have := E3.dom j (by rw [z]; exact fun z => by cases z)
            cases this
        · exact fun z => .inl z
       rw [List.drop_eq_getElem_cons hlt] at hr;unfold Z6 at hr;cases hγ : γ xs[i] (XX n δ js) with
       | none => rw [hγ] at hr; cases hr
       | some δ1 =>
        rw [hγ] at hr;dsimp only at hr;refine hg _ _ _ _ H2 _ EB _ v (rep'.av fun b z => .inl ((triv _ EB b).mp z)) δ1 hγ _ fun A3 σ3 H3 s3 E3 => ?_
        cases hτ : τ δ1 with
        | none => rw [hτ] at hr; cases hr
        | some c =>
         rw [hτ] at hr;refine ht _ _ A3 σ3 H3 δ1 E3 c hτ _ fun H4 s4 => ?_
         have E4 := E3.mono s4;cases c with
         | false =>
          exact Uj ⟨xs.length - (i + 1),by omega,rfl,hlt,(s'.trans s2).trans (s3.trans s4),done,rest,rl.same ((s2.trans s3).trans s4),hr,hf⟩
         | true =>
          dsimp only at hr;cases hε : ε δ1 with
          | none => rw [hε] at hr; cases hr
          | some yd =>
           rw [hε] at hr;dsimp only at hr;cases hr' : Z6 γ τ ε (XX n δ js) (xs.drop (i + 1)) with
           | none => rw [hr'] at hr; cases hr
           | some rest' =>
            rw [hr'] at hr;have hrr : yd :: rest' = rest := Option.some.inj hr;subst hrr;refine Uk (he _ _ A3 σ3 H4 δ1 E4 yd hε _ fun vy H5 s5 r5 => ?_);have sall : Same H' H5 := ((s2.trans s3).trans s4).trans s5;refine ⟨?_,xs.length - (i + 1),by omega,rfl,hlt,s'.trans sall,done ++ [yd],rest',(rl.same sall).append (.cons ((RepT.r r5).av fun b z => .inl ((triv _ E4 b).mpr z)) .nil),hr',by rw [<- hf]; simp⟩
            have := congrArg List.length hf;rw [List.length_append,List.length_cons] at this;have := rl.length;omega
     · have ei : i = xs.length := by omega
       subst ei;rw [List.drop_length] at hr;cases hr;refine .inl ⟨w3 _ (Nat.le_refl _),fun p hp => k p ys full H' (s1.trans s') hp (by rw [<- hf,List.append_nil]; exact rl) ed.symm⟩
   · rw [if_neg hz] at e; cases e
def spD (cA : Kn) (n : Nat) (m : List D -> Option D) : Sp := fun vs H Q _ => ∃ av ds d,(∀ a,av a -> H a ≠ none) /\ RepL cA av H ds vs /\ ds.length = n /\ m ds = some d /\ ∀ v H',Same H H' -> Rep cA av H' d v -> Q v H'
def Zp (n : Nat) (m : List D -> Option D) (dds : List D) (α : Env -> Option (List D)) (δ : Env) : Option D := match α δ with
 | some ds => if (ds ++ dds).length = n then m (ds ++ dds) else none
 | none => none
def Ql.cq : Ql -> Ql
 | .cl => .cl
 | _ => .dt
theorem ZL {n : Nat} {m : List D -> Option D} {t : TA} {q : Ql} {α : Env -> Option (List D)} {E0 : XK} (dds : List D) (hd : dds.all Zy = true) (h : VA G ow t q α) : VE G ow (UM (spD G.1 n m) (dds.map val) E0 t) q.cq (Zp n m dds α) := fun H0 av A σ H δ E d e Q k => by
 unfold Zp at e;cases he : α δ with
 | none => rw [he] at e; cases e
 | some ds =>
  rw [he] at e;dsimp only at e
  by_cases hz : (ds ++ dds).length = n
  · rw [if_pos hz] at e
    refine h H0 av A σ H δ E ds he _ fun vs H1 s1 r1 => ?_
    have E1 := E.mono s1;cases q with
    | cl => exact ⟨AV av A,ds ++ dds,d,E1.avl,r1.cl.append (.of_vals hd),hz,e,fun v H' s r => k v H' (s1.trans s) r.t⟩
    | tp => exact ⟨av,ds ++ dds,d,E1.avH,r1.any.append (.of_vals hd),hz,e,fun v H' s r => k v H' (s1.trans s) r.t⟩
    | dt => exact ⟨av,ds ++ dds,d,E1.avH,r1.any.append (.of_vals hd),hz,e,fun v H' s r => k v H' (s1.trans s) r.t⟩
  · rw [if_neg hz] at e; cases e
def run (N : Nat) (φ : Env -> Option Out) (ds : List D) : Option D := match φ (ds.map some ++ List.replicate (N - ds.length) none) with
 | some (.rt d) => some d
 | some (.nx _) => some .non
 | _ => none
theorem Zed {N : List Str} {ds : List D} {vs : List V} {av : Addr -> Prop} {H : Hp} (r : RepL cA av H ds vs) {i : Nat} {d : D} (h : (ds.map some ++ List.replicate (N.length - ds.length) none)[i]? = some (some d)) :
 ∃ v,(L2.start N vs)[i]? = some (some v) /\ Rep cA av H d v := by
 by_cases hi : i < ds.length
 · rw [List.getElem?_append_left (by simpa using hi),List.getElem?_map] at h
   cases hd : ds[i]? with
   | none => rw [hd] at h; cases h
   | some x =>
    rw [hd] at h;cases h;obtain ⟨v,hv,rv⟩ := r.get hd;refine ⟨v,?_,rv⟩;unfold L2.start;have : i < vs.length := by rw [<- r.length]; exact hi
    rw [List.getElem?_append_left (by simpa using this),List.getElem?_map,hv];rfl
 · rw [List.getElem?_append_right (by simpa using hi),List.getElem?_replicate] at h
   split at h <;> cases h
theorem ZaO {N : List Str} {ds : List D} {vs : List V} {av : Addr -> Prop} {H : Hp} (ha : ∀ a,av a -> H a ≠ none) (r : RepL cA av H ds vs) :
 ER ⟨cA,fun _ => none⟩ [] H av (fun _ => none) (L2.start N vs) H (ds.map some ++ List.replicate (N.length - ds.length) none) := by
 refine ⟨Same.refl H,ha,fun _ _ z => (by cases z),fun _ _ _ z => (by cases z),fun _ _ z => (by cases z),fun _ z => absurd rfl z,fun _ z => (by cases z),?_,fun _ _ z => (by cases z),fun _ _ z => (by cases z),fun i d e => ?_⟩
 · unfold L2.start
   rw [List.length_append,List.length_append,List.length_map,List.length_map,List.length_replicate,List.length_replicate,r.length]
 · obtain ⟨v,h1,h2⟩ := Zed r e
   refine ⟨v,h1,fun _ => h2.av fun b z => ?_,fun _ z => (by cases z)⟩;rcases z with z | ⟨_,z⟩
   · exact .inl z
   · cases z
section
variable {P : Program} {w : World} {K : PySem.W.Frag} {mg : Str -> Option Value} {base : Heap}
end
theorem Zdo {vs : List V} {lo hi : Option Int} : VY vs lo hi = cutL vs lo hi := by
 unfold VY cutL;have e : ∀ n d o,HT.sIx n d o = ZR n d o := fun n d o => by cases o <;> rfl
 rw [e,e]
theorem RepL.cutL {av : Addr -> Prop} {H : Hp} {xs : List D} {vs : List V} (l : RepL cA av H xs vs) (lo hi : Option Int) : RepL cA av H (L2.cutL xs lo hi) (L2.cutL vs lo hi) := by
 unfold L2.cutL;rw [l.length];exact (l.drop _).take _
def xNoP (_ : Env) : Option (Option Int) := some none
def xP (ε : Env -> Option D) (δ : Env) : Option (Option Int) := match ε δ with
 | some (.int i) => some (some i)
 | _ => none
def VO (G : Cn) (ow : List Nat) (to : TO) (ω : Env -> Option (Option Int)) : Prop :=
 ∀ H0 av A σ H δ,ER G ow H0 av A σ H δ -> ∀ x,ω δ = some x -> ∀ Q : Option Int -> Hp -> Prop,(∀ H',Same H H' -> Q x H') -> to σ H Q
theorem UW : VO G ow tNoPart xNoP := fun H0 av A σ H δ E x e Q k => by
 cases e;exact k H (Same.refl H)
theorem V3 {te : TE} {q : Ql} {ε : Env -> Option D} (h : VE G ow te q ε) : VO G ow (Zhc te) (xP ε) := fun H0 av A σ H δ E x e Q k => by
 unfold xP at e;cases he : ε δ with
 | none => rw [he] at e; cases e
 | some d =>
  rw [he] at e;cases d <;> first | (cases e; done) | skip
  cases e;exact h H0 av A σ H δ E _ he _ fun v H' s r => ⟨_,r.any,k H' s⟩
def slD : D -> Option Int -> Option Int -> Option D
 | .str a,lo,hi => if a.length <= sizeLine then some (.str (L2.cutL a lo hi)) else none
 | .lst xs,lo,hi => some (.lst (L2.cutL xs lo hi))
 | .tup xs,lo,hi => if ZR xs.length 0 lo = 0 /\ ZR xs.length xs.length hi = xs.length then none else some (.tup (L2.cutL xs lo hi))
 | _,_,_ => none
def eSl (a : Env -> Option D) (lo hi : Env -> Option (Option Int)) (δ : Env) : Option D := match a δ with
 | some x => match lo δ with
  | some l => match hi δ with
   | some u => slD x l u
   | none => none
  | none => none
 | none => none
theorem ZeN {a : Env -> Option D} {lo hi : Env -> Option (Option Int)} {δ : Env} {d : D} (h : eSl a lo hi δ = some d) : ∃ x l u,a δ = some x /\ lo δ = some l /\ hi δ = some u /\ slD x l u = some d := by
 unfold eSl at h;cases ea : a δ with
 | none => rw [ea] at h; cases h
 | some x =>
  rw [ea] at h;cases el : lo δ with
  | none => rw [el] at h; cases h
  | some l =>
   rw [el] at h;cases eu : hi δ with
   | none => rw [eu] at h; cases h
   | some u => rw [eu] at h; exact ⟨x,l,u,rfl,rfl,rfl,h⟩
theorem Ur {ta : TE} {tl th : TO} {q : Ql} {a : Env -> Option D} {lo hi : Env -> Option (Option Int)} (hq : q = .cl \/ q = .tp) (ha : VE G ow ta q a) (hl : VO G ow tl lo) (hh : VO G ow th hi) : VE G ow (tSl (ZiI G.1.K) ta tl th) .cl (eSl a lo hi) := fun H0 av A σ H δ E d e Q k => by
 obtain ⟨x,l,u,ex,el,eu,ed⟩ := ZeN e;refine ha H0 av A σ H δ E x ex _ fun v H1 s1 r1 => hl H0 av A σ H1 δ (E.mono s1) l el _ fun H2 s2 => hh H0 av A σ H2 δ ((E.mono s1).mono s2) u eu _ fun H3 s3 => ?_
 have s13 := s2.trans s3;have E3 := (E.mono s1).mono s13
 have r3 : RepT G.1 av (AV av A) H3 x v := by
  have := (r1.same s13).tp;rcases hq with rfl | rfl <;> exact this
 cases x <;> first | (cases ed; done) | skip
 · rename_i cs
   cases (show v = _ from r3);dsimp only [slD] at ed
   by_cases hz : cs.length <= sizeLine
   · rw [if_pos hz] at ed
     cases ed;exact .inl ⟨cs,rfl,hz,k _ H3 (s1.trans s13) rfl⟩
   · rw [if_neg hz] at ed; cases ed
 · cases ed
   obtain ⟨p,vs,rfl,_,rd,ll⟩ := r3;refine .inr (.inl ⟨p,vs,rfl,rd,fun p' hp => ?_⟩);rw [Zdo];exact k _ _ ((s1.trans s13).trans (Yc hp)) ⟨p',_,rfl,fun z => (E3.avl p' z hp).elim,SqL.of ZM,(ll.cutL l u).same (Yc hp)⟩
 · rename_i xs
   dsimp only [slD] at ed
   by_cases hz : ZR xs.length 0 l = 0 /\ ZR xs.length xs.length u = xs.length
   · rw [if_pos hz] at ed; cases ed
   · rw [if_neg hz] at ed
     cases ed;obtain ⟨p,vs,rfl,_,rd,ll⟩ := r3;refine .inr (.inr ⟨p,vs,rfl,SqT.of rd,?_,fun p' hp => ?_⟩)
     · have e : ∀ n d o,HT.sIx n d o = ZR n d o := fun n d o => by cases o <;> rfl
       rw [e,e,<- ll.length];exact hz
     · rw [Zdo]
       exact k _ _ ((s1.trans s13).trans (Yc hp)) ⟨p',_,rfl,fun z => E3.avl p' z hp,ZM,(ll.cutL l u).same (Yc hp)⟩
def kind : D -> String
 | .non => "NoneType"
 | .bl _ => "bool"
 | .int _ => "int"
 | .str _ => "str"
 | .lst _ => "list"
 | .tup _ => "tuple"
 | .obj c _ _ => c
 | .dct _ _ => "dict"
 | .dtt _ _ => "dict"
def plainKinds : List String := ["NoneType", "bool", "int", "str", "list", "tuple"]
def ZiO (tab : List (String × Bool)) : D -> Option Bool
 | .obj c _ _ => if plainKinds.contains c then none else tab.lookup c
 | .dct _ _ => none
 | .dtt _ _ => none
 | d => tab.lookup (kind d)
def ZkG (tab : List (String × Bool)) (a : Env -> Option D) (δ : Env) : Option D := match a δ with
 | some d => match ZiO tab d with
  | some b => some (.bl b)
  | none => none
 | none => none
structure ClsI (K : PySem.W.Frag) (C : Addr) : Prop where
 cl : Cls K C
 ha : PySem.W.findIn K (.ref C) "__class__" = some (some (.builtin "object.__class__"))
 hn : PySem.W.specialIn K (.builtin "object.__class__") "__get__" = some (some (.builtin "getset_descriptor.__get__"))
 htk : PySem.W.takesIn K (.builtin "object.__class__") = some true
 hm : PySem.W.mroIn K C (.type "object") = some true
structure IsiOk (K : PySem.W.Frag) (cA : Kn) (cv : Value) (tab : List (String × Bool)) : Prop where
 plain : ∀ k ∈ plainKinds,∀ b,tab.lookup k = some b -> kitOne K (.type k) cv = some b
 own : ∀ (c : String) b,plainKinds.contains c = false -> tab.lookup c = some b -> kitOne K (.ref (cA.c c)) cv = some b /\ ClsI K (cA.c c)
theorem Zb1 {β : Type} {c : String} {b : β} : ∀ {tab : List (String × β)},tab.lookup c = some b -> (c,b) ∈ tab
 | [],h => by simp at h
 | (c',b') :: r,h => by
  rw [List.lookup_cons] at h;cases hc : c == c' with
  | true =>
   rw [hc] at h;cases h;rw [eq_of_beq hc];exact List.mem_cons_self
  | false =>
   rw [hc] at h;exact List.mem_cons_of_mem _ (Zb1 h)
end
end DL
namespace L2
open PySem PySem.Spec
section
variable {X : Cx}
theorem Jh : MtR X "str.index" (fun x xs H Q => ∃ a c i,x = S a /\ xs = [S [c]] /\ Xh c a = (i : Nat) /\ Q (.int (i : Nat)) H) := by
 intro pins s σ H x xs v us Q I rx rs h;obtain ⟨a,c,i,rfl,rfl,e,q⟩ := h;obtain ⟨t,rfl⟩ := rx;obtain ⟨u,rfl,t',rfl⟩ := Vh rs;have e' := Zgd a c;rw [e] at e';unfold Txt.find at e';cases ho : Builtin.Str.occurrences (tx a) (tx [c]) 0 (tx a).length 1 with
 | nil => rw [ho] at e'; exact absurd e' (by show ¬ (-1 : Int) = (i : Int); omega)
 | cons j r =>
  rw [ho] at e'
  have e2 : j = i := by
   have : (j : Int) = (i : Int) := e';omega
  subst e2;exact SC.index ho ⟨.int _,H,I.tok _,⟨_,rfl⟩,q⟩
theorem ZaD : ∀ {l : List (List Nat)} {us : List Value},Vals (l.map S) us -> PyProof.Rows.StrsAre us (l.map tx)
 | [],us,r => by
  rw [List.map_nil] at r;cases r;exact .nil
 | a :: l,us,r => by
  rw [List.map_cons] at r;cases r with
  | cons r1 r2 =>
   obtain ⟨t,rfl⟩ := r1;exact .cons _ t (ZaD r2)
theorem Zdp {K : PySem.W.Frag} (hK : X.K = K := by rfl) : MtR X "str.join" (fun x xs H Q => ∃ sep p l,x = S sep /\ xs = [.ref p] /\ SqL K H p (l.map S) /\ (l.map List.length).sum + l.length * sep.length <= sizeLine /\ Q (S (Vi sep l)) H) := by
 subst hK;intro pins s σ H x xs v us Q I rx rs h;obtain ⟨sep,p,l,rfl,rfl,hq,hz,q⟩ := h;obtain ⟨t,rfl⟩ := rx;obtain ⟨u,rfl,rp⟩ := Vh rs;cases rp;obtain ⟨its,rv,pl,_⟩ := I.list hq;have hs : sizeLine = 16777216 := sizeLine_eq;refine PyProof.Rows.join_list (ys:=l.map tx) pl.isList (by simpa using ZaD rv) ?_ fun t' k => ⟨S (Vi sep l),H,I.tok _,⟨t',?_⟩,q⟩
 · have e : ((l.map tx).map (·.length)) = l.map List.length := by
    rw [List.map_map];exact List.map_congr_left fun a _ => Xr a
   rw [e,List.length_map,Xr];omega
 · have := Zbx sep l
   show Value.str (Builtin.Str.glued (tx sep) (l.map tx)) t' = _;rw [StrLaws.glued_eq_join,Zbx]
end
end L2
namespace DL
open PySem PySem.Spec L2
section
variable {cA : Kn} {G : Cn} {ow : List Nat}
def ZiP (cA : Kn) (r : V -> List V -> Hp -> VK -> Prop) (f : List Nat -> List D -> Option D) : Prop :=
 ∀ (i : Addr -> Prop) (H : Hp) (a : List Nat) (ds : List D) (vs : List V) (d : D),(∀ a,i a -> H a ≠ none) -> UT cA i H ds vs -> f a ds = some d -> ∀ Q : VK,(∀ v H',Same H H' -> Rep cA i H' d v -> Q v H') -> r (S a) vs H Q
def eBM (f : List Nat -> List D -> Option D) (a : Env -> Option D) (α : Env -> Option (List D)) (δ : Env) : Option D := match a δ with
 | some (.str cs) => match α δ with
  | some ds => f cs ds
  | none => none
 | _ => none
theorem UX {K : PySem.W.Frag} {r : V -> List V -> Hp -> VK -> Prop} {f : List Nat -> List D -> Option D} {to : TE} {t : TA} {q0 q : Ql} {a : Env -> Option D} {α : Env -> Option (List D)} (hr : ZiP G.1 r f) (ha : VE G ow to q0 a) (h : VA G ow t q α) :
 VE G ow (tBM K "str" r to t) q.it (eBM f a α) := fun H0 av A σ H δ E d e Q k => by
 unfold eBM at e;cases hx : a δ with
 | none => rw [hx] at e; cases e
 | some x =>
  rw [hx] at e;cases x <;> first | (cases e; done) | skip
  rename_i cs;dsimp only at e;cases he : α δ with
  | none => rw [he] at e; cases e
  | some ds =>
   rw [he] at e;refine ha H0 av A σ H δ E _ hx _ fun v H1 s1 r1 => ?_
   have e1 : v = S cs := r1.any;subst e1;refine ⟨rfl,h H0 av A σ H1 δ (E.mono s1) ds he _ fun vs H2 s2 r2 => ?_⟩;have E2 := (E.mono s1).mono s2;have s12 := s1.trans s2;cases q with
   | cl => exact hr _ H2 cs ds vs d E2.avl r2.il e _ fun v H' s r => k v H' (s12.trans s) r.t
   | tp => exact hr _ H2 cs ds vs d E2.avl r2.il e _ fun v H' s r => k v H' (s12.trans s) r.t
   | dt => exact hr _ H2 cs ds vs d E2.avH r2.il e _ fun v H' s r => k v H' (s12.trans s) r.t
def indexD (a : List Nat) : List D -> Option D
 | [.str [c]] => if 0 <= Xh c a then some (.int (Xh c a)) else none
 | _ => none
theorem Zh3 {i : Addr -> Prop} {H : Hp} {b : List Nat} {vs : List V} (h : UT cA i H [.str b] vs) : vs = [S b] := by
 obtain ⟨v,t,rfl,hx⟩ := il1 h;rw [show v = S b from hx]
theorem Ji : ZiP cA (fun x xs H Q => ∃ a c i,x = S a /\ xs = [S [c]] /\ Xh c a = (i : Nat) /\ Q (.int (i : Nat)) H) indexD := fun i H a ds vs d _ h e Q k => by
 unfold indexD at e
 split at e
 · rename_i c
   by_cases hz : 0 <= Xh c a
   · rw [if_pos hz] at e
     cases e;exact ⟨a,c,(Xh c a).toNat,rfl,Zh3 h,by omega,k _ H (Same.refl H) (by rw [Int.toNat_of_nonneg hz]; rfl)⟩
   · rw [if_neg hz] at e; cases e
 · cases e
def strs? : List D -> Option (List (List Nat))
 | [] => some []
 | .str a :: r => match strs? r with
  | some l => some (a :: l)
  | none => none
 | _ => none
theorem Zdq : ∀ {xs : List D} {l : List (List Nat)},strs? xs = some l -> xs = l.map D.str
 | [],l,h => by cases h; rfl
 | x :: xs,l,h => by
  cases x <;> first | (cases h; done) | skip
  rename_i a;unfold strs? at h;cases hr : strs? xs with
  | none => rw [hr] at h; cases h
  | some r =>
   rw [hr] at h;cases h;rw [List.map_cons,Zdq hr]
def joinD (sep : List Nat) : List D -> Option D
 | [.lst xs] => match strs? xs with
  | some l => if (l.map List.length).sum + l.length * sep.length <= sizeLine then some (.str (Vi sep l)) else none
  | none => none
 | _ => none
theorem Zdr : ZiP cA (fun x xs H Q => ∃ sep p l,x = S sep /\ xs = [.ref p] /\ SqL cA.K H p (l.map S) /\ (l.map List.length).sum + l.length * sep.length <= sizeLine /\ Q (S (Vi sep l)) H) joinD := fun i H a ds vs d _ h e Q k => by
 unfold joinD at e
 split at e
 · rename_i xs
   cases hs : strs? xs with
   | none => rw [hs] at e; cases e
   | some l =>
    rw [hs] at e;dsimp only at e
    by_cases hz : (l.map List.length).sum + l.length * a.length <= sizeLine
    · rw [if_pos hz] at e
      cases e;obtain ⟨v,t,rfl,p,ws,rfl,_,rd,ll⟩ := il1 h;have ex := Zdq hs;subst ex;have ev := ll.vals (by rw [List.all_map]; exact List.all_eq_true.mpr fun _ _ => rfl);rw [List.map_map] at ev;subst ev;exact ⟨a,p,l,rfl,rfl,rd,hz,k _ H (Same.refl H) rfl⟩
    · rw [if_neg hz] at e; cases e
 · cases e
end
end DL
namespace L2
open PySem PySem.Spec
structure FunX (K : PySem.W.Frag) (x qual : Str) (st : Stmt) (f : Addr) (fd : FuncData) : Prop where
 ex : ∃ (oc : Value) (od : Option Addr) (dV kV doc pm : Value) (an : Option Addr) (cdv ct : Value) (osl : Array (Option Value)),
  fd = fnOf x qual (defArgs st) (defBody st) (defScope st) dV kV doc pm an cdv ct /\ K.lookup f = some ⟨oc,od,.func fd,osl⟩ /\ codeIn K cdv qual = true
theorem Fun.x {K : PySem.W.Frag} {x qual : Str} {st : Stmt} {f : Addr} {fd : FuncData} (F : Fun K x qual st f fd) : FunX K x qual st f fd := by
 obtain ⟨oc,od,kV,doc,pm,an,cdv,ct,osl,h⟩ := F.ex;exact ⟨oc,od,.none,kV,doc,pm,an,cdv,ct,osl,h⟩
section
variable {P : Program} {w : World} {K : PySem.W.Frag} {mg : Str -> Option Value} {base : Heap}
theorem FunX.ok {x qual : Str} {st : Stmt} {f : Addr} {fd : FuncData} {N ps : List Str} {k : Nat} {sp : Sp} (F : FunX K x qual st f fd) (S : FnScope N ps (defScope st)) (len : ∀ vs H Q E,sp vs H Q E -> vs.length = ps.length)
 (hbody : ∀ (cdv : Value) (A : Around) (outer : List Env) (s : Shared) (H : Hp) (vs : List V) (Q : VK) (E : XK),Room k (A.deeper (PyProof.Rows.envOfC qual (defScope st) s.heap.objs.size f cdv)) -> sp vs H Q E ->
   ∃ t,PSs (Yu CX0 P w K mg base N qual (defScope st) f cdv A outer s H E).nox (defBody st) t /\ t { nx := fun _ H' => Q .non H',rt := Q } (start N vs) H) : FnOk P w K mg base CX0 (k + 1) f fd ps sp := by
 obtain ⟨oc,od,dV,kV,doc,pm,an,cdv,ct,osl,rfl,lk,hcd⟩ := F.ex;refine ZfO lk hcd S len fun A outer s H vs Q E hr hsp => ?_
 obtain ⟨t,h,q⟩ := hbody cdv A outer s H vs Q E hr hsp;exact ⟨t,h.nox,q⟩
end
section
variable {X : Cx}
end
structure CMeth (K : PySem.W.Frag) (C : Addr) (m : Str) (f : Addr) : Prop where
 ga : PySem.W.specialIn K (.ref C) "__getattribute__" = some (some (.builtin "type.__getattribute__"))
 rd : PySem.W.readsIn K C (.type "type") = true
 fc : PySem.W.findCls K (.ref C) (.type "type") m = some (.val (.ref f))
 kp : keepIn K (.ref f) = true
section
variable {X : Cx} {CX : CXT} {k : Nat} {f C : Addr} {fd : FuncData} {ps : List Str} {sp : Sp} {dvs : List V} {ds : List Value} {E : XK} {x m : Str} {p pos apos : Pos} {e o : Expr} {es : List Expr} {ta : TE} {t : TA}
end
end L2
namespace DL
open PySem PySem.Spec L2
theorem Zah {a b : String} (h : Str.ofString a = Str.ofString b) : a = b := by
 rw [Str.ofString_eq_toList,Str.ofString_eq_toList] at h
 have h1 : (a.toList.map Char.toNat) = (b.toList.map Char.toNat) := by
  have := congrArg (fun s : Str => s.cps.toList) h;simpa using this
 have inj : ∀ {x y : List Char},x.map Char.toNat = y.map Char.toNat -> x = y := by
  intro x
  induction x with
  | nil =>
   intro y h;cases y with
   | nil => rfl
   | cons _ _ => cases h
  | cons c x ih =>
   intro y h;cases y with
   | nil => cases h
   | cons d y =>
    rw [List.map_cons,List.map_cons,List.cons.injEq] at h;have : c = d := Char.toNat_inj.mp h.1;rw [this,ih h.2]
 exact String.toList_inj.mp (inj h1)
theorem Zai (a b : String) : (Str.ofString a == Str.ofString b) = (a == b) := by
 rw [Bool.eq_iff_iff,beq_iff_eq,beq_iff_eq];exact ⟨Zah,fun h => by rw [h]⟩
section
variable {cA : Kn} {G : Cn} {ow owN owB owC : List Nat}
theorem Zb2 {av : Addr -> Prop} {H : Hp} {f : String} : ∀ {ks : List String} {xs : List D} {vs : List V} {d : D},RepL cA av H xs vs -> (ks.zip xs).lookup f = some d -> ∃ v,((ks.map Str.ofString).zip vs).lookup (Str.ofString f) = some v /\ Rep cA av H d v
 | [],_,_,_,_,h => by simp at h
 | k :: ks,[],_,_,_,h => by simp at h
 | k :: ks,x :: xs,vs,d,l,h => by
  obtain ⟨v,r,rfl,h1,h2⟩ := l.uncons;rw [List.zip_cons_cons,List.lookup_cons] at h;rw [List.map_cons,List.zip_cons_cons,List.lookup_cons,Zai];cases hk : f == k with
  | true => rw [hk] at h; cases h; exact ⟨v,rfl,h1⟩
  | false => rw [hk] at h; exact Zb2 h2 h
theorem Jj {f : String} : ∀ {ks : List String} {vs : List V},ks.contains f = false -> ((ks.map Str.ofString).zip vs).lookup (Str.ofString f) = none
 | [],_,_ => by simp
 | k :: ks,[],_ => by simp
 | k :: ks,v :: vs,h => by
  rw [List.contains_cons,Bool.or_eq_false_iff] at h;rw [List.map_cons,List.zip_cons_cons,List.lookup_cons,Zai,h.1];exact Jj h.2
theorem Zds {f : String} {y : V} : ∀ {ks : List String} {vs : List V},ks.length = vs.length -> ks.contains f = false -> Yp (Str.ofString f) y ((ks.map Str.ofString).zip vs) = (((ks ++ [f]).map Str.ofString).zip (vs ++ [y]))
 | [],[],_,_ => rfl
 | [],_ :: _,h,_ => by simp at h
 | _ :: _,[],h,_ => by simp at h
 | k :: ks,v :: vs,h,hf => by
  rw [List.contains_cons,Bool.or_eq_false_iff] at hf
  have hne : ¬ Str.ofString k = Str.ofString f := fun z => by
   have := Zah z;have h1 := hf.1;rw [this] at h1;simp at h1
  rw [List.map_cons,List.zip_cons_cons,List.cons_append,List.cons_append,List.map_cons,List.zip_cons_cons];rw [show Yp (Str.ofString f) y ((Str.ofString k,v) :: (ks.map Str.ofString).zip vs) = (if Str.ofString k = Str.ofString f then (Str.ofString k,y) :: (ks.map Str.ofString).zip vs else (Str.ofString k,v) :: Yp (Str.ofString f) y ((ks.map Str.ofString).zip vs)) from rfl,if_neg hne];rw [Zds (by simpa using h) hf.2]
def QG (K : PySem.W.Frag) (cA : Kn) (cls : List String) (f : String) : Prop := ∀ c ∈ cls,Cls K (cA.c c) /\ NoAttr K (cA.c c) (Str.ofString f)
def ZY (cls : List String) (f : String) (a : Env -> Option D) (δ : Env) : Option D := match a δ with
 | some (.obj c ks xs) => if cls.contains c then (ks.zip xs).lookup f else none
 | _ => none
theorem XY {K : PySem.W.Frag} {ta : TE} {q : Ql} {a : Env -> Option D} {cls : List String} {f : String} (F : QG K G.1 cls f) (ha : VE G ow ta q a) : VE G ow (ZiD K ta (Str.ofString f)) q.it (ZY cls f a) := fun H0 av A σ H δ E d e Q k => by
 unfold ZY at e;cases he : a δ with
 | none => rw [he] at e; cases e
 | some x =>
  rw [he] at e;cases x <;> first | (cases e; done) | skip
  rename_i c ks xs;dsimp only at e
  by_cases hc : cls.contains c = true
  · rw [if_pos hc] at e
    obtain ⟨h1,h2⟩ := F c (by simpa using hc);refine ha H0 av A σ H δ E _ he _ fun v H1 s r => ?_
    obtain ⟨p,dx,vs,rfl,_,rd,_,l⟩ := r.tp;obtain ⟨w,hw,rw'⟩ := Zb2 l e;refine ⟨p,_,dx,_,w,rfl,rd,h1,h2,hw,k w H1 s ?_⟩;cases q <;> exact rw'.t
  · rw [if_neg hc] at e; cases e
def Vp (i : Nat) (cls : List String) (f : String) (ε : Env -> Option D) (δ : Env) : Option Out := match ε δ with
 | some d => match Za i δ with
  | some (.obj c ks xs) => if cls.contains c && !ks.contains f && decide (ks.length < 1000) then some (.nx (δ.set i (some (.obj c (ks ++ [f]) (xs ++ [d]))))) else none
  | _ => none
 | none => none
theorem Zfm {K : PySem.W.Frag} {te : TE} {ε : Env -> Option D} {cls : List String} {f : String} (i : Nat) (hi : ow.contains i = true) (F : QG K G.1 cls f) (h : VE G ow te .cl ε) : VS G ow ow owB owC (Zku K (YO i) te (Str.ofString f)) (Vp i cls f ε) := fun H0 av A σ H δ E o e De k => by
 unfold Vp at e;cases he : ε δ with
 | none => rw [he] at e; cases e
 | some d =>
  rw [he] at e;dsimp only at e;cases hv : Za i δ with
  | none => rw [hv] at e; cases e
  | some x =>
   rw [hv] at e;cases x <;> first | (cases e; done) | skip
   rename_i c ks xs;dsimp only at e
   by_cases hz : (cls.contains c && !ks.contains f && decide (ks.length < 1000)) = true
   · rw [if_pos hz] at e
     cases e;simp only [Bool.and_eq_true,decide_eq_true_eq,Bool.not_eq_true'] at hz;obtain ⟨⟨z1,z2⟩,z3⟩ := hz;obtain ⟨h1,h2⟩ := F c (by simpa using z1);have hi' : i ∈ ow := by simpa using hi
     cases hA : A i with
     | none => exact absurd hA (E.dom' i hi')
     | some a =>
      refine h H0 av A σ H δ E d he _ fun y H1 s r => ?_
      have E1 := E.mono s;obtain ⟨v,g1,_,g3⟩ := E1.var i _ (YL hv);obtain ⟨rfl,dx,vs,q1,q0,q2⟩ := g3 a hA;have hl : ks.length = vs.length := q0.trans q2.length;refine ⟨_,g1,a,_,dx,_,rfl,q1,h1,h2,?_,k A σ _ (E1.put hA (YL hv) (fun b o hb e => by rw [Zt hb]; exact e) (by rw [ZM]; exact fun z => by cases z) ?_)⟩
      · rw [List.length_zip,List.length_map]; omega
      · refine ⟨dx,vs ++ [y],?_,by rw [List.length_append,List.length_append,q0]; rfl,?_⟩
        · rw [ZM,Zds hl z2]
        · have ex : ∀ b o, ¬ AV av A b -> H1 b = some o -> upd H1 a (.ins (G.1.c c) dx (Yp (Str.ofString f) y ((ks.map Str.ofString).zip vs))) b = some o := fun b o n e => by
           rw [Zt fun z => n (.inr ⟨i,by rw [z]; exact hA⟩)];exact e
          exact (q2.append (.cons (RepT.r r) .nil)).ext ex
   · rw [if_neg hz] at e; cases e
def spI (cA : Kn) (n : Nat) (m : List D -> Option D) : Sp := fun vs H Q _ => ∃ (x : Addr) (r : List V) (av : Addr -> Prop) (ds : List D) (d d' : D),vs = .ref x :: r /\ (∀ a,av a -> H a ≠ none) /\ ¬ av x /\ Own cA (fun a => av a \/ a = x) H d x /\ RepL cA (fun a => av a \/ a = x) H ds r /\ (d :: ds).length = n /\ m (d :: ds) = some d' /\
 ∀ H',(∀ b o,b ≠ x -> H b = some o -> H' b = some o) -> Own cA (fun a => av a \/ a = x) H' d' x -> Q .non H'
theorem Own.live {av : Addr -> Prop} {H : Hp} {d : D} {a : Addr} (h : Own cA av H d a) : H a ≠ none := by
 cases d with
 | lst xs => obtain ⟨vs,q,_⟩ := h; rw [q]; exact fun z => by cases z
 | obj c ks xs => obtain ⟨dx,vs,q,_⟩ := h; rw [q]; exact fun z => by cases z
 | dct ks xs => obtain ⟨vs,q,_⟩ := h; rw [q]; exact fun z => by cases z
 | dtt ks xs => obtain ⟨vs,q,_⟩ := h; rw [q]; exact fun z => by cases z
 | _ => exact h.elim
theorem Own.av {av av' : Addr -> Prop} {H : Hp} {d : D} {a : Addr} (k : ∀ b,av' b -> av b \/ H b = none) (h : Own cA av H d a) : Own cA av' H d a := by
 cases d with
 | lst xs => obtain ⟨vs,q,l⟩ := h; exact ⟨vs,q,l.av k⟩
 | obj c ks xs => obtain ⟨dx,vs,q,z,l⟩ := h; exact ⟨dx,vs,q,z,l.av k⟩
 | dct ks xs => obtain ⟨vs,q,z,l⟩ := h; exact ⟨vs,q,z,l.av k⟩
 | dtt ks xs => obtain ⟨vs,q,z,l⟩ := h; exact ⟨vs,q,z,l.av k⟩
 | _ => exact h.elim
theorem Own.rep {av : Addr -> Prop} {H : Hp} {d : D} {a : Addr} (n : ¬ av a) (h : Own cA av H d a) : Rep cA av H d (.ref a) := by
 cases d with
 | lst xs => obtain ⟨vs,q,l⟩ := h; unfold Rep; exact ⟨a,vs,rfl,fun z => (n z).elim,SqL.of q,l⟩
 | obj c ks xs => obtain ⟨dx,vs,q,z,l⟩ := h; unfold Rep; exact ⟨a,dx,vs,rfl,n,q,z,l⟩
 | dct ks xs => obtain ⟨vs,q,z,l⟩ := h; unfold Rep; exact ⟨a,vs,rfl,n,q,z,l⟩
 | dtt ks xs => obtain ⟨vs,q,z,l⟩ := h; unfold Rep; exact ⟨a,vs,rfl,n,q,z,l⟩
 | _ => exact h.elim
def V4 (c : String) (n : Nat) (m : List D -> Option D) (dds : List D) (α : Env -> Option (List D)) (δ : Env) : Option D := match α δ with
 | some ds => if (D.obj c [] [] :: (ds ++ dds)).length = n then m (.obj c [] [] :: (ds ++ dds)) else none
 | none => none
theorem Zgk {n : Nat} {m : List D -> Option D} {t : TA} {α : Env -> Option (List D)} {E0 : XK} {c : String} (dds : List D) (hd : dds.all Zy = true) (h : VA G ow t .cl α) : VE G ow (Zhb (G.1.c c) (spI G.1 n m) (dds.map val) E0 t) .cl (V4 c n m dds α) := fun H0 av A σ H δ E d e Q k => by
 unfold V4 at e;cases he : α δ with
 | none => rw [he] at e; cases e
 | some ds =>
  rw [he] at e;dsimp only at e
  by_cases hz : (D.obj c [] [] :: (ds ++ dds)).length = n
  · rw [if_pos hz] at e
    refine h H0 av A σ H δ E ds he _ fun vs H1 s1 r1 x dx hx hdx hne => ?_
    have E1 := E.mono s1;have s2 : Same H1 (upd (upd H1 dx (.own x)) x (.ins (G.1.c c) dx [])) := (Yc hdx).trans (Yc (by rw [Zt (Ne.symm hne)]; exact hx));have nx : ¬ AV av A x := fun z => E1.avl x z hx
    refine ⟨x,vs ++ dds.map val,AV av A,ds ++ dds,.obj c [] [],d,rfl,fun a z => ?_,nx,⟨dx,[],ZM,rfl,.nil⟩,?_,hz,e,fun H' hk ho => ⟨rfl,k _ H' ?_ ?_⟩⟩
    · have := E1.avl a z
      cases q : H1 a with
      | none => exact absurd q this
      | some o => rw [s2 a o q]; exact fun z => by cases z
    · refine RepL.same s2 ((r1.cl.append (.of_vals hd)).av fun b z => ?_)
      rcases z with z | z
      · exact .inl z
      · exact .inr (by rw [z]; exact hx)
    · refine s1.trans fun b o e => hk b o (fun z => by rw [z,hx] at e; cases e) (s2 b o e)
    · exact ((ho.av fun b z => .inl (.inl z)).rep nx).t
  · rw [if_neg hz] at e; cases e
def Zhl (i n : Nat) (m : List D -> Option D) (dds : List D) (α : Env -> Option (List D)) (δ : Env) : Option Out := match Za i δ with
 | some d => match α δ with
  | some ds => if (d :: (ds ++ dds)).length = n then (match m (d :: (ds ++ dds)) with
   | some d' => some (.nx (δ.set i (some d')))
   | none => none) else none
  | none => none
 | none => none
def runI (N : Nat) (φ : Env -> Option Out) (ds : List D) : Option D := match φ (ds.map some ++ List.replicate (N - ds.length) none) with
 | some (.nx δ) => Za 0 δ
 | _ => none
section
variable {P : Program} {w : World} {K : PySem.W.Frag} {mg : Str -> Option Value} {base : Heap}
theorem ZkS {x qual : Str} {st : Stmt} {f : Addr} {fd : FuncData} {N ps : List Str} {k : Nat} {φ : Env -> Option Out} (F : FunX K x qual st f fd) (S : FnScope N ps (defScope st))
 (hbody : ∀ (cdv : Value) (A : Around) (outer : List PySem.Env) (s : Shared) (H : Hp) (E : XK) (a : Addr),Room k (A.deeper (PyProof.Rows.envOfC qual (defScope st) s.heap.objs.size f cdv)) ->
   ∃ t,PSs (Yu CX0 P w K mg base N qual (defScope st) f cdv A outer s H E).nox (defBody st) t /\ VS ⟨cA,fun j => if j = 0 then some (.inl a) else none⟩ [0] [0] [] [] t φ) : FnOk P w K mg base CX0 (k + 1) f fd ps (spI cA ps.length (runI N.length φ)) := by
 refine F.ok S (fun vs H Q E h => ?_) fun cdv A outer s H vs Q E hr h => ?_
 · obtain ⟨x,r,av,ds,d,d',rfl,_,_,_,l,hl,_⟩ := h
   rw [<- hl,List.length_cons,List.length_cons,l.length]
 · obtain ⟨x,r,av,ds,d,d',rfl,ha,nx,ho,l,hl,hm,q⟩ := h
   obtain ⟨t,ht,hv⟩ := hbody cdv A outer s H E x hr;refine ⟨t,ht,?_⟩;unfold runI at hm;cases hφ : φ ((d :: ds).map some ++ List.replicate (N.length - (d :: ds).length) none) with
   | none => rw [hφ] at hm; cases hm
   | some o =>
    rw [hφ] at hm;cases o <;> first | (cases hm; done) | skip
    rename_i δ';have hm : Za 0 δ' = some d' := hm
    have hAV : ∀ b,AV av (fun j => if j = 0 then some x else none) b ↔ av b \/ b = x := fun b => by
     constructor
     · rintro (z | ⟨j,z⟩)
       · exact .inl z
       · by_cases e : j = 0
         · simp [e] at z; exact .inr z.symm
         · simp [e] at z
     · rintro (z | z)
       · exact .inl z
       · exact .inr ⟨0,by simp [z]⟩
    have E0 : ER ⟨cA,fun j => if j = 0 then some (.inl x) else none⟩ [0] (fun b => if b = x then none else H b) av (fun j => if j = 0 then some x else none) (L2.start N (.ref x :: r)) H ((d :: ds).map some ++ List.replicate (N.length - (d :: ds).length) none) := by
     refine ⟨fun b o e => ?_,fun a z => ?_,fun i a e => ?_,fun i j a e1 e2 => ?_,fun i a e => ?_,fun i e => ?_,fun i hi => ?_,?_,(fun i a e => by
      by_cases q : i = 0
      · simp [q] at e; simp [q,e]
      · simp [q] at e),(fun i v e => by
      by_cases q : i = 0
      · simp [q] at e
      · simp [q] at e),fun i d'' e => ?_⟩
     · by_cases q : b = x
       · simp [q] at e
       · simpa [q] using e
     · have : a ≠ x := fun q => nx (q ▸ z)
       simp [this];exact ha a z
     · by_cases q : i = 0
       · simp [q] at e; simp [e]
       · simp [q] at e
     · by_cases q : i = 0
       · by_cases q2 : j = 0
         · rw [q,q2]
         · simp [q2] at e2
       · simp [q] at e1
     · by_cases q : i = 0
       · simp [q] at e; subst e; exact ho.live
       · simp [q] at e
     · by_cases q : i = 0
       · simp [q]
       · simp [q] at e
     · have : i = 0 := by simpa using hi
       simp [this]
     · unfold L2.start
       rw [List.length_append,List.length_append,List.length_map,List.length_map,List.length_replicate,List.length_replicate,List.length_cons,List.length_cons,l.length]
     · by_cases q : i = 0
       · subst q
         have e' : d = d'' := by simpa using e
         subst e'
         exact ⟨.ref x,by simp [L2.start],fun z => by simp at z,fun a z => by
          simp at z;subst z;exact ⟨rfl,ho.av fun b z => .inl ((hAV b).mp z)⟩⟩
       · obtain ⟨i,rfl⟩ : ∃ i',i = i' + 1 := ⟨i - 1,by omega⟩
         have e2 : (ds.map some ++ List.replicate (N.length - (ds.length + 1)) none)[i]? = some (some d'') := by simpa using e
         by_cases hi : i < ds.length
         · rw [List.getElem?_append_left (by simpa using hi),List.getElem?_map] at e2
           cases hd : ds[i]? with
           | none => rw [hd] at e2; cases e2
           | some z =>
            rw [hd] at e2;cases e2;obtain ⟨v,hv',rv⟩ := l.get hd;refine ⟨v,?_,fun _ => rv.av fun b z => .inl ((hAV b).mp z),fun a z => by simp at z⟩;unfold L2.start;have : i + 1 < (V.ref x :: r).length := by rw [List.length_cons,<- l.length]; omega
            rw [List.getElem?_append_left (by simpa using this),List.getElem?_map];simp [hv']
         · rw [List.getElem?_append_right (by simpa using hi),List.getElem?_replicate] at e2
           split at e2 <;> cases e2
    refine hv _ av _ _ H _ E0 _ hφ _ fun A' σ' H' E' => ?_
    have hA' : A' 0 = some x := E'.pin 0 x (by simp);obtain ⟨v,_,_,g3⟩ := E'.var 0 d' (YL hm);obtain ⟨_,ho'⟩ := g3 x hA';refine q H' (fun b o hb e => E'.same b o (by simpa [hb] using e)) (ho'.av fun b z => ?_);rcases z with z | z
    · exact .inl (.inl z)
    · exact .inl (.inr ⟨0,by rw [hA',z]⟩)
theorem Zjd {x qual : Str} {st : Stmt} {f : Addr} {fd : FuncData} {N ps : List Str} {k : Nat} {φ : Env -> Option Out} (F : FunX K x qual st f fd) (S : FnScope N ps (defScope st))
 (hbody : ∀ (cdv : Value) (A : Around) (outer : List PySem.Env) (s : Shared) (H : Hp) (E : XK),Room k (A.deeper (PyProof.Rows.envOfC qual (defScope st) s.heap.objs.size f cdv)) ->
   ∃ t,PSs (Yu CX0 P w K mg base N qual (defScope st) f cdv A outer s H E).nox (defBody st) t /\ ∃ owN,VS ⟨cA,fun _ => none⟩ [] owN [] [] t φ) : FnOk P w K mg base CX0 (k + 1) f fd ps (spD cA ps.length (run N.length φ)) := by
 refine F.ok S (fun vs H Q E h => ?_) fun cdv A outer s H vs Q E hr h => ?_
 · obtain ⟨av,ds,d,_,r,hl,_⟩ := h
   rw [<- r.length,hl]
 · obtain ⟨av,ds,d,ha,r,hl,hm,q⟩ := h
   obtain ⟨t,ht,owN,hv⟩ := hbody cdv A outer s H E hr;refine ⟨t,ht,?_⟩;unfold run at hm;cases hφ : φ (ds.map some ++ List.replicate (N.length - ds.length) none) with
   | none => rw [hφ] at hm; cases hm
   | some o =>
    rw [hφ] at hm;refine hv H av _ _ H _ (ZaO ha r) o hφ _ ?_;cases o with
    | nx δ' => cases hm; exact fun A' σ' H' E' => q .non H' E'.same rfl
    | rt d' => cases hm; exact fun v H' s' r' => q v H' s' r'
    | bk δ' => cases hm
    | ct δ' => cases hm
end
abbrev MTab := List (String × (Nat × (List D -> Option D)))
structure MethOk (X : Cx) (cA : Kn) (k : Nat) (m : String) (c : String) (n : Nat) (mm : List D -> Option D) : Prop where
 ex : ∃ f fd ps,Cls X.K (cA.c c) /\ Meth X.K (cA.c c) (Str.ofString m) f /\ FnOk X.prog X.w X.K X.mg X.base CX0 k f fd ps (spD cA n mm) /\ Binds X.K fd ps []
def MTOk (X : Cx) (cA : Kn) (k : Nat) (m : String) : MTab -> Prop
 | [] => True
 | (c,n,mm) :: r => MethOk X cA k m c n mm /\ MTOk X cA k m r
theorem MTOk.get {X : Cx} {k : Nat} {m : String} : ∀ {tab : MTab} {c : String} {n : Nat} {mm : List D -> Option D},MTOk X cA k m tab -> tab.lookup c = some (n,mm) -> MethOk X cA k m c n mm
 | [],_,_,_,_,h => by simp at h
 | (c',n',mm') :: r,c,n,mm,T,h => by
  rw [List.lookup_cons] at h;cases hc : c == c' with
  | true =>
   rw [hc] at h;cases h;have : c = c' := eq_of_beq hc;subst this;exact T.1
  | false =>
   rw [hc] at h;exact MTOk.get T.2 h
def Zfn (cA : Kn) (m : String) (tab : MTab) (ta : TE) (t : TA) : TE := fun σ H Q => ta σ H fun x H1 => ∃ a dx fs c n mm,x = .ref a /\ H1 a = some (.ins (cA.c c) dx fs) /\ fs.lookup (Str.ofString m) = none /\ tab.lookup c = some (n,mm) /\ t σ H1 fun vs H2 => spD cA n mm (x :: vs) H2 Q E0
theorem Zee {X : Cx} {k : Nat} {m : String} {tab : MTab} {o : Expr} {ta : TE} {pos apos : Pos} {pl : Sem Bool} (T : MTOk X cA k m tab) (hr : Room k X.A) (he : PE X o ta)
 (ht : eval (.Call (.Attribute o (Str.ofString m) apos) [] [] pos) X.env = (do
   let ov <- eval o X.env
   standAt apos.atName
   let (f,first) <- holding [ov] (getMethod ov (Str.ofString m) pl)
   callWith pos f first (backTo pos (starEach [] X.env)) (backToKw pos (keywordEach [] X.env))) := by rfl) :
 PE X (.Call (.Attribute o (Str.ofString m) apos) [] [] pos) (Zfn cA m tab ta tNil) := by
 intro pins s σ H Q I h;refine PySem.W.methodCall_KW (pl:=pl) (thn (he pins s σ H _ I h) fun u s1 ⟨x,H1,I1,rx,a,dx,fs,c,n,mm,ex,ea,l,tl,q⟩ => ?_) ht;subst ex;obtain rfl : u = Value.ref a := rx;obtain ⟨f,fd,ps,hc,hm,F,hb⟩ := (T.get tl).ex;refine ZaA I1 ea hc hm l ?_;exact PySem.W.callWith_K0 (first:=[.ref a]) I1.kIn hm.kp (ZcS (us:=[.ref a]) (vs:=[.ref a]) (dvs:=[]) (ds:=[]) F hr hb .nil Z1 I1 (.cons rfl .nil) (by rw [List.append_nil]; exact q))
def Vq (m : String) (tab : MTab) (a : Env -> Option D) (α : Env -> Option (List D)) (δ : Env) : Option D := match a δ with
 | some (.obj c ks xs) => if ks.contains m then none else (match tab.lookup c with
  | some (n,mm) => match α δ with
   | some ds => if (D.obj c ks xs :: ds).length = n then mm (.obj c ks xs :: ds) else none
   | none => none
  | none => none)
 | _ => none
theorem Zgl {m : String} {tab : MTab} {ta : TE} {t : TA} {a : Env -> Option D} {α : Env -> Option (List D)} (ha : VE G ow ta .cl a) (h : VA G ow t .cl α) : VE G ow (Zfn G.1 m tab ta t) .cl (Vq m tab a α) := fun H0 av A σ H δ E d e Q k => by
 unfold Vq at e;cases hx : a δ with
 | none => rw [hx] at e; cases e
 | some x =>
  rw [hx] at e;cases x <;> first | (cases e; done) | skip
  rename_i c ks xs;dsimp only at e;cases hf : ks.contains m with
  | true => rw [hf,if_pos rfl] at e; cases e
  | false =>
   rw [hf,if_neg Bool.false_ne_true] at e;cases htb : tab.lookup c with
   | none => rw [htb] at e; cases e
   | some p =>
    obtain ⟨n,mm⟩ := p;rw [htb] at e;dsimp only at e;cases he : α δ with
    | none => rw [he] at e; cases e
    | some ds =>
     rw [he] at e;dsimp only at e
     by_cases hz : (D.obj c ks xs :: ds).length = n
     · rw [if_pos hz] at e
       refine ha H0 av A σ H δ E _ hx _ fun v H1 s1 r1 => ?_
       obtain ⟨p,dx,vs,rfl,np,rd,zl,l⟩ := r1;refine ⟨p,dx,_,c,n,mm,rfl,rd,Jj hf,htb,h H0 av A σ H1 δ (E.mono s1) ds he _ fun ws H2 s2 r2 => ?_⟩;have E2 := (E.mono s1).mono s2;refine ⟨AV av A,.obj c ks xs :: ds,d,E2.avl,.cons ?_ r2.cl,hz,e,fun v H' s r => k v H' ((s1.trans s2).trans s) r.t⟩;unfold Rep;exact ⟨p,dx,vs,rfl,np,s2 _ _ rd,zl,l.same s2⟩
     · rw [if_neg hz] at e; cases e
def isD : D -> D -> Option D
 | .bl a,.bl b => some (.bl (a == b))
 | _,_ => none
end
end DL
namespace DL
open PySem PySem.Spec L2
def YM : Nat -> List D -> List D
 | _,[] => []
 | k,x :: xs => .tup [.int (k : Nat),x] :: YM (k + 1) xs
theorem QH : ∀ (k : Nat) (xs : List D),(YM k xs).length = xs.length
 | _,[] => rfl
 | k,x :: xs => by rw [YM,List.length_cons,List.length_cons,QH]
theorem Zaq : ∀ (k : Nat) (xs : List D) (i : Nat),(YM k xs)[i]? = (xs[i]?).map fun x => .tup [.int ((k + i : Nat) : Int),x]
 | _,[],i => by simp [YM]
 | k,x :: xs,0 => by simp [YM]
 | k,x :: xs,i + 1 => by
  rw [YM,List.getElem?_cons_succ,List.getElem?_cons_succ,Zaq (k + 1) xs i];have : k + 1 + i = k + (i + 1) := by omega
  rw [this]
section
variable {cA : Kn} {G : Cn} {ow : List Nat}
theorem ZbN {iv : Addr -> Prop} {H0 : Hp} {n0 : Nat} {cs : List Nat} : Vo cA iv (ZiK n0 cs) (YM n0 (cs.map fun c => .str [c])) H0 := fun H s => by
 refine ⟨fun i hi => ?_,fun i x v H' hx y => ?_,fun i hi => ?_⟩
 · have : i < cs.length := by simpa [QH] using hi
   exact this
 · obtain ⟨c,p,hc,hp,rfl,rfl⟩ := y
   rw [Zaq,List.getElem?_map,hc] at hx;cases hx;refine ⟨Yc hp,fun av' h1 _ => ?_⟩;unfold Rep;exact ⟨p,_,rfl,fun z => h1 p z hp,ZM,.cons rfl (.cons rfl .nil)⟩
 · have : cs.length <= i := by simpa [QH] using hi
   exact this
end
end DL
namespace DL
open PySem PySem.Spec L2
section
variable {cA : Kn} {P : Program} {w : World} {K : PySem.W.Frag} {mg : Str -> Option Value} {base : Heap}
theorem YA {x qual : Str} {st : Stmt} {f : Addr} {fd : FuncData} {N ps : List Str} {k : Nat} {φ : Env -> Option Out} {body : List Stmt} {scope : Scope} {n : Nat} {m : List D -> Option D} (F : FunX K x qual st f fd) (S : FnScope N ps (defScope st)) (hS : defScope st = scope) (hB : defBody st = body)
 (hbody : ∀ (cdv : Value) (A : Around) (outer : List PySem.Env) (s : Shared) (H : Hp) (E : XK),Room k (A.deeper (PyProof.Rows.envOfC qual scope s.heap.objs.size f cdv)) ->
   ∃ t,PSs (Yu CX0 P w K mg base N qual scope f cdv A outer s H E).nox body t /\ ∃ owN,VS ⟨cA,fun _ => none⟩ [] owN [] [] t φ)  (hm : m = run N.length φ) (hn : ps.length = n) : FnOk P w K mg base CX0 (k + 1) f fd ps (spD cA n m) := by
 subst hS hB hm hn;exact Zjd F S hbody
theorem Zje {x qual : Str} {st : Stmt} {f : Addr} {fd : FuncData} {N ps : List Str} {k : Nat} {φ : Env -> Option Out} {body : List Stmt} {scope : Scope} {n : Nat} {m : List D -> Option D} (F : FunX K x qual st f fd) (S : FnScope N ps (defScope st)) (hS : defScope st = scope) (hB : defBody st = body)
 (hbody : ∀ (cdv : Value) (A : Around) (outer : List PySem.Env) (s : Shared) (H : Hp) (E : XK) (a : Addr),Room k (A.deeper (PyProof.Rows.envOfC qual scope s.heap.objs.size f cdv)) ->
   ∃ t,PSs (Yu CX0 P w K mg base N qual scope f cdv A outer s H E).nox body t /\ VS ⟨cA,fun j => if j = 0 then some (.inl a) else none⟩ [0] [0] [] [] t φ)  (hm : m = runI N.length φ) (hn : ps.length = n) : FnOk P w K mg base CX0 (k + 1) f fd ps (spI cA n m) := by
 subst hS hB hm hn;exact ZkS F S hbody
end
end DL
namespace DL
open PySem PySem.Spec L2 PyProof.Rows
def XZ : List D -> Option (List Int)
 | [] => some []
 | .int b :: r => match XZ r with
  | some bs => some (b :: bs)
  | none => none
 | _ => none
theorem Zb3 : ∀ {xs : List D} {bs : List Int},XZ xs = some bs -> xs = bs.map D.int
 | [],bs,h => by cases h; rfl
 | x :: xs,bs,h => by
  cases x <;> first | (cases h; done) | skip
  rename_i b;unfold XZ at h;cases hr : XZ xs with
  | none => rw [hr] at h; cases h
  | some cs =>
   rw [hr] at h;cases h;rw [List.map_cons,Zb3 hr]
theorem intsD_map (bs : List Int) : XZ (bs.map D.int) = some bs := by
 induction bs with
 | nil => rfl
 | cons b bs ih => rw [List.map_cons,XZ,ih]
theorem Zb4 : ∀ (ns : List Int) (its : List Value),Vals (ns.map V.int) its -> IntsAre its ns
 | [],its,h => by cases h; exact .nil
 | n :: ns,its,h => by
  cases h with
  | cons r1 r2 =>
   obtain ⟨t,rfl⟩ := r1;exact .cons _ _ (Zb4 ns _ r2)
def ZfV (K : PySem.W.Frag) : List V -> Hp -> VK -> Prop := fun xs H Q => ∃ (p : Addr) (ns : List Int),xs = [.ref p] /\ SqL K H p (ns.map V.int) /\ Q (.int ns.sum) H
section
variable {X : Cx} {K : PySem.W.Frag} {cA : Kn}
theorem Zef (hc : X.calm = true) : Xe X (.builtin "sum") (ZfV X.K) := by
 intro pins s σ H xs us Q I rs h;obtain ⟨p,ns,rfl,hq,q⟩ := h;obtain ⟨u,rfl,rx⟩ := Vh rs;cases rx;obtain ⟨its,rv,pl,hz⟩ := I.list hq;have hi := Zb4 ns its rv;obtain ⟨ys,e⟩ := hi.allInts.items
 have hns : ns = ys.toList.map (·.1) := by
  rw [<- hi.numsOf,<- nums_intItems,<- e]
 have hl := pl.isList;rw [e] at hl;refine sum_intListG (I.ok.hd hc) hl fun h' tk t' hk => ?_
 have e2 : preSum (numAt ys) ys.size = ns.sum := by
  rw [preSum_eq,List.take_of_length_le (by simp),hns]
 exact ⟨.int ns.sum,H,I.kept hk,⟨t',by rw [e2]⟩,q⟩
theorem Zfo (hc : X.calm = true := by rfl) (hK : X.K = K := by rfl) : Xe X (.builtin "sum") (ZfV K) := hK ▸ Zef hc
def sumLD : List D -> Option D
 | [.lst xs] => match XZ xs with
  | some ns => some (.int ns.sum)
  | none => none
 | _ => none
theorem Zdt : ZiL cA (ZfV cA.K) sumLD := fun i H ds vs d _ h e Q k => by
 unfold sumLD at e
 split at e
 · rename_i xs
   cases hb : XZ xs with
   | none => rw [hb] at e; cases e
   | some bs =>
    rw [hb] at e;cases e;obtain ⟨v,t,rfl,a,ws,rfl,_,rd,l⟩ := il1 h;have ex := Zb3 hb;subst ex;have ev := l.vals (by rw [List.all_map]; exact List.all_eq_true.mpr fun _ _ => rfl);rw [List.map_map] at ev;subst ev;exact ⟨a,bs,rfl,rd,k _ H (Same.refl H) rfl⟩
 · cases e
end
end DL
namespace L2
open PySem PySem.Spec PyProof.Rows
section
variable {X : Cx} {scope : Scope} {tn cn : List Str} {js : List Nat} {tg iter elt : Expr} {ifs : List Expr} {pos spos pos' : Pos} {wi : TI} {g : TG} {tt : TT} {te : TE}
theorem Jk {i : Nat} {x : Str} (hN : X.N.Nodup) (hi : X.N[i]? = some x) (hx : X.env.scope.names.lookup x = some .local) (hc : X.calm = true) (S : CompSc X scope tn cn js) (hI : PI X tg iter wi)
 (hg : ∀ C s₂ H₂ fp,PG (Xi X scope (tn ++ cn) C s₂ H₂ fp) tg g) (ht : ∀ C s₂ H₂ fp,PTs (Xi X scope (tn ++ cn) C s₂ H₂ fp) ifs tt) (he : ∀ C s₂ H₂ fp,PE (Xi X scope (tn ++ cn) C s₂ H₂ fp) elt te)
 (hsw : swapsWith (.ListComp elt [⟨tg,iter,ifs,0⟩] scope pos) (some (.Name x pos')) spos.line X.env = pure true := by rfl)
 (hs : ∀ x,foldedSetIterable iter X.env x = pure x := by intro _; rfl) :
 PS X (.Assign [.Name x pos'] (.ListComp elt [⟨tg,iter,ifs,0⟩] scope pos) spos) (YY (ZfP wi g tt te tn.length js) (YX i)) := by
 intro pins s σ H D I h;rw [exec_Assign_Name_used _ _ _ _ hsw];refine wpAny_bind (wpAny_standAt (wpAny_bind ?_));show wpAny _ X.A (do let _ <- comprehension (.ListComp elt [⟨tg,iter,ifs,0⟩] scope pos) scope X.env _ (newList []) false (eval iter X.env) (some (assign (.Name x pos') X.env))) _ _ s
 refine wpAny_bind (wpAny_mono (wpAny_comprehension_free (use:=some (assign (.Name x pos') X.env)) (Q:=fun _ s' => SP X pins D .next s') (cl:=YK X.env.cells scope.names []) rfl hs (Zae (S.clos I.ok)) S.kind S.names
  (thn (hI pins s σ H _ I h) fun v s1 h1 => thn h1 fun itv s2 h2 => ?_)) (fun _ s' hq => wpAny_pure (wpAny_pure hq)) fun _ _ e => e)
 obtain ⟨it,fp,tnx,J,H2,e,I2,T,st2,f2,W,⟨m0,w0⟩,turn⟩ := h2;subst e;refine ZaC (RR:=fun acc C => compPost (model X.prog X.w) X.A X.xe (some (assign (.Name x pos') X.env)) (fun _ s' => SP X pins D .next s') acc C) (W:=W) (m0:=m0) hc S hg ht he I2 T st2 f2 w0 fun i' m ys H w => ?_
 rcases turn i' m ys H w with ⟨stop,qn⟩ | r
 · refine .inl ⟨stop,fun C D' s its n σ' hC hD hDC hv hz I' => ?_⟩
   obtain ⟨m',hn,_⟩ := id I'.loc;have pd := I'.pin (D',{ cls := .type "list",data := .seq its.toArray n }) (List.mem_append_right _ List.mem_cons_self);have hCf : H C = none := I'.free;have I1 : Inv X pins σ (upd H D' (.lst ys)) { s with heap := s.heap } := ZbX S I2 hC hD hDC f2 I' hv hz (Heap.SameBut.refl _ _);show wpAny _ X.A (assign (.Name x pos') X.env (.ref D')) _ _ _;have hlC : X.env.locals ≠ C := fun z => absurd (z ▸ I2.lt) (Nat.not_lt.mpr hC)
   have hcC : ∀ y c,X.env.cells.lookup y = some c -> c ≠ C := fun y c e z => by
    obtain ⟨v',o',q,_⟩ := I2.cell y c e;exact absurd (Heap.lt_size q) (Nat.not_lt.mpr (z ▸ hC))
   refine wpAny_assign_Name (ZaY I1 hN hi (.inl hx) (v:=.ref D') rfl (fun s3 I3 ⟨a,hsb,ha⟩ => ?_) (.inr hx))
   have hCa : C ≠ a := by
    rcases ha with rfl | ha
    · exact Ne.symm hlC
    · exact Ne.symm (hcC _ _ ha)
   refine ⟨m',hn.sameBut hsb hCa,fun h' hs' => ?_⟩;have hCn : upd H D' (.lst ys) C = none := by rw [Zt (Ne.symm hDC)]; exact hCf
   have I4 : Inv X pins (σ.set i (some (.ref D'))) (upd H D' (.lst ys)) { s3 with heap := h',toks := s3.toks } := I3.turned (it:=C) (fun b o hb e => (hs'.2 b hb).trans e) hCn (Ne.symm hlC) (.inr (Nat.le_trans (Nat.le_trans I2.ok.above (Nat.le_of_lt I2.lt)) hC)) (fun y c e => hcC y c e) fun p hp z => by
    have := (I2.pin p hp).1;exact absurd (Heap.lt_size this) (Nat.not_lt.mpr (z ▸ hC))
   exact ⟨_,_,I4,qn D' pd.2.1⟩
 · exact .inr r
end
end L2
namespace PySem
open Builtin SmallTypes
open AutoSeq1 (wpAny_loadPart')
theorem Zal (a : Addr) (its : Array Value) (k : Nat) (dc : Option Addr) (sl : Array (Option Value)) (u : Tok) :
 Meets (Builtin.«enumerate.__new__» ⟨[.type "enumerate",.ref a],[("start",.int 1 u)]⟩) (fun _ R s => s.heap.get? a = some { cls := .type "list",dict := dc,data := .seq its k,slots := sl } /\
  R (.ok (.ret (.ref (s.heap.push { cls := .type "list_iterator",data := .fields #[.ref a,.int 0 0] }).objs.size)))
   { s with heap := (s.heap.push { cls := .type "list_iterator",data := .fields #[.ref a,.int 0 0] }).push { cls := .type "enumerate",data := .fields #[.none,.bool false,.ref s.heap.objs.size,rawInt 1,.none,.none] } }) :=
 .of_wp fun P w A R s h => by
  obtain ⟨hp,gs,dr,tk,os⟩ := s;obtain ⟨hl,h⟩ := h;have sb := sub_enumerate;have hL : Heap.IsList (Shared.heap ⟨hp,gs,dr,tk,os⟩) a its := ⟨_,hl,rfl,k,rfl⟩
  wp_walk using wpAny_loadPart' hl
  refine wpAny_stack_any fun fs => ?_
  refine wpAny_pure ?_
  split
  · rename_i q _ _ _ _ _
    cases (q == Value.type "enumerate") <;> (wp_walk using wpAny_loadPart' hl,wpAny_pyIter_list hL)
    · exact ⟨_,rfl,h⟩
    · exact ⟨_,rfl,h⟩
  · wp_walk using wpAny_loadPart' hl,wpAny_pyIter_list hL
    exact ⟨_,rfl,h⟩
end PySem
namespace PySem
open Sem (wp)
theorem tyK (a : Value) (u : Tok) : checkTypeCall "enumerate" ⟨[a],[("start",.int 1 u)]⟩ = pure () := by kernel_rfl
theorem nwK (a : Value) (u : Tok) : checkBuiltinCall "enumerate.__new__" ⟨[.type "enumerate",a],[("start",.int 1 u)]⟩ = pure () := by kernel_rfl
theorem Zjf (x a : Value) (u : Tok) : argsOk "object.__init__" ⟨[x,a],[("start",.int 1 u)]⟩ := by
 first
  | kernel_rfl
  | exact ⟨by kernel_rfl⟩
  | (unfold argsOk; kernel_rfl)
theorem ZbO {x a : Value} {u : Tok} : Meets (Builtin.«object.__init__» ⟨[x,a],[("start",.int 1 u)]⟩) (fun _ R s => s.TypeIs x "enumerate" /\ R (.ok (.ret .none)) s) := by
 have hl := F.called_enumerate.init.lookup;have hm := F.called_enumerate.made;refine Meets.of_wp fun P w A R s hs => ?_
 obtain ⟨hT,hq⟩ := hs
 repeat (any_goals (first | wp_step | assumption))
 exact ⟨_,rfl,hq⟩
end PySem
namespace PySem
open Sem (wp)
section
variable {P : Program} {w : World} {A : Around} {E : Value -> Shared -> Prop} {s : Shared}
theorem Zax {a : Value} {u : Tok} {S : Spec} {Q : Value -> Shared -> Prop} (g : Meets (Builtin.«enumerate.__new__» ⟨[.type "enumerate",a],[("start",.int 1 u)]⟩) S)
 (h : S A.in1 (wants (fun x s₁ => s₁.TypeIs x "enumerate" /\ Q x s₁) E) s) : wpAny (model P w) A (call (.type "enumerate") [a] [("start",.int 1 u)]) Q E s := by
 have ft := F.called_enumerate;obtain ⟨c,tl,b1⟩ := ft.mro;have b2 := ft.made;have b3 := ft.sub;have b4 := ft.notType;have b5 := ft.canCreate;have b6 := tyK a u;refine wpAny_call (codeAny_of_tree ?_);show wpAny _ _ (callAny (.type "enumerate") _) _ _ _;refine wpAny_pure ⟨Code.quiet_builtin _ (by decide +kernel),?_⟩;refine codeAny_builtin F.entry_type_call ?_;rw [Around.under_plain (weight_type_call_type _ [a] _) (units_type_call_type _ [a] _)]
 repeat (any_goals (first | wp_step | assumption))
 refine codeAny_mono (codeAny_call_builtin ft.plain F.entry_enumerate_new (wpAny_of_eq (nwK a u) (g P w A.in1 _ s h))) fun r s₁ hr => ?_
 cases r with
 | error e => exact hr
 | ok fl =>
  cases fl with
  | ret obj =>
   obtain ⟨hT,hq⟩ := hr;have b7 := ft.init.lookup;have b8 := ft.init.bind obj
   repeat (any_goals (first | wp_step | assumption))
   have ini := ZbO (x:=obj) (a:=a) (u:=u) P w A.in1 (wants (fun r s₂ => r = Value.none /\ Q obj s₂) E) s₁ ⟨hT,rfl,hq⟩;refine codeAny_mono (codeAny_call_builtin ft.init.plain F.entry_object_init (ft.init.check _ _ _ _ _ _ _ _ hT (Zjf obj a u) ini)) fun r2 s2 h2 => ?_
   cases r2 with
   | error e => exact h2
   | ok f2 =>
    cases f2 with
    | ret r =>
     obtain ⟨rfl,hq2⟩ := h2
     repeat (any_goals (first | wp_step | assumption))
    | _ => exact h2.elim
  | _ => exact hr.elim
theorem Zcy {l : Addr} {its : Array Value} {u : Tok} {Q : Value -> Shared -> Prop} (hL : s.heap.IsList l its)
 (h : ∀ h',IsEnum h' (s.heap.objs.size + 1) s.heap.objs.size 1 .none -> h'.IsListIter s.heap.objs.size l 0 -> (∀ b o,s.heap.get? b = some o -> h'.get? b = some o) -> Q (.ref (s.heap.objs.size + 1)) { s with heap := h' }) :
 wpAny (model P w) A (call (.type "enumerate") [.ref l] [("start",.int 1 u)]) Q E s := by
 obtain ⟨⟨c,dc,dt,sl⟩,hl,hc,n,hd⟩ := hL;cases (show c = .type "list" from hc);cases (show dt = .seq its n from hd);refine Zax (Zal l its n dc sl u) ⟨hl,?_⟩;have hz : (s.heap.push { cls := .type "list_iterator",data := .fields #[.ref l,.int 0 0] }).objs.size = s.heap.objs.size + 1 := by rw [Heap.size_push]
 have e0 := Heap.get?_push_size (s.heap.push { cls := .type "list_iterator",data := .fields #[.ref l,.int 0 0] }) (o:={ cls := .type "enumerate",data := .fields #[.none,.bool false,.ref s.heap.objs.size,rawInt 1,.none,.none] }) rfl;rw [hz] at e0;show _ /\ _;rw [hz];exact ⟨⟨_,e0,rfl⟩,h _ e0 ⟨_,Heap.get?_push_of_some _ (Heap.get?_push_size _ rfl),rfl,rfl⟩ fun b o x => Heap.get?_push_of_some _ (Heap.get?_push_of_some _ x)⟩
end
end PySem
namespace L2
open PySem PySem.Spec PyProof.Rows
def ZiQ (K : PySem.W.Frag) (n0 : Nat) (l : Addr) : It :=
 ⟨fun i H => ∃ xs x,SqL K H l xs /\ xs[i]? = some x,fun i H v H' => ∃ x p,(∀ xs,SqL K H l xs -> xs[i]? = some x) /\ H p = none /\ v = .ref p /\ H' = upd H p (.tup [.int ((n0 + i : Nat) : Int),x]),fun i H => ∃ xs,SqL K H l xs /\ xs.length <= i⟩
theorem Zeg {prog : Program} {w : World} {A : Around} (hh : A.handled = none) (it l : Addr) (hne : l ≠ it) (its : Array Value) (n0 : Nat) :
 Draws prog w A it [it,l] (n0 + its.size) (fun i v => ∃ j,i = n0 + j /\ its[j]? = some v) (fun i h => ∃ j,i = n0 + j /\ h.IsListIter it l j /\ h.IsList l its) where
 live := fun i h ⟨j,_,st,_⟩ => let ⟨o,ho,_⟩ := st; ⟨o,ho⟩
 frame := fun i h h' ⟨j,e,s1,s2⟩ hk => ⟨j,e,s1.at fun o q => hk it (by simp) o q,s2.at fun o q => hk l (by simp) o q⟩
 item := fun i s Q E hi st hQ => by
  obtain ⟨j,rfl,s1,s2⟩ := st;have hj : j < its.size := by omega
  refine wpAny_nextOf_list_item s1 s2 (x:=its[j]) (by simp [hj]) fun h' st' sb => ?_
  exact hQ _ h' s.toks ⟨j,rfl,by simp [hj]⟩ ⟨j + 1,by omega,st',s2.extBut sb.extBut hne⟩ sb
 done := fun s Q E st hE => by
  obtain ⟨j,e,s1,s2⟩ := st
  exact wpAny_nextOf_list_end hh s1 s2 (by have : j = its.size := by omega
                                           subst this; simp) hE
theorem Zcz {prog : Program} {w : World} {A : Around} (hh : A.handled = none) (it l : Addr) (its : Array Value) (n j : Nat) (hj : its.size <= j) :
 Draws prog w A it [it,l] n (fun _ _ => False) (fun i h => i = n /\ h.IsListIter it l j /\ h.IsList l its) where
 live := fun i h ⟨_,st,_⟩ => let ⟨o,ho,_⟩ := st; ⟨o,ho⟩
 frame := fun i h h' ⟨e,s1,s2⟩ hk => ⟨e,s1.at fun o q => hk it (by simp) o q,s2.at fun o q => hk l (by simp) o q⟩
 item := fun i s Q E hi st hQ => absurd st.1 (by omega)
 done := fun s Q E st hE => wpAny_nextOf_list_end hh st.2.1 st.2.2 (by simp [hj]) hE
theorem ZcA {P : Program} {w : World} {K : PySem.W.Frag} {elts : List Expr} {x1 : Nat} {tpos : Pos} (e it l : Addr) (hne : e ≠ it) (n0 : Nat) :
 Turn P w K (.Tuple elts x1 tpos) (ZiQ K n0 l) [e,it] e (fun i h => (∃ old,IsEnum h e it ((n0 + i : Nat) : Int) old) /\ h.IsListIter it l i) where
 mem := by simp
 obj := fun i h st b hb => by
  obtain ⟨⟨old,he⟩,o,ho,hc,hd⟩ := st;simp at hb;rcases hb with rfl | rfl
  · exact ⟨_, he, fun v z => by
     have z' : Data.fields _ = Data.cell v := z;cases z'⟩
  · exact ⟨o,ho,fun v z => by rw [hd] at z; cases z⟩
 keep := fun i h h' st k => by
  obtain ⟨⟨old,he⟩,s1⟩ := st;exact ⟨⟨old,k e (by simp) _ he⟩,s1.at fun o q => k it (by simp) o q⟩
 item := by
  intro X hP hw hK hc i pins s σ H E I hf st hg;subst hP hw hK;obtain ⟨⟨old,he⟩,st⟩ := st;obtain ⟨xs,x,hq,hx⟩ := hg;obtain ⟨its,rv,p,hz⟩ := I.list hq;obtain ⟨u,hu,ru⟩ := rv.get hx;have hi : i < its.length := (List.getElem?_eq_some_iff.mp hu).1;obtain ⟨e0,e1,e2,e3,e4,e5⟩ := hf e (by simp);obtain ⟨f0,f1,f2,f3,f4,f5⟩ := hf it (by simp)
  have hLe : l ≠ e := by
   rintro rfl
   obtain ⟨o,ho,hcl,_⟩ := p.isList;have he' : s.heap.get? l = some _ := he;rw [he'] at ho;cases ho;exact absurd (show Value.type "enumerate" = Value.type "list" from hcl) (by decide)
  have hLi : l ≠ it := by
   rintro rfl
   obtain ⟨o,ho,hcl,_⟩ := p.isList;obtain ⟨o',ho',hcl',_⟩ := id st;rw [ho] at ho';cases ho';rw [hcl] at hcl';exact absurd hcl' (by decide)
  have D := Zeg (prog:=X.prog) (w:=X.w) (A:=X.A.in1) (I.ok.hd hc) it l hLi its.toArray n0;refine wpAny_pyNext_enum_itemD D he ⟨i,rfl,st,p.isList⟩ (by simp; omega) hne (by simp [hne,Ne.symm hLe]) fun y h' tk hP ho st' hT hsz hk => ?_
  obtain ⟨j,ej,hy⟩ := hP;have ej' : j = i := by omega
  subst ej'
  have hyu : y = u := by
   have : its[j]? = some y := by simpa using hy
   rw [hu] at this;exact (Option.some.inj this).symm
  subst hyu;refine ⟨_,rfl,wpAny_letOwnedTupleGo_enum ho fun h2 he2 hs2 => ?_⟩;have hs2 : Heap.SameBut e h' h2 := hs2;have hTl : e < s.heap.objs.size := Heap.lt_size he;obtain ⟨j',ej2,st'',_⟩ := st';have ej3 : j' = j + 1 := by omega
  subst ej3;have hT2 : h2.get? s.heap.objs.size = some { cls := .type "tuple",data := .seq #[.int ((n0 + j : Nat) : Int) tk,y] } := (hs2.2 _ (Nat.ne_of_gt hTl)).trans hT;have k2 : ∀ b o,b ≠ e -> b ≠ it -> s.heap.get? b = some o -> h2.get? b = some o := fun b o hb hb' q => (hs2.2 b hb).trans (hk b o hb hb' q)
  have hTn : H s.heap.objs.size = none := I.hok.fresh (Nat.le_refl _);have neT : ∀ b o,s.heap.get? b = some o -> b ≠ s.heap.objs.size := fun b o q => Nat.ne_of_lt (Heap.lt_size q)
  have I2 : Inv X pins σ (upd H s.heap.objs.size (.tup [.int ((n0 + j : Nat) : Int),x])) { s with heap := h2,toks := tk + 1 } := by
   refine I.step (g' := s.gens) (d' := s.drawn) (ch:=[e,it]) (fun b hb => ?_) (fun b o _ _ hcb q _ => ?_) (fun b o _ _ hcb q _ => ?_) (fun b o hcb q n => ?_) (fun b o hcb q => ?_) (fun b xs q => ?_) (fun b o v q => ?_) (fun b ps q => ?_) (fun m hm => ?_) (fun b o q => ?_) I.bare
   · simp at hb
     rcases hb with rfl | rfl
     · exact ⟨e3,e1,e4,e5⟩
     · exact ⟨f3,f1,f4,f5⟩
   · simp at hcb
     exact k2 b o hcb.1 hcb.2 q
   · simp at hcb
     exact ⟨o.slots,k2 b o hcb.1 hcb.2 q⟩
   · rw [Zt (neT b o q)]
     exact n
   · simp at hcb
     exact ⟨o,k2 b o hcb.1 hcb.2 q⟩
   · rw [Zt (Yn q hTn)]
     exact q
   · rw [Zt (Yn q hTn)]
     exact q
   · exact ⟨#[],by rw [Zt (Yn q hTn),q]; simp⟩
   · obtain ⟨o,es,ep,q,r⟩ := hm
     exact ⟨o,es,ep,k2 _ o (Ne.symm e1) (Ne.symm f1) q,r⟩
   · by_cases hb : b = s.heap.objs.size
     · subst hb
       rw [ZM] at q;cases q;refine ⟨by show 2 <= sizeLine; decide,[.int ((n0 + j : Nat) : Int) tk,y],.cons ⟨_,rfl⟩ (.cons ru .nil),?_⟩;exact ⟨_,hT2,rfl,⟨_,rfl⟩,rfl⟩
     · rw [Zt hb] at q
       have nn : ∀ (b : Addr) (o : HO),H b = some o -> b ≠ e /\ b ≠ it := fun b o q => ⟨fun z => (by rw [z,e0] at q; cases q),fun z => (by rw [z,f0] at q; cases q)⟩
       refine (I.hok b o q).stay (fun d v hd q' => ?_) (fun d q' => by rw [Zt (Yn q' hTn)]; exact q') fun d xs q' => by rw [Zt (Yn q' hTn)]; exact q'
       rcases hd with rfl | hd
       · exact k2 d v (nn d o q).1 (nn d o q).2 q'
       · exact k2 d v (nn d _ hd).1 (nn d _ hd).2 q'
  have he3 : IsEnum h2 e it ((n0 + (j + 1) : Nat) : Int) y := by
   have : ((n0 + (j + 1) : Nat) : Int) = ((n0 + j : Nat) : Int) + 1 := by push_cast; omega
   rw [this];exact he2
  refine ⟨.ref s.heap.objs.size,_,I2,rfl,⟨x,s.heap.objs.size,fun ys hy => by rw [I.list_inj hy hq]; exact hx,hTn,rfl,rfl⟩,⟨⟨_,he3⟩,?_⟩,fun b hb => ?_⟩
  · obtain ⟨o,ho',r⟩ := st''
    exact ⟨o,(hs2.2 it (Ne.symm hne)).trans ho',r⟩
  · simp at hb
    rcases hb with rfl | rfl
    · rw [Zt (Nat.ne_of_lt hTl)]; exact e0
    · obtain ⟨o,ho',_⟩ := st
      rw [Zt (neT _ o ho')]; exact f0
 done := by
  intro X hP hw hK hc i pins s σ H E I hf st hg;subst hP hw hK;obtain ⟨⟨old,he⟩,st⟩ := st;obtain ⟨xs,hq,hx⟩ := hg;obtain ⟨its,rv,p,hz⟩ := I.list hq;have hl := rv.length;obtain ⟨f0,f1,f2,f3,f4,f5⟩ := hf it (by simp);have D := Zcz (prog:=X.prog) (w:=X.w) (A:=X.A.in1) (I.ok.hd hc) it l its.toArray (n0 + i) i (by simp; omega);exact wpAny_pyNext_enum_endD D he ⟨rfl,st,p.isList⟩ fun h' eb => ⟨rfl,I.turned (t' := s.toks) (fun b o hb q => eb b o hb q) f0 f1 f3 f4 f5⟩
 self := fun _ _ _ _ _ st h => by
  obtain ⟨⟨old,he⟩,_⟩ := st;exact wpAny_pyIter_enum he h
end L2
namespace L2
open PySem PySem.Spec PyProof.Rows
theorem Zbt {M : Model} {A : Around} {E : Value -> Shared -> Prop} {s : Shared} {pos : Pos} {T : String} {as : List (Bool × Sem Value)} {kws : List (Option Str × Sem Value)} {Q : Value -> Shared -> Prop}
 (h1 : as.any (·.1) = false) (h2 : kws.any (·.1.isNone) = false)
 (h : wpAny M A (evalArgs (.type T) true as kws) (fun a s₁ => wpAny M A (call (.type T) a.pos a.kw) Q E s₁) E s) : wpAny M A (callWith pos (.type T) [] as kws) Q E s := by
 unfold callWith;refine wpAny_bind (wpAny_holding (thn h fun a s₁ g => ?_));refine wpAny_bind (wpAny_standAt ?_);simp only [h1,h2,Bool.or_false,List.nil_append];refine wpAny_bind (wpAny_pure ?_);refine wpAny_bind (thn g fun r s₂ hr => ?_);exact wpAny_bind (wpAny_holding (wpAny_point (wpAny_pure hr)))
section
variable {X : Cx} {elts : List Expr} {x1 : Nat} {tpos : Pos}
end
end L2
namespace DL
open PySem PySem.Spec L2
section
variable {cA : Kn} {G : Cn} {ow : List Nat}
theorem ZbP {iv : Addr -> Prop} {H0 : Hp} {a : Addr} {vs : List V} {xs : List D} {n0 : Nat} (rd : SqL cA.K H0 a vs) (l : RepL cA iv H0 xs vs) : Vo cA iv (ZiQ cA.K n0 a) (YM n0 xs) H0 := fun H s => by
 have rd' : SqL cA.K H a vs := s.seq rd;refine ⟨fun i hi => ?_,fun i x v H' hx y => ?_,fun i hi => ⟨vs,rd',by rw [QH] at hi; rw [<- l.length]; exact hi⟩⟩
 · rw [QH] at hi
   obtain ⟨v,hv,_⟩ := l.get (List.getElem?_eq_getElem hi);exact ⟨vs,v,rd',hv⟩
 · obtain ⟨z,p,hy,hp,rfl,rfl⟩ := y
   rw [Zaq] at hx;cases hxi : xs[i]? with
   | none => rw [hxi] at hx; cases hx
   | some d =>
    rw [hxi] at hx;cases hx;obtain ⟨v',hv,r⟩ := l.get hxi;rw [hy vs rd'] at hv;cases hv;refine ⟨Yc hp,fun av' h1 h2 => ?_⟩;unfold Rep;exact ⟨p,_,rfl,fun z => h1 p z hp,ZM,.cons rfl (.cons (((r.av h2).same s).same (Yc hp)) .nil)⟩
end
end DL
namespace PySem
open Builtin SmallTypes
open AutoSeq1 (wpAny_loadPart')
theorem Zaf (x : Str) (t u : Tok) :
 Meets (Builtin.«enumerate.__new__» ⟨[.type "enumerate",.str x t],[("start",.int 1 u)]⟩) (fun _ R s =>
  R (.ok (.ret (.ref (s.heap.push { cls := .type (strIterType x),data := .fields #[.str x t,.int 0 0] }).objs.size)))
   { s with heap := (s.heap.push { cls := .type (strIterType x),data := .fields #[.str x t,.int 0 0] }).push { cls := .type "enumerate",data := .fields #[.none,.bool false,.ref s.heap.objs.size,rawInt 1,.none,.none] } }) :=
 .of_wp fun P w A R s h => by
  obtain ⟨hp,gs,dr,tk,os⟩ := s;have sb := sub_enumerate
  wp_walk using wpAny_pyIter_strU
  refine wpAny_stack_any fun fs => ?_
  refine wpAny_pure ?_
  split
  · rename_i q _ _ _ _ _
    cases (q == Value.type "enumerate") <;> (wp_walk using wpAny_pyIter_strU)
    · exact ⟨_,rfl,h⟩
    · exact ⟨_,rfl,h⟩
  · wp_walk using wpAny_pyIter_strU
    exact ⟨_,rfl,h⟩
end PySem
namespace PySem
section
variable {P : Program} {w : World} {A : Around} {E : Value -> Shared -> Prop} {s : Shared}
theorem ZbQ {x : Str} {t u : Tok} {Q : Value -> Shared -> Prop}
 (h : ∀ h',IsEnum h' (s.heap.objs.size + 1) s.heap.objs.size 1 .none -> h'.IsStrIter s.heap.objs.size (strIterType x) x t 0 -> (∀ b o,s.heap.get? b = some o -> h'.get? b = some o) -> Q (.ref (s.heap.objs.size + 1)) { s with heap := h' }) :
 wpAny (model P w) A (call (.type "enumerate") [.str x t] [("start",.int 1 u)]) Q E s := by
 refine Zax (Zaf x t u) ?_;have hz : (s.heap.push { cls := .type (strIterType x),data := .fields #[.str x t,.int 0 0] }).objs.size = s.heap.objs.size + 1 := by rw [Heap.size_push]
 have e0 := Heap.get?_push_size (s.heap.push { cls := .type (strIterType x),data := .fields #[.str x t,.int 0 0] }) (o:={ cls := .type "enumerate",data := .fields #[.none,.bool false,.ref s.heap.objs.size,rawInt 1,.none,.none] }) rfl;rw [hz] at e0;show _ /\ _;rw [hz];exact ⟨⟨_,e0,rfl⟩,h _ e0 ⟨_,Heap.get?_push_of_some _ (Heap.get?_push_size _ rfl),rfl,rfl⟩ fun b o x => Heap.get?_push_of_some _ (Heap.get?_push_of_some _ x)⟩
end
end PySem
namespace L2
open PySem PySem.Spec PyProof.Rows
section
variable {X : Cx} {elts : List Expr} {x1 : Nat} {tpos : Pos}
def Zdu (K : PySem.W.Frag) (ta : TA) : TI := fun σ H R => ta σ H fun vs H1 => (∃ l xs,vs = [.ref l] /\ SqL K H1 l xs /\ R (ZiQ K 1 l) H1) \/ ∃ cs,vs = [S cs] /\ R (ZiK 1 cs) H1
theorem Zeh {K : PySem.W.Frag} {a : Expr} {ta : TE} {p pos q1 q2 : Pos} {k0} (hg : Gl X "enumerate") (hm : X.mg "enumerate" = none) (ha : PE X a ta) (hs : starEach [a] X.env = [(false,eval a X.env)] := by rfl) (hK : X.K = K := by rfl) :
 PI X (.Tuple elts x1 tpos) (.Call (.Name "enumerate" p) [a] [⟨some "start",.Constant (.int 1) k0 q1,q2⟩] pos) (Zdu K (YT ta tNil)) := by
 subst hK;intro pins s σ H R I h;have e : eval (.Call (.Name "enumerate" p) [a] [⟨some "start",.Constant (.int 1) k0 q1,q2⟩] pos) X.env = (do callWith pos (<- eval (.Name "enumerate" p) X.env) [] (backTo pos (starEach [a] X.env)) (backToKw pos (keywordEach [⟨some "start",.Constant (.int 1) k0 q1,q2⟩] X.env))) := rfl;rw [e];refine wpAny_bind (Uf I hg hm boot_enumerate ?_);refine Zbt (by rw [hs]; rfl) (by rfl) ?_
 refine evalArgs_kw2 (by rfl) ?_ hs;refine thn ((Ze ha Zk hs) pos pins s σ H _ I h) fun us s1 ⟨vs,H1,I1,r1,qq⟩ => ?_
 refine thn ((Zga (e:=.Constant (.int 1) k0 q1) Zx ZhS) pos pins s1 σ H1 (fun ks H2 => ks = [.int 1] /\ H2 = H1) I1 ⟨rfl,rfl⟩) fun ks s2 ⟨vk,H2,I2,rk,ek⟩ => ?_
 obtain ⟨rfl,rfl⟩ := ek;obtain ⟨w2,rfl,t2,rfl⟩ := Vh rk;rcases qq with ⟨l,xs,ev,hq,q⟩ | ⟨cs,ev,q⟩
 · subst ev
   obtain ⟨w1,rfl,rx⟩ := Vh r1;cases rx;obtain ⟨its,rv,pl,hz⟩ := I2.list hq;show wpAny _ _ (call (.type "enumerate") [.ref l] [("start",.int 1 t2)]) _ _ _;refine Zcy pl.isList fun h' he st k => ?_
   refine wpAny_pyIter_enum he ?_;have I3 : Inv X pins σ H2 { s2 with heap := h' } := I2.kept (t' := s2.toks) k;refine ⟨s2.heap.objs.size + 1,[s2.heap.objs.size + 1,s2.heap.objs.size],_,_,H2,rfl,I3,ZcA (s2.heap.objs.size + 1) s2.heap.objs.size l (Nat.succ_ne_self _) 1,⟨⟨_,he⟩,st⟩,fun b hb => ?_,q⟩
   have hb' : s2.heap.objs.size <= b := by
    simp at hb;rcases hb with rfl | rfl
    · exact Nat.le_succ _
    · exact Nat.le_refl _
   exact I2.fpOk hb' (I2.hok.fresh hb')
 · subst ev
   obtain ⟨w1,rfl,t,rfl⟩ := Vh r1;show wpAny _ _ (call (.type "enumerate") [.str (tx cs) t] [("start",.int 1 t2)]) _ _ _;refine ZbQ fun h' he st k => ?_
   refine wpAny_pyIter_enum he ?_;have I3 : Inv X pins σ H2 { s2 with heap := h' } := I2.kept (t' := s2.toks) k;refine ⟨s2.heap.objs.size + 1,[s2.heap.objs.size + 1,s2.heap.objs.size],_,_,H2,rfl,I3,Zcv (s2.heap.objs.size + 1) s2.heap.objs.size (Nat.succ_ne_self _) 1 cs t,⟨⟨Nat.zero_le _,_,he⟩,st⟩,fun b hb => ?_,q⟩
   have hb' : s2.heap.objs.size <= b := by
    simp at hb;rcases hb with rfl | rfl
    · exact Nat.le_succ _
    · exact Nat.le_refl _
   exact I2.fpOk hb' (I2.hok.fresh hb')
end
end L2
namespace DL
open PySem PySem.Spec L2
section
variable {cA : Kn} {G : Cn} {ow : List Nat}
def XM (ε : Env -> Option D) (δ : Env) : Option (List D) := match ε δ with
 | some (.lst xs) => some (YM 1 xs)
 | some (.str cs) => some (YM 1 (cs.map fun c => .str [c]))
 | _ => none
theorem Zar {ta : TE} {ε : Env -> Option D} (h : VE G ow ta .cl ε) : VI G ow (Zdu G.1.K (YT ta tNil)) (XM ε) := fun H0 av A σ H δ E xs e R k => by
 unfold XM at e;cases he : ε δ with
 | none => rw [he] at e; cases e
 | some d =>
  rw [he] at e;cases d <;> first | (cases e; done) | skip
  · cases e
    refine h H0 av A σ H δ E _ he _ fun v H1 s r => ?_
    have e1 : v = S _ := r;subst e1;exact .inr ⟨_,rfl,k _ H1 s ZbN⟩
  · cases e
    refine h H0 av A σ H δ E _ he _ fun v H1 s r => ?_
    obtain ⟨a,vs,rfl,na,rd,l⟩ := r;exact .inl ⟨a,vs,rfl,rd,k _ H1 s (ZbP (ZcW na rd fun b o n e => by rw [Uq fun ⟨i,z⟩ => n (.inr ⟨i,z⟩)]; exact e) l.cut)⟩
end
end DL
namespace DL
open PySem PySem.Spec L2 PyProof.Rows
def Wd (i : Int) : Prop := i.natAbs < 2 ^ 8000
instance (i : Int) : Decidable (Wd i) := by unfold Wd; infer_instance
def CMulW (i j : Int) : Prop := (Wd i /\ Wd j) \/ CMul i j
instance (i j : Int) : Decidable (CMulW i j) := by unfold CMulW; infer_instance
def UY (_ j : Int) : Prop := j ≠ 0 /\ Wd j
instance (i j : Int) : Decidable (UY i j) := by unfold UY; infer_instance
instance (i j : Int) : Decidable (Uh i j) := by unfold Uh; infer_instance
theorem Zfp {i : Int} (h : Wd i) (h0 : i ≠ 0) : i.natAbs.log2 < 8000 := (Nat.log2_lt (by omega)).mpr h
theorem CMulW.ok {i j : Int} (h : CMulW i j) : IntMulOk i j := by
 rcases h with ⟨h1,h2⟩ | h
 · have bits : ∀ {a : Int}, Wd a -> Builtin.Int.intBits a <= 2 ^ 20 := fun {a} ha => by
    unfold Builtin.Int.intBits
    by_cases h0 : a = 0
    · subst h0; decide
    · have := Zfp ha h0
      have e : (2 : Nat) ^ 20 = 1048576 := by decide
      rw [e]
      split <;> omega
   exact .of_bits (bits h1) (bits h2)
 · exact h.ok
section
variable {X : Cx} {cA : Kn}
theorem op_mulW : OpR X (binaryOp .Mult) (rI CMulW fun i j => .int (i * j)) := opI fun _ _ _ _ _ _ _ hc q => mul_int q hc.ok
theorem V5 : OpR X (binaryOp .FloorDiv) (rI UY fun i j => .int (i.fdiv j)) := opI fun _ _ _ _ _ _ _ hc q => floordiv_int hc.1 q (.inl (PyProof.noPylong_of_log2 (Nat.lt_trans (Zfp hc.2 hc.1) (by decide))))
def fdivW : D -> D -> Option D
 | .int i,.int j => if UY i j then some (.int (i.fdiv j)) else none
 | _,_ => none
def modW : D -> D -> Option D
 | .int i,.int j => if j ≠ 0 then some (.int (i.fmod j)) else none
 | _,_ => none
def powW : D -> D -> Option D
 | .int i,.int j => if Uh i j then some (.int (i ^ j.toNat)) else none
 | _,_ => none
theorem ZfW {C : Int -> Int -> Prop} [∀ i j,Decidable (C i j)] {g : Int -> Int -> Int} {f : D -> D -> Option D} (hf : ∀ x y d,f x y = some d -> ∃ i j,x = .int i /\ y = .int j /\ C i j /\ d = .int (g i j)) : YZ cA (rI C fun i j => .int (g i j)) f := fun t t' i H x y vx vy d _ hx hy e Q k => by
 obtain ⟨a,b,rfl,rfl,hc,rfl⟩ := hf x y d e;cases (show vx = _ from hx); cases (show vy = _ from hy);exact ⟨_,_,rfl,rfl,hc,k _ H (Same.refl H) rfl⟩
theorem V6 : YZ cA (rI UY fun i j => .int (i.fdiv j)) fdivW := ZfW fun x y d e => by
 cases x <;> cases y <;> first | (cases e; done) | skip
 rename_i a b;dsimp only [fdivW] at e
 by_cases hz : UY a b
 · rw [if_pos hz] at e; cases e; exact ⟨_,_,rfl,rfl,hz,rfl⟩
 · rw [if_neg hz] at e; cases e
theorem Yb : YZ cA (rI (fun _ j => j ≠ 0) fun i j => .int (i.fmod j)) modW := ZfW fun x y d e => by
 cases x <;> cases y <;> first | (cases e; done) | skip
 rename_i a b;dsimp only [modW] at e
 by_cases hz : b ≠ 0
 · rw [if_pos hz] at e; cases e; exact ⟨_,_,rfl,rfl,hz,rfl⟩
 · rw [if_neg hz] at e; cases e
theorem Zgm : YZ cA (rI Uh fun i j => .int (i ^ j.toNat)) powW := ZfW fun x y d e => by
 cases x <;> cases y <;> first | (cases e; done) | skip
 rename_i a b;dsimp only [powW] at e
 by_cases hz : Uh a b
 · rw [if_pos hz] at e; cases e; exact ⟨_,_,rfl,rfl,hz,rfl⟩
 · rw [if_neg hz] at e; cases e
end
end DL
namespace L2
open PySem PySem.Spec PySem.W PyProof.Rows
def bmV : List Value := [.type "ValueError",.type "Exception",.type "BaseException",.type "object"]
theorem Zgn {K : PySem.W.Frag} {hp : Heap} {C : Addr} {tlB : List Value} {nid : String} (KX : K.In hp) (q0 : excIn K C tlB nid = true) :
 ∃ bm N nm q bs hdct sn sub ab col dd k0 k1 k2 k3 k5 mN,hp.get? C = some (excClassObj nm q C N bs bm hdct sn sub ab col dd k0 k1 k2 k3 k5 nid) /\ hp.Ns N mN /\ mN "__init__" = none /\ OwnTail hp tlB bm := by
 unfold excIn at q0
 split at q0
 · rename_i dict0 cls0 slots0 look0
   split at q0
   · rename_i C1 rest0 j0 j1 j2 j3 nid1 j5 mro0 sl0
     simp only [Bool.and_eq_true,beq_iff_eq,Bool.not_eq_true'] at q0;have e1 : C1 = C := q0.1.1.1.1.1;have e2 : nid1 = nid := q0.1.1.1.1.2;have e3 := q0.1.1.1.2;have e4 := q0.1.1.2;have e5 := q0.1.2;have e6 := q0.2;subst e1 e2;cases cls0 with
     | mk f1 f2 f3 f4 f5 f6 f7 f8 f9 f10 f11 =>
      dsimp only at mro0 e3 e5 e6;subst mro0 e3
      have es : slots0 = #[j0,j1,j2,j3,some (.builtin nid1),j5] := by
       cases slots0 with
       | mk l => exact congrArg Array.mk sl0
      subst es;exact ⟨rest0,f4,f1,f5,f2,f6,f7,f8,f9,f10,dict0,j0,j1,j2,j3,j5,_,KX _ _ look0,.of_isNs (isNs_of_in KX e5),nsMap_none_of_in KX e5 e6,tail_of_in KX e4⟩
   · cases q0
 · cases q0
def Zdv (X : Cx) (E : XK) (C : Addr) : Prop := ∀ (pins : List (Addr × Obj)) (σ : St) (H : Hp) (s : Shared) (h' : Heap) (e : Addr) (us : List Value),Inv X pins σ H s -> Heap.MadeExcOf s.heap h' e (.ref C) us -> E (.ref C) none H -> X.xe (.ref e) { s with heap := h' }
def Zfq (E : XK) (C : Addr) (t : TA) : TS := fun _ σ H => t σ H fun vs H1 => vs.length <= 8 /\ E (.ref C) none H1
section
variable {X : Cx} {E : XK} {C : Addr} {x : Str} {p cpos pos : Pos} {e : Expr} {es : List Expr} {t : TA}
theorem ZaP (hg : Gl X x) (hm : X.mg x = some (.ref C)) (hq : excIn X.K C bmV "ValueError.__new__" = true) (hR : Zdv X E C) (ha : PA X (e :: es) t) (hc : X.calm = true := by rfl)
 (he : starEach (e :: es) X.env = (false,eval e X.env) :: starEach es X.env := by rfl) (hpl : (backTo cpos (starEach es X.env)).any (·.1) = false := by rfl) (hdb : (x == ("__debug__" : Str)) = false := by decide) :
 PS X (.Raise (some (.Call (.Name x p) (e :: es) [] cpos)) none pos) (Zfq E C t) := by
 intro pins s σ H D I h;obtain ⟨tl,N,nm,q,bs,hdct,sn,sub,ab,col,dd,k0,k1,k2,k3,k5,mN,hC,hN,hni,T⟩ := Zgn I.ok.mod.kin hq
 refine wpAny_Raise_call_subT (C:=C) (nm:=nm) (q:=q) (N:=N) (bs:=bs) (bm:=tl) (hdct:=hdct) (sn:=sn) (sub:=sub) (ab:=ab) (col:=col) (dd:=dd) (k0:=k0) (k1:=k1) (k2:=k2) (k3:=k3) (k5:=k5)
  PySem.F.excBase_ValueError (mN:=mN) (T.hasType PySem.F.excBase_ValueError.hasBase) (I.ok.hd hc) (by rw [he]; show (false || (backTo cpos (starEach es X.env)).any (·.1)) = false; rw [hpl]; rfl) hni (Ue I hg hm ⟨rfl,?_⟩ hdb)
 have h1 := ha cpos pins s σ H _ I h;rw [he] at h1 ⊢;refine Calls.evalArgs_plain (thn h1 fun us s2 ⟨vs,H2,I2,r,hl,hE⟩ => ⟨rfl,?_,I2.bk _ _ hC,hN.keeps I2.bk,T.keeps I2.bk,fun h' ea hx => ?_⟩)
 · show us.length <= sizeLine
   rw [<- r.length];exact Nat.le_trans hl (by decide)
 · exact hR pins σ H2 s2 h' ea us I2 hx hE
end
theorem HOk.hide {P : Program} {w : World} {H : Hp} {h : Heap} {as : List Addr} (x : HOk P w H h) (hn : ∀ b ∈ as,H b = none) : HOk P w H (hideAll h as) := fun a o e =>
 (x a o e).stay (fun b u hb q => hideAll_get _ q fun z => by
   rcases hb with rfl | hb
   · rw [hn _ z] at e; cases e
   · rw [hn _ z] at hb; cases hb) (fun _ q => q) fun _ _ q => q
def CX1 (P : Program) (w : World) : CXT := fun outer H s E ev s' => ∃ (ea : Addr) (cls a0 : Value) (B : Heap) (H' : Hp),ev = .ref ea /\ s'.os = s.os /\ AllBare s'.gens /\ Heap.FlyingW B outer ea cls a0 s'.heap /\
 (∀ b o,s.heap.get? b = some o -> H b = none -> b ∉ frs outer -> B.get? b = some o) /\ HOk P w H' B /\ Same H H' /\ (∀ b o,s.heap.get? b = some o -> H b = none -> H' b = none) /\ (∀ b o,s.heap.get? b = some o -> b ∈ frs outer -> ∃ sl,s'.heap.get? b = some { o with slots := sl }) /\ E cls none H'
section
variable {P : Program} {w : World} {K : PySem.W.Frag} {mg : Str -> Option Value} {base : Heap} {N : List Str} {qual : Str} {scope : Scope} {f : Addr} {cd : Value} {A : Around} {outer : List Env} {s : Shared} {H : Hp} {E : XK}
theorem Zac {C : Addr} : Zdv (Yu (CX1 P w) P w K mg base N qual scope f cd A outer s H E) (fun c d H' => Same H H' /\ E c d H') C := by
 intro pins σ H1 s1 h' e us I hx ⟨hsm,hw⟩;show wpAny (model P w) _ (leaving _ (.ref e)) _ _ _;have hin : ∀ env ∈ ((Yu (CX1 P w) P w K mg base N qual scope f cd A outer s H E).stack),∀ b,env.frame = some b -> b ∈ frs (Yu (CX1 P w) P w K mg base N qual scope f cd A outer s H E).stack := fun env he b hb => List.mem_filterMap.mpr ⟨env,he,hb⟩
 have hfr := I.ok.frames;have hfun := funFrames_hide I.stack hin;have hfree := I.stkFree;have hsub := I.stkSub;refine wpAny_leaves_madeW (base:=hideAll s1.heap (frs (Yu (CX1 P w) P w K mg base N qual scope f cd A outer s H E).stack)) (h:=s1.heap) (outer:=outer) hfr rfl (fun b o q => of_hideAll _ q) hfun hx fun h2 t x1 x2 x3 x4 => ?_
 refine ⟨e,.ref C,.ref t,_,H1,rfl,I.os,I.bare,x1,fun b o q n hb => ?_,HOk.hide I.hok hfree,hsm,fun b o q n => I.base.free b o q n (fun z => nomatch z),fun b o q hb => ?_,hw⟩
 · have q1 := I.base.keep b o q n hb (fun z => nomatch z)
   refine hideAll_get _ q1 fun z => ?_
   rcases List.mem_cons.mp (hsub b z) with e' | z
   · have := I.ok.above
     exact absurd (Heap.lt_size q) (Nat.not_lt.mpr (by rw [e']; exact this))
   · exact hb z
 · obtain ⟨sl,q1⟩ := I.base.slot b o q (I.ok.frf b hb) hb (fun z => nomatch z)
   obtain ⟨_,o',q2,hnf⟩ := I.ok.funs.mem hb;have : o' = o := Option.some.inj (q2.symm.trans q);subst this;obtain ⟨sl2,q4⟩ := x4 b _ (hx.keeps b _ q1) (show ∀ vs,({ cls := o'.cls,dict := o'.dict,data := o'.data,slots := sl } : Obj).data ≠ .fields vs from hnf);exact ⟨sl2,q4⟩
theorem Jl : VV (CX1 P w) (Yu (CX1 P w) P w K mg base N qual scope f cd A outer s H E) (fun c d H' => Same H H' /\ E c d H') := by
 intro pins σ H1 s1 ev s' I ⟨ea,cls,a0,B,H2,e,hos,hb,hfl,hKB,hok,hsame,hfree,hup,hS,hE⟩;subst e;show wpAny (model P w) _ (leaving _ (.ref ea)) _ _ _;refine wpAny_leaves_onW (outer:=outer) I.ok.frames rfl hfl fun h2 y1 y2 => ?_
 refine ⟨ea,cls,a0,B,H2,rfl,hos.trans I.os,hb,y1,fun b o q n hn => ?_,hok,hS,fun b o q n => ?_,fun b o q hn => ?_,hE⟩
 · refine hKB b o (I.base.keep b o q n hn (fun z => nomatch z)) (I.base.free b o q n (fun z => nomatch z)) fun z => ?_
   rcases List.mem_cons.mp (I.stkSub b z) with e' | z
   · exact absurd (Heap.lt_size q) (Nat.not_lt.mpr (by rw [e']; exact I.ok.above))
   · exact hn z
 · obtain ⟨sl,q1⟩ := I.base.any q n (fun z => nomatch z)
   exact hfree b _ q1 (I.base.free b o q n (fun z => nomatch z))
 · obtain ⟨sl,q1⟩ := I.base.slot b o q (I.ok.frf b hn) hn (fun z => nomatch z)
   obtain ⟨_,o',q2,hnf⟩ := I.ok.funs.mem hn;have : o' = o := Option.some.inj (q2.symm.trans q);subst this;obtain ⟨sl',q3⟩ := hup b _ q1 (List.mem_cons_of_mem _ hn);obtain ⟨sl2,q4⟩ := y2 b _ q3 (show ∀ vs,({ cls := o'.cls,dict := o'.dict,data := o'.data,slots := sl' } : Obj).data ≠ .fields vs from hnf);exact ⟨sl2,q4⟩
end
end L2
namespace L2
open PySem PySem.Spec PySem.W PyProof.Rows PySem.Calls PySem.Builtin PySem.Builtin.ObjectAttr PySem.Builtin.Getset_descriptor
def Yq (e : Addr) (C : Value) (hp : Heap) : Prop := ∃ o : Obj,hp.get? e = some o /\ o.cls = C
structure ExCls (K : PySem.W.Frag) (C : Addr) : Prop where
 ex : excIn K C bmV "ValueError.__new__" = true
 ga : findIn K (.ref C) "__getattribute__" = some (some (.builtin "BaseException.__getattribute__"))
 mb : mroIn K C (.type "BaseException") = some true
 gt : findIn K (.ref C) "__getattr__" = some none
 ca : findIn K (.ref C) "__class__" = some (some (.builtin "object.__class__"))
 cg : specialIn K (.builtin "object.__class__") "__get__" = some (some (.builtin "getset_descriptor.__get__"))
 ct : takesIn K (.builtin "object.__class__") = some true
 mo : mroIn K C (.type "object") = some true
 cl : (clsIn K C).isSome = true
section
variable {P : Program} {w : World} {A : Around} {E : Value -> Shared -> Prop} {s : Shared} {K : PySem.W.Frag} {e C : Addr}
theorem UZ {M : Model} {hp : Heap} (p : Yq e (.ref C) hp) : Looks M hp (typeOf (.ref e)) (.ref C) := by
 obtain ⟨o,h1,h2⟩ := p;exact h2 ▸ (Looks.ld h1).andThen .now
theorem ZeO {M : Model} {hp : Heap} (T : ExCls K C) (KX : K.In hp) : Looks M hp (Builtin.ObjectAttr.find (.ref e) (.ref C) "__class__") (.bind (.builtin "getset_descriptor.__get__") (.builtin "object.__class__")) :=
 (looks_findIn (M:=M) KX T.ca).andThen ((show Looks M hp (Builtin.ObjectAttr.getOf (some (.builtin "object.__class__"))) _ from looks_specialIn KX T.cg).andThen
   ((show Looks M hp (Builtin.ObjectAttr.dataDescriptor? (some (.builtin "object.__class__")) (some (.builtin "getset_descriptor.__get__"))) (some (Value.builtin "getset_descriptor.__get__",Value.builtin "object.__class__")) from (looks_takesIn (M:=M) KX T.ct).andThen .now).andThen (Looks.tag .now)))
theorem ZeP {tp : Value} {R : Result -> Shared -> Prop} (T : ExCls K C) (KX : K.In s.heap) (p : Yq e (.ref C) s.heap) (hr : R (.ok (.ret (.ref C))) s) :
 codeAny (model P w) A (.call (.builtin "getset_descriptor.__get__") ⟨[.builtin "object.__class__",.ref e,tp],[]⟩) R s := by
 cases s with
 | mk hp gs dr tk os' =>
 have Y0 := UZ (M:=model P w) p;have Y1 := looks_mroIn (M:=model P w) KX T.mo
 refine codeAny_call_builtin KF.slot_gs.plain KF.entry_gs (KF.slot_gs.check _ _ _ _ _ _ _ _ KF.type_class (KF.args_gs _ _ _) (by
  unfold Builtin.«getset_descriptor.__get__» descrGet; rw [dga_obj]; refine wpAny_bind (wpAny_pure ?_);unfold descrGetter descrCheckInstance descrNameAndClass isInstance; simp only [KF.owner_class]; repeat lk
  refine ⟨Code.quiet_builtin _ (by decide +kernel), codeAny_builtin KF.entry_class (by unfold Builtin.«object.__class__» shownTypeOf; repeat lk
                                                                                       exact hr)⟩))
theorem Zei {tk : Tok} {Q : Fin -> Shared -> Prop} (T : ExCls K C) (KX : K.In s.heap) (p : Yq e (.ref C) s.heap) (hq : Q (.done (.ret (.ref C))) s) : wpAny (model P w) A (Builtin.«object.__getattribute__» ⟨[.ref e,.str "__class__" tk],[]⟩) Q E s := by
 have Y0 := UZ (M:=model P w) p;have Y2 := ZeO (e:=e) (M:=model P w) T KX;unfold Builtin.«object.__getattribute__»;refine wpAny_bind (wpAny_pure ?_);refine wpAny_bind (wpAny_pure ?_);refine wpAny_bind (Y0.here (wpAny_bind (Y2.here ?_)));show wpAny _ _ (holding [Value.builtin "object.__class__"] (call (.builtin "getset_descriptor.__get__") [.builtin "object.__class__",.ref e,.ref C]) >>= ret) _ _ _
 exact wpAny_bind (wpAny_holding (wpAny_call (ZeP T KX p (wpAny_pure hq))))
theorem Zej {nameV : Value} {Q : Unit -> Shared -> Prop} (T : ExCls K C) (KX : K.In s.heap) (p : Yq e (.ref C) s.heap) (hq : Q () s) : wpAny (model P w) A (checkBuiltinCall "BaseException.__getattribute__" ⟨[.ref e,nameV],[]⟩) Q E s := by
 cases s with
 | mk hp gs dr tk os' =>
 have Y0 := UZ (M:=model P w) p;have Y1 := looks_mroIn (M:=model P w) KX T.mb;have e1 : builtinKind "BaseException.__getattribute__" = some .slot := by decide +kernel
 have e2 : splitId "BaseException.__getattribute__" = some ("BaseException", "__getattribute__") := by decide +kernel
 have e3 := F.args_bexc_ga (.ref e) nameV;simp only [checkBuiltinCall,e1,e2];unfold isInstance
 repeat (first | exact hq | assumption | lk | wp_step)
theorem Zek {Q : Option Value -> Shared -> Prop} (T : ExCls K C) (KX : K.In s.heap) (p : Yq e (.ref C) s.heap) (hq : Q (some (.ref C)) { s with toks := s.toks + 1 }) : wpAny (model P w) A (getAttr? (.ref e) "__class__") Q E s := by
 cases s with
 | mk hp gs dr tk os' =>
 have Y0 := UZ (M:=model P w) p;have Y1 := looks_findIn (M:=model P w) KX T.ga;have Y3 := looks_findIn (M:=model P w) KX T.gt;have b1 := PySem.F.attr_ValueError.ga.bind (.ref e);unfold getAttr? getAttrBy? getAttrBy;refine wpAny_bind (wpAny_mkText (wpAny_bind (wpAny_attempt (wpAny_holding (wpAny_bind (Y0.at (wpAny_bind (Y1.at ?_))))))));show wpAny _ _ (getAttrByItsOwn (.ref e) _ (.ref C) (.builtin "BaseException.__getattribute__") false false) _ _ _
 unfold getAttrByItsOwn hookBefore;refine wpAny_bind (Y3.at ?_);refine wpAny_bind (wpAny_attempt (wpAny_holding ?_));show wpAny _ _ (boundAndCalled (.builtin "BaseException.__getattribute__") (.ref e) _) _ _ _;unfold boundAndCalled;rw [b1];refine wpAny_bind (wpAny_pure ?_);show wpAny _ _ (call (.builtin "BaseException.__getattribute__") [.ref e,.str "__class__" _]) _ _ _;refine wpAny_call (codeAny_call_builtin PySem.F.attr_ValueError.ga.plain F.entry_bexc_ga (Zej (s:=⟨hp,gs,dr,tk + 1,os'⟩) T KX p (Zei (s:=⟨hp,gs,dr,tk + 1,os'⟩) T KX p ?_)))
 exact wpAny_mono (handed_on (E:=fun _ _ => False) rfl (show (fun v s'' => Q (some v) s'') (.ref C) _ from hq)) (fun v s'' hv => wpAny_pure hv) (fun _ _ z => z.elim)
theorem Zb5 (T : ExCls K C) : KitX K (.ref e) (.ref C) (Yq e (.ref C)) where
 ty := fun _ _ _ p => UZ p
 it := fun M hp KX _ => by
  have hc := T.cl;cases hq : clsIn K C with
  | none => rw [hq] at hc; cases hc
  | some cd =>
   unfold clsIn at hq
   split at hq
   · rename_i look0
     intro A' Q' E' s' k0 q0;unfold isType loadHead;exact wpAny_bind (wpAny_loadPart (k0 _ _ (KX _ _ look0)) (wpAny_pure q0))
   · cases hq
 ne := fun hp tp dd its n sl KX htp => by
  have hc := T.cl;cases hq : clsIn K C with
  | none => rw [hq] at hc; cases hc
  | some cd =>
   cases hz : (Value.ref C == Value.ref tp) with
   | false => rfl
   | true =>
    exfalso
    have ez : C = tp := Value.ref.inj (beq_iff_eq.mp hz);subst ez;unfold clsIn at hq
    split at hq
    · rename_i look0
      have := (KX _ _ look0).symm.trans htp;cases this
    · cases hq
 ca := fun KX p k => Zek T KX p k
end
theorem Zel {X : Cx} {e C : Addr} (T : ExCls X.K C) : Xe X (.builtin "isinstance") (fun xs H Q => ∃ c cv b,xs = [.ref e,c] /\ (∀ v,RelV c v -> v = cv) /\ H e = some (.ext (Yq e (.ref C))) /\ kitOne X.K (.ref C) cv = some b /\ Q (.bl b) H) := by
 intro pins s σ H xs us Q I rs h;obtain ⟨c,cv,b,rfl,hc,he,hk,q⟩ := h;obtain ⟨u,w',rfl,rx,rc⟩ := Zha rs;have ec := hc _ rc;subst ec;cases (show u = Value.ref e from rx);have hx : Yq e (.ref C) s.heap := (I.hok e _ he).1;exact PySem.W.kia_one (Zb5 T) I.kIn hx hk (fun z => nomatch z) fun tk => ⟨.bl b,H,I.tok tk,rfl,q⟩
end L2
namespace L2
open PySem PySem.Spec PySem.W PyProof.Rows
theorem ObjOk.there {P : Program} {w : World} {H : Hp} {hp : Heap} {a : Addr} {o : HO} (x : ObjOk P w H hp a o) : ∃ u,hp.get? a = some u := by
 cases o with
 | lst xs => obtain ⟨_,_,_,_,e⟩ := x; exact ⟨_,e⟩
 | tup xs => obtain ⟨_,_,_,ob,e,_⟩ := x; exact ⟨_,e⟩
 | dK kvs => obtain ⟨_,_,_,_,o,_,_,e,_⟩ := x; exact ⟨_,e⟩
 | dT kvs => obtain ⟨_,_,_,_,o,_,_,e,_⟩ := x; exact ⟨_,e⟩
 | set S n => obtain ⟨o,_,_,_,e,_⟩ := x; exact ⟨_,e⟩
 | ins C dx fs => obtain ⟨_,_,_,e,_⟩ := x; exact ⟨_,e⟩
 | own y => exact x
 | xd fs => obtain ⟨_,⟨_,_,_,e,_⟩,_⟩ := x; exact ⟨_,e⟩
 | rng lo hi => obtain ⟨_,_,_,e⟩ := x; exact ⟨_,e⟩
 | frz ob u => obtain ⟨e,_⟩ := x; exact ⟨_,e⟩
 | tbl ps => exact ⟨_,x⟩
 | met f y => exact ⟨_,x⟩
 | ext φ => exact x.2.1
section
variable {X : Cx} {pins : List (Addr × Obj)} {σ : St} {H H' : Hp} {s s' : Shared} {B hp : Heap} {ea : Addr} {C : Value}
theorem ZcB (I : Inv X pins σ H s) (hos : s'.os = s.os) (hbare : AllBare s'.gens) (hst : B.StaysIn s'.heap) (hea : B.get? ea = none) (hKB : ∀ b o,s.heap.get? b = some o -> H b = none -> b ∉ frs X.stack -> B.get? b = some o)
 (hok : HOk X.prog X.w H' B) (hsame : Same H H') (hfree : ∀ b o,s.heap.get? b = some o -> H b = none -> H' b = none) (hup : ∀ b o,s.heap.get? b = some o -> b ∈ frs X.stack -> ∃ sl,s'.heap.get? b = some { o with slots := sl })
 (hx : Yq ea C s'.heap) (hnf : ea ∉ frs X.stack) : Inv X pins σ (upd H' ea (.ext (Yq ea C))) s' /\ H' ea = none := by
 have hn : H' ea = none := by
  cases q : H' ea with
  | none => rfl
  | some o =>
   obtain ⟨u,e⟩ := (hok ea o q).there;rw [hea] at e; cases e
 have ne' : ∀ b o,H' b = some o -> b ≠ ea := fun b o q z => by rw [z,hn] at q; cases q
 have hup' : ∀ b o,H' b = some o -> upd H' ea (.ext (Yq ea C)) b = some o := fun b o q => (Zt (ne' b o q)).trans q
 refine ⟨I.call' (ch:=[]) hos ⟨fun b o q n hb _ => hst b o (hKB b o q n hb),fun b o q n hb _ => hup b o q hb,fun b o q n _ => ?_,fun b o q _ => ?_,fun b xs q => hup' b _ (hsame b _ q),fun b ob u q => hup' b _ (hsame b _ q),fun b ps q => ⟨#[],by rw [hup' b _ (hsame b _ q)]; simp⟩⟩ ?_ hbare (fun b z => nomatch z),hn⟩
 · by_cases hb : b ∈ frs X.stack
   · have hbe : b ≠ ea := fun z => hnf (by rw [<- z]; exact hb)
     rw [Zt hbe];exact hfree b o q n
   · have := hKB b o q n hb
     have hbe : b ≠ ea := fun z => by rw [z,hea] at this; cases this
     rw [Zt hbe];exact hfree b o q n
 · by_cases hb : b ∈ frs X.stack
   · obtain ⟨sl,e⟩ := hup b o q hb
     exact ⟨_,e⟩
   · cases n : H b with
     | none => exact ⟨o,hst b o (hKB b o q n hb)⟩
     | some u =>
      obtain ⟨v,e⟩ := (hok b u (hsame b u n)).there;exact ⟨v,hst b v e⟩
 · intro a o q
   by_cases ha : a = ea
   · subst ha
     rw [ZM] at q;cases q;obtain ⟨ob,h1,h2⟩ := hx;exact ⟨⟨ob,h1,h2⟩,⟨ob,h1⟩,fun g1 g2 ⟨o1,a1,a2⟩ k => ⟨o1,k o1 a1,a2⟩⟩
   · rw [Zt ha] at q
     exact (hok a o q).stay (fun b u _ e => hst b u e) (fun b e => hup' b _ e) fun b xs e => hup' b _ e
theorem Jm {M : Model} {A : Around} {E : Value -> Shared -> Prop} {i : Nat} {n : Str} {pos : Pos} {Q : Unit -> Shared -> Prop} (I : Inv X pins σ H s) (hN : X.N.Nodup) (hi : X.N[i]? = some n) (hk : X.env.scope.names.lookup n = some .local)
 (hq : ∀ s',Inv X pins (σ.set i none) H s' -> Q () s') : wpAny M A (do bindName X.env n .none; unbindBehindTheSuite X.env n pos) Q E s := by
 obtain ⟨m,hn,hl⟩ := id I.loc;have hcls : (X.env.scope.kind == .class || (X.env.scope.kind == .module && X.env.locals != X.env.globals)) = false := by rw [I.ok.kind]; rfl
 have cne := I.cne;refine wpAny_nameGoes_keeps hk hn hcls fun h1 v hn1 hs => ?_
 obtain ⟨oL,_,_,hoL,_⟩ := id hn;have low : ∀ {b : Addr} {o : Obj},X.s₀.heap.get? b = some o -> b ≠ X.env.locals := fun {b o} e => Nat.ne_of_lt (Nat.lt_of_lt_of_le (Heap.lt_size e) I.ok.above)
 refine hq _ ⟨I.ok,I.os,I.bare,⟨fun b o e n' hb hx => (hs.2 b (low e)).trans (I.base.keep b o e n' hb hx),fun b o e n' hb hx => ?_,I.base.free,fun b o e hx => ?_,I.base.tups,I.base.frzs,I.base.tbls⟩,⟨_,hn1,fun j y v' e1 e2 e3 => ?_⟩,fun y c e => ?_,I.free,I.freeC,fun p hp => ?_,fun b ob e => ?_,by simpa using I.len⟩
 · obtain ⟨sl,e1⟩ := I.base.slot b o e n' hb hx
   exact ⟨sl,(hs.2 b (low e)).trans e1⟩
 · obtain ⟨o',e1⟩ := I.base.there b o e hx
   exact ⟨o',(hs.2 b (low e)).trans e1⟩
 · by_cases hj : j = i
   · subst hj
     have : j < σ.length := by rw [I.len]; exact (List.getElem?_eq_some_iff.mp hi).1
     rw [List.getElem?_set_self this] at e2;cases e2
   · rw [List.getElem?_set_ne (Ne.symm hj)] at e2
     obtain ⟨u',r',q⟩ := hl j y v' e1 e2 e3;refine ⟨u',r',?_⟩;rcases q with ⟨k1,e⟩ | ⟨k1,c,e,z⟩
     · refine .inl ⟨k1,?_⟩
       have hyn : y ≠ n := fun e => hj (J0 hN e1 (e ▸ hi))
       show (if y = n then v else m y) = some u';rw [if_neg hyn]; exact e
     · exact .inr ⟨k1,c,e,z.sameBut hs (cne y c e)⟩
 · obtain ⟨w',z⟩ := I.cell y c e
   exact ⟨w',z.sameBut hs (cne y c e)⟩
 · obtain ⟨e,n',ne,nf,d⟩ := I.pin p hp
   exact ⟨(hs.2 p.1 ne).trans e,n',ne,nf,d⟩
 · refine (I.hok b ob e).stay (fun c w' hc q => (hs.2 c ?_).trans q) (fun _ q => q) fun _ _ q => q
   intro z;have fr := I.free;rcases hc with hc | hc
   · rw [<- z,hc,e] at fr; cases fr
   · rw [<- z,hc] at fr; cases fr
end
abbrev Cx.suite (X : Cx) (ea : Addr) : Cx := { X with A := X.A.mark (some (.ref ea)),calm := false,xe := fun _ _ => False }
theorem Inv.suite {X : Cx} {pins : List (Addr × Obj)} {σ : St} {H : Hp} {s : Shared} (I : Inv X pins σ H s) (ea : Addr) : Inv (X.suite ea) pins σ H s :=
 ⟨⟨I.ok.mod,I.ok.kind,I.ok.glob,I.ok.blt,I.ok.above,I.ok.inj,I.ok.has,I.ok.cab,(fun z => nomatch z),I.ok.frames,I.ok.stk,I.ok.exf,I.ok.bs,I.ok.bsz,I.ok.noex,I.ok.exfs,I.ok.funs,I.ok.frf⟩,I.os,I.bare,I.base,I.loc,I.cell,I.free,I.freeC,I.pin,I.hok,I.len⟩
theorem Inv.unsuite {X : Cx} {pins : List (Addr × Obj)} {σ : St} {H : Hp} {s : Shared} {ea : Addr} (ok : X.Ok) (I : Inv (X.suite ea) pins σ H s) : Inv X pins σ H s :=
 ⟨ok,I.os,I.bare,I.base,I.loc,I.cell,I.free,I.freeC,I.pin,I.hok,I.len⟩
def PEx (X : Cx) (E : XK) (e : Expr) (t : TE) : Prop := ∀ (pins : List (Addr × Obj)) (s : Shared) (σ : St) (H : Hp) (Q : VK) (xe : Value -> Shared -> Prop),Inv X pins σ H s -> t σ H Q ->
 (∀ H2 s2 ev s',Inv X pins σ H2 s2 -> CX1 X.prog X.w X.stack H2 s2 E ev s' -> xe ev s') -> wpAny (model X.prog X.w) X.A (eval e X.env) (EP X pins σ Q) xe s
def PSx (X : Cx) (E : XK) (st : List Stmt) (t : TS) : Prop := ∀ (pins : List (Addr × Obj)) (s : Shared) (σ : St) (H : Hp) (D : Ends) (xe : Value -> Shared -> Prop),Inv X pins σ H s -> t D σ H ->
 (∀ H2 s2 ev s',Inv X pins σ H2 s2 -> CX1 X.prog X.w X.stack H2 s2 E ev s' -> xe ev s') -> wpAny (model X.prog X.w) X.A (execs st X.env) (SP X pins D) xe s
section
variable {X : Cx} {E : XK}
theorem Zb6 {k : Nat} {f : Addr} {fd : FuncData} {ps : List Str} {sp : Sp} {dvs : List V} {ds : List Value} {x : Str} {p pos : Pos} {e : Expr} {es : List Expr} {t : TA}
 (F : FnOk X.prog X.w X.K X.mg X.base (CX1 X.prog X.w) k f fd ps sp) (hr : Room k X.A) (hg : Gl X x) (hm : X.mg x = some (.ref f)) (hk : keepIn X.K (.ref f) = true) (hb : Binds X.K fd ps ds) (hd : Vals dvs ds) (h0 : ∀ e s,¬ X.xe e s) (ha : PA X (e :: es) t)
 (hdb : (x == ("__debug__" : Str)) = false := by decide) (he : starEach (e :: es) X.env = (false,eval e X.env) :: starEach es X.env := by rfl) (hpl : (backTo pos (starEach es X.env)).any (·.1) = false := by rfl) :
 PEx X E (.Call (.Name x p) (e :: es) [] pos) (UM sp dvs E t) := by
 intro pins s σ H Q xe I h hx;refine wpAny_Call_Name_kw (Ue I hg hm ?_ hdb);refine PySem.W.callWith_K (h₀:=X.base) I.ok.mod.kin hk (wpAny_mono (ha pos pins s σ H _ I h) (fun us s1 ⟨vs,H1,I1,r,q⟩ => ⟨I1.kIn,?_⟩) fun e s z => (h0 e s z).elim) he hpl;have r2 : Vals (vs ++ dvs) (us ++ ds) := r.append hd;have hl : (us ++ ds).length = ps.length := by rw [<- r2.length]; exact F.len _ _ _ _ q
 refine wpAny_call (codeAny_mono (F.run X.A X.stack s1 H1 ⟨us,[]⟩ (us ++ ds) (vs ++ dvs) Q E hr I1.env0 (hb s1 us I1.kIn hl) r2 q) fun r' s' hq => ?_);cases r' with
 | error ev => exact hx H1 s1 ev s' I1 hq
 | ok fl =>
  cases fl with
  | ret u => exact I1.after hq
  | next => exact False.elim hq
  | brk => exact False.elim hq
  | cont => exact False.elim hq
theorem Zb7 {e : Expr} {te : TE} {pos : Pos} (he : PEx X E e te) (hs : swapsWith e none pos.line X.env = pure false := by rfl) : PSx X E [.Expr e pos] (Ug te) := by
 intro pins s σ H D xe I h hx;refine wpAny_execs_cons (thn (Q:=SP X pins D) (wpAny_Expr_any (thn (he pins s σ H _ xe I h hx) fun v s1 ⟨x,H1,I1,r1,q1⟩ => ⟨σ,H1,I1,q1⟩) I.quiet hs) fun f s1 q => ?_);cases f with
 | next => exact wpAny_execs_nil q
 | ret v => exact q
 | brk => exact q
 | cont => exact q
end
end L2
namespace L2
open PySem PySem.Spec PySem.W PyProof.Rows
def Zdw (i : Nat) (D : Ends) : Ends := { nx := fun σ H => D.nx (σ.set i none) H,rt := D.rt,bk := fun σ H => D.bk (σ.set i none) H,ct := fun σ H => D.ct (σ.set i none) H }
def ZkH (K : PySem.W.Frag) (G : Addr) (i : Nat) (tb : XK -> TS) (ts : Addr -> Addr -> TS) : TS := fun D σ H => ∃ E : XK,tb E D σ H /\ ∀ cls H',E cls none H' -> ∃ C,cls = .ref C /\ ExCls K C /\ exmOne K (.ref C) (.ref G) = some true /\
 ∀ ea,H' ea = none -> ts C ea (Zdw i D) (σ.set i (some (.ref ea))) (upd H' ea (.ext (Yq ea (.ref C))))
section
variable {X : Cx} {G : Addr} {g n : Str} {i : Nat} {body suite : List Stmt} {b₀ : Stmt} {gp hpos pos : Pos} {tb : XK -> TS} {ts : Addr -> Addr -> TS}
theorem Zfr (hN : X.N.Nodup) (hi : X.N[i]? = some n) (hk : X.env.scope.names.lookup n = some .local) (hstk : X.stack = X.env :: X.outer /\ X.env.frame = some X.env.locals) (hg : Gl X g) (hm : X.mg g = some (.ref G))
 (hb : ∀ E,PSx X E body (tb E)) (hs : ∀ C ea,ExCls X.K C -> PSs (X.suite ea) (b₀ :: suite) (ts C ea)) (hdb : (g == ("__debug__" : Str)) = false := by decide) :
 PS X (.Try body [.ExceptHandler (some (.Name g gp)) (some n) (b₀ :: suite) hpos] [] [] pos) (ZkH X.K G i tb ts) := by
 intro pins s σ H D I ⟨E,h⟩;refine wpAny_Try_except ?_;refine thn (hb E pins s σ H D _ I h.1 ?_) fun fl s1 q => ?_
 · intro H2 s2 ev s' I2 ⟨ea,cls,a0,B,H',e,hos,hbare,hfl,hKB,hok,hsame,hfree,hup,hE⟩
   subst e;obtain ⟨C,rfl,T,hx,hts⟩ := h.2 cls H' hE;have hfr : X.A.frames = some (X.env :: X.outer) := by rw [<- hstk.1]; exact I.ok.frames
   have hfl' : Heap.FlyingW B (X.env :: X.outer) ea (.ref C) a0 s'.heap := hstk.1 ▸ hfl;have hea : B.get? ea = none := hfl.2.1
   have hnf : ea ∉ frs X.stack := fun z => by
    obtain ⟨_,o,h1,h2⟩ := hfl.2.2.1.mem z;obtain ⟨oe,vs,h3,_,h4,_⟩ := hfl.first;rw [h1] at h3;cases h3;exact h2 vs h4
   have frnf : ∀ b o,s2.heap.get? b = some o -> b ∈ frs X.stack -> ∀ vs,o.data ≠ .fields vs := fun b o q z => by
    obtain ⟨_,o',h1,h2⟩ := I2.stack.mem z;have : o' = o := Option.some.inj (h1.symm.trans q);exact this ▸ h2
   have at_ : ∀ {hp : Heap} {g' : Array GenState} {d' : Drawn} {t' : Nat},Heap.FlyingW B (X.env :: X.outer) ea (.ref C) a0 hp -> s'.heap.UpToSlots hp -> AllBare g' -> Inv X pins σ (upd H' ea (.ext (Yq ea (.ref C)))) ⟨hp,g',d',t',s'.os⟩ /\ H' ea = none := fun {hp g' d' t'} f u hg' => by
    refine ZcB (s' := ⟨hp,g',d',t',s'.os⟩) I2 hos hg' f.1 hea hKB hok hsame hfree (fun b o q z => ?_) f.there hnf;obtain ⟨sl,q1⟩ := hup b o q z;obtain ⟨sl2,q2⟩ := u b _ q1 (show ∀ vs,({ o with slots := sl } : Obj).data ≠ .fields vs from frnf b o q z);exact ⟨sl2,q2⟩
   refine wpAny_looks_onW hfr hstk.2 hfl' fun h4 hh4 u4 => ?_
   refine wpAny_landsW hh4 fun h5 hf5 u5 => ?_
   obtain ⟨I5,hn⟩ := at_ (hp:=h5) (g' := s'.gens) (d' := s'.drawn) (t' := s'.toks) hf5 (u4.trans u5) hbare;refine wpAny_handleBy_cons (codeAny_handlers_test (Ue (I5.suite ea) hg hm ?_ hdb)) (by intro q; cases q);refine (exm_one (M:=model X.prog X.w) (K:=X.K) I5.kIn (UZ (hf5.there)) hx).here ?_;show codeAny (model X.prog X.w) (X.A.mark (some (.ref ea))) _ _ _;refine codeAny_handlers_suite_as (lands_againW hf5 fun h6 hf6 u6 => ?_)
   obtain ⟨I6,_⟩ := at_ (hp:=h6) (g' := s'.gens) (d' := s'.drawn) (t' := s'.toks) hf6 ((u4.trans u5).trans u6) hbare;refine J4 I6 hN hi (.inl hk) (v:=.ref ea) (show RelV (.ref ea) (.ref ea) from rfl) (fun s7 I7 => ?_) (.inr hk);refine wpAny_mono (hs C ea T pins s7 _ _ (Zdw i D) (I7.suite ea) (hts ea hn)) (fun fl s8 q8 => ?_) fun _ _ z => z.elim
   cases fl with
   | next =>
    obtain ⟨σ',H8,I8,q⟩ := q8;exact Jm (I8.unsuite I.ok) hN hi hk fun s9 I9 => ⟨_,H8,I9,q⟩
   | brk =>
    obtain ⟨σ',H8,I8,q⟩ := q8;exact Jm (I8.unsuite I.ok) hN hi hk fun s9 I9 => ⟨_,H8,I9,q⟩
   | cont =>
    obtain ⟨σ',H8,I8,q⟩ := q8;exact Jm (I8.unsuite I.ok) hN hi hk fun s9 I9 => ⟨_,H8,I9,q⟩
   | ret u =>
    obtain ⟨v,σ',H8,I8,r,q⟩ := q8;exact Jm (I8.unsuite I.ok) hN hi hk fun s9 I9 => ⟨v,_,H8,I9,r,q⟩
 · cases fl with
   | next => exact wpAny_execs_nil q
   | ret v => exact q
   | brk => exact q
   | cont => exact q
end
end L2
namespace DL
open PySem PySem.Spec L2
def spX (cA : Kn) (n : Nat) (m : List D -> Option D) (x : List D -> Option String) : Sp := fun vs H Q E => spD cA n m vs H Q E \/
 ∃ (av : Addr -> Prop) (ds : List D) (c : String),(∀ a,av a -> H a ≠ none) /\ RepL cA av H ds vs /\ ds.length = n /\ x ds = some c /\ ∀ H',Same H H' -> E (.ref (cA.c c)) none H'
def QI (N : Nat) (χ : Env -> Option String) (ds : List D) : Option String := χ (ds.map some ++ List.replicate (N - ds.length) none)
def VX (G : Cn) (ow : List Nat) (E : XK) (ts : TS) (χ : Env -> Option String) : Prop :=
 ∀ H0 av A σ H δ,ER G ow H0 av A σ H δ -> ∀ c,χ δ = some c -> (∀ H',Same H0 H' -> E (.ref (G.1.c c)) none H') -> ∀ De : Ends,ts De σ H
def VXe (G : Cn) (ow : List Nat) (E : XK) (te : TE) (χ : Env -> Option String) : Prop :=
 ∀ H0 av A σ H δ,ER G ow H0 av A σ H δ -> ∀ c,χ δ = some c -> (∀ H',Same H H' -> E (.ref (G.1.c c)) none H') -> ∀ Q : VK,te σ H Q
def VXs (G : Cn) (ow : List Nat) (E : XK) (ts : TS) (χ : Env -> Option String) : Prop :=
 ∀ H0 av A σ H δ,ER G ow H0 av A σ H δ -> ∀ c,χ δ = some c -> (∀ H',Same H H' -> E (.ref (G.1.c c)) none H') -> ∀ De : Ends,ts De σ H
section
variable {cA : Kn} {G : Cn} {ow ow1 owB owC owN : List Nat} {E : XK}
def xNever (_ : Env) : Option String := none
theorem YN {ts : TS} : VX G ow E ts xNever := fun H0 av A σ H δ R c e => nomatch e
def Vr (c : String) (α : Env -> Option (List D)) (δ : Env) : Option String := match α δ with
 | some ds => if ds.length <= 8 then some c else none
 | none => none
theorem ZaQ {C : Addr} {t : TA} {q : Ql} {α : Env -> Option (List D)} (c : String) (hC : C = G.1.c c) (h : VA G ow t q α) : VX G ow E (Zfq E C t) (Vr c α) := fun H0 av A σ H δ R c' e k De => by
 unfold Vr at e;cases he : α δ with
 | none => rw [he] at e; cases e
 | some ds =>
  rw [he] at e;dsimp only at e
  by_cases hz : ds.length <= 8
  · rw [if_pos hz] at e
    cases e;subst hC;exact h H0 av A σ H δ R ds he _ fun vs H1 s1 r1 => ⟨by rw [<- r1.any.length]; exact hz,k H1 (R.same.trans s1)⟩
  · rw [if_neg hz] at e; cases e
def xIf (τ : Env -> Option Bool) (χ ψ : Env -> Option String) (δ : Env) : Option String := match τ δ with
 | some true => χ δ
 | some false => ψ δ
 | none => none
theorem ZfX {c : TT} {t u : TS} {τ : Env -> Option Bool} {χ ψ : Env -> Option String} (hc : VT G ow c τ) (h1 : VX G ow E t χ) (h2 : VX G ow E u ψ) : VX G ow E (Qn c t u) (xIf τ χ ψ) := fun H0 av A σ H δ R c' e k De => by
 unfold xIf at e;cases he : τ δ with
 | none => rw [he] at e; cases e
 | some b =>
  rw [he] at e;refine hc H0 av A σ H δ R b he _ fun H' s => ?_
  cases b with
  | true => exact Uk (h1 H0 av A σ H' δ (R.mono s) c' e k De)
  | false => exact Uj (h2 H0 av A σ H' δ (R.mono s) c' e k De)
def ZN (χ : Env -> Option String) (φ : Env -> Option Out) (ψ : Env -> Option String) (δ : Env) : Option String := match χ δ with
 | some c => some c
 | none => match φ δ with
  | some (.nx δ1) => ψ δ1
  | _ => none
theorem YW {t u : TS} {χ ψ : Env -> Option String} {φ : Env -> Option Out} (h1 : VX G ow E t χ) (hv : VS G ow ow1 owB owC t φ) (h2 : VX G ow1 E u ψ) : VX G ow E (Qk t u) (ZN χ φ ψ) := fun H0 av A σ H δ R c e k De => by
 unfold ZN at e;cases hx : χ δ with
 | some c' =>
  rw [hx] at e;cases e;exact h1 H0 av A σ H δ R c hx k _
 | none =>
  rw [hx] at e;dsimp only at e;cases hp : φ δ with
  | none => rw [hp] at e; cases e
  | some o =>
   rw [hp] at e;cases o with
   | nx δ1 => exact hv H0 av A σ H δ R _ hp _ fun A' σ' H' R' => h2 H0 av A' σ' H' δ1 R' c e k De
   | rt d => cases e
   | bk δ1 => cases e
   | ct δ1 => cases e
theorem VXs.vx {ts : TS} {χ : Env -> Option String} (h : VXs G ow E ts χ) : VX G ow E ts χ := fun H0 av A σ H δ R c e k De => h H0 av A σ H δ R c e (fun H' s => k H' (R.same.trans s)) De
theorem Zb8 {te : TE} {χ : Env -> Option String} (h : VXe G ow E te χ) : VXs G ow E (Ug te) χ := fun H0 av A σ H δ R c e k De => h H0 av A σ H δ R c e k _
theorem ZbA {te : TE} {χ : Env -> Option String} {g : TG} (h : VXe G ow E te χ) : VXs G ow E (YY te g) χ := fun H0 av A σ H δ R c e k De => h H0 av A σ H δ R c e k _
theorem Jn {n : Nat} {m : List D -> Option D} {x : List D -> Option String} {t : TA} {q : Ql} {α : Env -> Option (List D)} {E0 : XK} (dds : List D) (hd : dds.all Zy = true) (h : VA G ow t q α) : VE G ow (UM (spX G.1 n m x) (dds.map val) E0 t) q.cq (Zp n m dds α) := fun H0 av A σ H δ R d e Q k => by
 unfold Zp at e;cases he : α δ with
 | none => rw [he] at e; cases e
 | some ds =>
  rw [he] at e;dsimp only at e
  by_cases hz : (ds ++ dds).length = n
  · rw [if_pos hz] at e
    refine h H0 av A σ H δ R ds he _ fun vs H1 s1 r1 => .inl ?_
    have E1 := R.mono s1;cases q with
    | cl => exact ⟨AV av A,ds ++ dds,d,E1.avl,r1.cl.append (.of_vals hd),hz,e,fun v H' s r => k v H' (s1.trans s) r.t⟩
    | tp => exact ⟨av,ds ++ dds,d,E1.avH,r1.any.append (.of_vals hd),hz,e,fun v H' s r => k v H' (s1.trans s) r.t⟩
    | dt => exact ⟨av,ds ++ dds,d,E1.avH,r1.any.append (.of_vals hd),hz,e,fun v H' s r => k v H' (s1.trans s) r.t⟩
  · rw [if_neg hz] at e; cases e
def V7 (n : Nat) (x : List D -> Option String) (dds : List D) (α : Env -> Option (List D)) (δ : Env) : Option String := match α δ with
 | some ds => if (ds ++ dds).length = n then x (ds ++ dds) else none
 | none => none
theorem Zb9 {n : Nat} {m : List D -> Option D} {x : List D -> Option String} {t : TA} {q : Ql} {α : Env -> Option (List D)} (dds : List D) (hd : dds.all Zy = true) (h : VA G ow t q α) : VXe G ow E (UM (spX G.1 n m x) (dds.map val) E t) (V7 n x dds α) := fun H0 av A σ H δ R c e k Q => by
 unfold V7 at e;cases he : α δ with
 | none => rw [he] at e; cases e
 | some ds =>
  rw [he] at e;dsimp only at e
  by_cases hz : (ds ++ dds).length = n
  · rw [if_pos hz] at e
    refine h H0 av A σ H δ R ds he _ fun vs H1 s1 r1 => .inr ⟨av,ds ++ dds,c,(R.mono s1).avH,r1.any.append (.of_vals hd),hz,e,fun H' s => k H' (s1.trans s)⟩
  · rw [if_neg hz] at e; cases e
end
section
variable {P : Program} {w : World} {K : PySem.W.Frag} {mg : Str -> Option Value} {base : Heap} {cA : Kn}
theorem Jo {x qual : Str} {st : Stmt} {f : Addr} {fd : FuncData} {N ps : List Str} {k : Nat} {φ : Env -> Option Out} {χ : Env -> Option String} {body : List Stmt} {scope : Scope} {n : Nat} {m : List D -> Option D} {xm : List D -> Option String} (F : FunX K x qual st f fd) (S : FnScope N ps (defScope st)) (hS : defScope st = scope) (hB : defBody st = body)
 (hbody : ∀ (cdv : Value) (A : Around) (outer : List PySem.Env) (s : Shared) (H : Hp) (E : XK),Room k (A.deeper (PyProof.Rows.envOfC qual scope s.heap.objs.size f cdv)) ->
   ∃ t,PSs (Yu (CX1 P w) P w K mg base N qual scope f cdv A outer s H E) body t /\ ∃ owN,VS ⟨cA,fun _ => none⟩ [] owN [] [] t φ /\ VX ⟨cA,fun _ => none⟩ [] (fun c d H' => Same H H' /\ E c d H') t χ) (hm : m = run N.length φ) (hx : xm = QI N.length χ) (hn : ps.length = n) :
 FnOk P w K mg base (CX1 P w) (k + 1) f fd ps (spX cA n m xm) := by
 subst hS hB hm hx hn;obtain ⟨oc,od,dV,kV,doc,pm,an,cdv,ct,osl,rfl,lk,hcd⟩ := F.ex;refine ZfO lk hcd S (fun vs H Q E h => ?_) fun A outer s H vs Q E hr h => ?_
 · rcases h with ⟨av,ds,d,_,r,hl,_⟩ | ⟨av,ds,c,_,r,hl,_⟩
   · rw [<- r.length,hl]
   · rw [<- r.length,hl]
 · obtain ⟨t,ht,owN,hv,hX⟩ := hbody cdv A outer s H E hr
   refine ⟨t,ht,?_⟩;rcases h with ⟨av,ds,d,ha,r,hl,hm,q⟩ | ⟨av,ds,c,ha,r,hl,hm,q⟩
   · unfold run at hm
     cases hφ : φ (ds.map some ++ List.replicate (N.length - ds.length) none) with
     | none => rw [hφ] at hm; cases hm
     | some o =>
      rw [hφ] at hm;refine hv H av _ _ H _ (ZaO ha r) o hφ _ ?_;cases o with
      | nx δ' => cases hm; exact fun A' σ' H' E' => q .non H' E'.same rfl
      | rt d' => cases hm; exact fun v H' s' r' => q v H' s' r'
      | bk δ' => cases hm
      | ct δ' => cases hm
   · exact hX H av _ _ H _ (ZaO ha r) c hm (fun H' s' => ⟨s',q H' s'⟩) _
end
end DL
namespace DL
open PySem PySem.Spec L2
def Zhm (K : PySem.W.Frag) (e C : Addr) : List V -> Hp -> VK -> Prop := fun xs H Q => ∃ c cv b,xs = [.ref e,c] /\ (∀ v,RelV c v -> v = cv) /\ H e = some (.ext (Yq e (.ref C))) /\ kitOne K (.ref C) cv = some b /\ Q (.bl b) H
theorem U0 {X : Cx} {K : PySem.W.Frag} {e C : Addr} (T : ExCls K C) (hK : X.K = K := by rfl) : Xe X (.builtin "isinstance") (Zhm K e C) := by
 subst hK;exact Zel T
def Xy (c : String) : List (List (String × Bool)) -> Option (List Bool)
 | [] => some []
 | t :: r => match t.lookup c,Xy c r with
  | some b,some bs => some (b :: bs)
  | _,_ => none
def Y9 (K : PySem.W.Frag) (cA : Kn) (v : V) (tab : List (String × Bool)) : Prop := ∀ c b,tab.lookup c = some b -> ∃ cv,(∀ u,RelV v u -> u = cv) /\ kitOne K (.ref (cA.c c)) cv = some b
inductive IsiEs (K : PySem.W.Frag) (cA : Kn) : List V -> List (List (String × Bool)) -> Prop where
 | nil : IsiEs K cA [] []
 | cons {v : V} {t : List (String × Bool)} {vs : List V} {ts : List (List (String × Bool))} : Y9 K cA v t -> IsiEs K cA vs ts -> IsiEs K cA (v :: vs) (t :: ts)
section
variable {cA : Kn} {G : Cn} {ow owB owC : List Nat}
theorem ER.none {H0 H : Hp} {av : Addr -> Prop} {A : Nat -> Option Addr} {σ : L2.St} {δ : Env} {i : Nat} {x : Option V} (R : ER G ow H0 av A σ H δ) (hi : ow.contains i = false) (hn : G.2 i = Option.none) : ER G ow H0 av A (σ.set i x) H (δ.set i Option.none) :=
 ⟨R.same,R.avd,R.fr,R.inj,R.live,R.dom,R.dom',by rw [List.length_set,List.length_set]; exact R.len,R.pin,(fun j v' e => by
   have q : j ≠ i := fun z => by rw [z,hn] at e; cases e
   rw [List.getElem?_set_ne (Ne.symm q)]; exact R.kept j v' e),fun j d e => by
   have hj : j ≠ i := by
    intro z;subst z
    by_cases hl : j < δ.length
    · rw [List.getElem?_set_self hl] at e; cases e
    · rw [List.getElem?_eq_none (by rw [List.length_set]; omega)] at e; cases e
   rw [List.getElem?_set_ne (Ne.symm hj)] at e;obtain ⟨v,h1,h2⟩ := R.var j d e;exact ⟨v,by rw [List.getElem?_set_ne (Ne.symm hj)]; exact h1,h2⟩⟩
def X1 (φb : Env -> Option Out) (χb : Env -> Option String) (cl : List String) (i r : Nat) (tabs : List (List (String × Bool))) (δ : Env) : Option Out := match χb δ with
 | some c => if cl.contains c = true /\ i < δ.length then (match Xy c tabs with
  | some bs => if bs.length <= 1000 then some (.nx ((δ.set r (some (.lst (bs.map D.bl)))).set i none)) else none
  | none => none) else none
 | none => φb δ
end
end DL
namespace L2
open PySem PySem.Spec PyProof.Rows
section
variable {X : Cx}
def Zhn (K : PySem.W.Frag) : R2 := fun x y H Q => ∃ l b xs zs,x = .ref l /\ y = .ref b /\ SqL K H l xs /\ SqL K H b zs /\ xs.length + zs.length <= sizeLine /\ ∀ p,H p = none -> Q (.ref p) (upd H p (.lst (xs ++ zs)))
theorem Zgo : OpR X (binaryOp .Add) (Zhn X.K) := by
 intro pins s σ H x y v u Q I rx ry h;obtain ⟨l,b,xs,zs,rfl,rfl,hH,hB,hz,q⟩ := h;cases rx;cases ry;obtain ⟨its,r,pl,_⟩ := I.list hH;obtain ⟨its2,r2,pl2,_⟩ := I.list hB;obtain ⟨⟨c1,d1,da1,sl1⟩,n1,g1,e1,e2,e3⟩ := pl;obtain ⟨⟨c2,d2,da2,sl2⟩,n2,g2,f1,f2,f3⟩ := pl2;dsimp only at e1 e2 e3 f1 f2 f3;subst e1 e2 e3 f1 f2 f3;have hl := r.length;have hl2 := r2.length;refine concat_meets ⟨_,g1,rfl⟩ ⟨_,g2,rfl⟩ noFill_list_add seq_list_add PySem.F.slot_list_add PySem.F.entry_list_add (PySem.F.args_list_add_2 _ _) (list_addW l b its.toArray its2.toArray n1 n2 none none sl1 sl2 (by rw [List.size_toArray,List.size_toArray]; omega)) ⟨g1,g2,?_⟩
 have ea : its.toArray ++ its2.toArray = (its ++ its2).toArray := by simp
 rw [ea];exact ⟨.ref _,_,I.lnew (t' := s.toks) (r.append r2) (by rw [List.length_append]; omega),rfl,q _ I.fresh⟩
def Zho (K : PySem.W.Frag) : R2 := fun x y H Q => ∃ l k xs,x = .ref l /\ y = .int k /\ SqL K H l xs /\ -(2 ^ 63) <= k /\ k < 2 ^ 63 /\ xs.length * k.toNat <= sizeLine /\ ∀ p,H p = none -> Q (.ref p) (upd H p (.lst (List.replicate k.toNat xs).flatten))
theorem Zgp : OpR X (binaryOp .Mult) (Zho X.K) := by
 intro pins s σ H x y v u Q I rx ry h;obtain ⟨l,k,xs,rfl,rfl,hH,h1,h2,hz,q⟩ := h;cases rx;obtain ⟨t,rfl⟩ := ry;obtain ⟨its,r,pl,_⟩ := I.list hH;obtain ⟨⟨c1,d1,da1,sl1⟩,n1,g1,e1,e2,e3⟩ := pl;dsimp only at e1 e2 e3;subst e1 e2 e3;have hl := r.length;have hlen : its.toArray.size * k.toNat <= sizeLine := by rw [List.size_toArray,<- hl]; exact hz
 have hcap : ¬ its.toArray.size * k.toNat > (2 ^ 63 - 1) / 8 := by
  have : (sizeLine : Nat) <= (2 ^ 63 - 1) / 8 := by decide
  omega
 have hfit : ¬ (!Builtin.List.listFitsIndex k) = true := by
  rw [fitsIndex_both h1 h2];exact Bool.false_ne_true
 have hlong : ¬ Builtin.List.listTooLong (its.toArray.size * k.toNat) = true := by
  rw [ZeG hlen];exact Bool.false_ne_true
 have hnew : List.foldl (fun x1 x2 => x1 ++ x2) #[] (List.replicate (if its.toArray.isEmpty = true then 0 else k.toNat) its.toArray) = (List.replicate k.toNat its).flatten.toArray := by
  have f0 : ∀ m : Nat,List.foldl (fun x1 x2 => x1 ++ x2) #[] (List.replicate m its.toArray) = (List.replicate m its).flatten.toArray := fun m => by
   have := Za6 its m [];rw [List.nil_append] at this;exact this
  rw [f0];cases its with
  | nil => simp
  | cons a r' => rw [if_neg (by simp)]
 refine wpAny_binaryOp_repeat_ref (T:="list") (U:="int") (by decide) ⟨_,g1,rfl⟩ (fun s' => typeIs_int s' k t) noFill_list_mul F.fills_int_mul F.slot_int_rmul repeat_list F.slot_int_index.lookup
  (call_meets F.slot_int_rmul (typeIs_int s k t) F.entry_int_rmul (F.args_int_rmul_2 _ _) (lm_int_rmul_list_any k t l its.toArray n1 none sl1)
    ⟨g1,rfl,⟨_,g1,rfl⟩,call_meets F.slot_list_mul ⟨_,g1,rfl⟩ F.entry_list_mul (F.args_list_mul_2 _ _) (lm_list_mul_any l its.toArray n1 none sl1 k t hfit hcap hlong) ⟨g1,?_⟩⟩)
 rw [hnew];exact ⟨.ref _,_,I.lnew (t' := s.toks) (r.rep k.toNat) (by rw [Zgc,Nat.mul_comm]; exact hz),rfl,q _ I.fresh⟩
def Jp (K : PySem.W.Frag) : R2 := fun x y H Q => rI0 (fun i j => .int (i + j)) x y H Q \/ rAddS x y H Q \/ Zhn K x y H Q
theorem Zgq : OpR X (binaryOp .Add) (Jp X.K) := op_add.or (op_addS.or Zgo)
theorem Yr {K : PySem.W.Frag} (hK : X.K = K := by rfl) : OpR X (binaryOp .Add) (Jp K) := hK ▸ Zgq
def Jq (K : PySem.W.Frag) : R2 := fun x y H Q => rI DL.CMulW (fun i j => .int (i * j)) x y H Q \/ DL.rMulS x y H Q \/ Zho K x y H Q
theorem Zgr : OpR X (binaryOp .Mult) (Jq X.K) := DL.op_mulW.or (DL.op_mulS.or Zgp)
theorem X2 {K : PySem.W.Frag} (hK : X.K = K := by rfl) : OpR X (binaryOp .Mult) (Jq K) := hK ▸ Zgr
end
end L2
namespace DL
open PySem PySem.Spec L2
section
variable {cA : Kn} {G : Cn} {ow owB owC : List Nat}
theorem Zdx {i : Addr -> Prop} {H : Hp} {p : Addr} {xs : List D} {vs : List V} (hi : ∀ a,i a -> H a ≠ none) (hp : H p = none) (l : RepL cA i H xs vs) : Rep cA i (upd H p (.lst vs)) (.lst xs) (.ref p) := by
 unfold Rep;exact ⟨p,vs,rfl,fun z => (hi p z hp).elim,SqL.of ZM,l.same (Yc hp)⟩
def addX : D -> D -> Option D
 | .lst a,.lst b => if a.length + b.length <= sizeLine then some (.lst (a ++ b)) else none
 | x,y => addD x y
theorem Yh : YZ cA (Jp cA.K) addX := fun t t' i H x y vx vy d hi hx hy e Q k => by
 have old : addD x y = some d -> Jp cA.K vx vy H Q := fun e => by
  rcases (Zh1 (cA:=cA) t t' i H x y vx vy d hi hx hy e Q k) with h | h | h
  · exact .inl h
  · exact .inr (.inl h)
  · obtain ⟨l,b,xs,zs,e1,e2,h1,h2,h3,h4⟩ := h
    exact .inr (.inr ⟨l,b,xs,zs,e1,e2,SqL.of h1,SqL.of h2,h3,h4⟩)
 cases x with
 | lst a =>
  cases y with
  | lst b =>
   dsimp only [addX] at e
   by_cases hz : a.length + b.length <= sizeLine
   · rw [if_pos hz] at e
     cases e;obtain ⟨a1,vs1,rfl,_,r1,l1⟩ := hx;obtain ⟨a2,vs2,rfl,_,r2,l2⟩ := hy;exact .inr (.inr ⟨a1,a2,vs1,vs2,rfl,rfl,r1,r2,by rw [<- l1.length,<- l2.length]; exact hz,fun p hp => k _ _ (Yc hp) (Zdx hi hp (l1.append l2))⟩)
   · rw [if_neg hz] at e; cases e
  | _ => exact old e
 | _ => exact old e
theorem RepL.rep {av : Addr -> Prop} {H : Hp} {xs : List D} {vs : List V} (l : RepL cA av H xs vs) : ∀ n : Nat,RepL cA av H (List.replicate n xs).flatten (List.replicate n vs).flatten
 | 0 => .nil
 | n + 1 => by
  rw [List.replicate_succ,List.replicate_succ,List.flatten_cons,List.flatten_cons];exact l.append (RepL.rep l n)
def mulX : D -> D -> Option D
 | .int i,.int j => if CMulW i j then some (.int (i * j)) else none
 | .str a,.int n => if n < 2 ^ 63 /\ -(2 ^ 63) <= n /\ a.length * n.toNat <= sizeLine then some (.str (US a n)) else none
 | .lst a,.int n => if n < 2 ^ 63 /\ -(2 ^ 63) <= n /\ a.length * n.toNat <= sizeLine then some (.lst (List.replicate n.toNat a).flatten) else none
 | _,_ => none
theorem Vs : YZ cA (Jq cA.K) mulX := fun t t' i H x y vx vy d hi hx hy e Q k => by
 cases x <;> cases y <;> first | (cases e; done) | skip
 · cases (show vx = _ from hx); cases (show vy = _ from hy)
   rename_i a b;dsimp only [mulX] at e
   by_cases hz : CMulW a b
   · rw [if_pos hz] at e
     cases e;exact .inl ⟨_,_,rfl,rfl,hz,k _ H (Same.refl H) rfl⟩
   · rw [if_neg hz] at e; cases e
 · cases (show vx = _ from hx); cases (show vy = _ from hy)
   rename_i a n;dsimp only [mulX] at e
   by_cases hz : n < 2 ^ 63 /\ -(2 ^ 63) <= n /\ a.length * n.toNat <= sizeLine
   · rw [if_pos hz] at e
     cases e;exact .inr (.inl ⟨_,_,rfl,rfl,hz,k _ H (Same.refl H) rfl⟩)
   · rw [if_neg hz] at e; cases e
 · rename_i a n
   cases (show vy = _ from hy);dsimp only [mulX] at e
   by_cases hz : n < 2 ^ 63 /\ -(2 ^ 63) <= n /\ a.length * n.toNat <= sizeLine
   · rw [if_pos hz] at e
     cases e;obtain ⟨a1,vs1,rfl,_,r1,l1⟩ := hx;exact .inr (.inr ⟨a1,n,vs1,rfl,rfl,r1,hz.2.1,hz.1,by rw [<- l1.length]; exact hz.2.2,fun p hp => k _ _ (Yc hp) (Zdx hi hp (l1.rep n.toNat))⟩)
   · rw [if_neg hz] at e; cases e
def U1 (i : Nat) (κ ε : Env -> Option D) (δ : Env) : Option Out := match ε δ with
 | some d => match Za i δ with
  | some (.lst xs) => match κ δ with
   | some (.int k) => match ixN xs.length k with
    | some j => some (.nx (δ.set i (some (.lst (xs.set j d)))))
    | none => none
   | _ => none
  | _ => none
 | none => none
theorem Zgs {te ti : TE} {q : Ql} {ε κ : Env -> Option D} (i : Nat) (hi : ow.contains i = true) (h : VE G ow te .cl ε) (hk : VE G ow ti q κ) : VS G ow ow owB owC (YY te (J8 (YO i) ti rSetL)) (U1 i κ ε) := fun H0 av A σ H δ E o e De k => by
 unfold U1 at e;cases he : ε δ with
 | none => rw [he] at e; cases e
 | some d =>
  rw [he] at e;dsimp only at e;cases hv : Za i δ with
  | none => rw [hv] at e; cases e
  | some x =>
   rw [hv] at e;cases x <;> first | (cases e; done) | skip
   rename_i xs;dsimp only at e;cases hq : κ δ with
   | none => rw [hq] at e; cases e
   | some y =>
    rw [hq] at e;cases y <;> first | (cases e; done) | skip
    rename_i n;dsimp only at e;cases hj : ixN xs.length n with
    | none => rw [hj] at e; cases e
    | some j =>
     rw [hj] at e;cases e;have hi' : i ∈ ow := by simpa using hi
     cases hA : A i with
     | none => exact absurd hA (E.dom' i hi')
     | some a =>
      refine h H0 av A σ H δ E d he _ fun v H1 s1 r1 => ?_
      have E1 := E.mono s1;obtain ⟨v0,h1,_,h3⟩ := E1.var i _ (YL hv);obtain ⟨rfl,vs,q1,q2⟩ := h3 a hA;refine ⟨_,h1,hk H0 av A σ H1 δ E1 _ hq _ fun y H2 s2 r2 => ?_⟩;have ey : y = .int n := r2.any;subst ey;have E2 := E1.mono s2;have q1' := s2 _ _ q1;refine ⟨a,vs,n,j,rfl,rfl,q1',by rw [<- q2.length]; exact hj,k A σ _ (E2.put hA (YL hv) (fun b o hb e => by rw [Zt hb]; exact e) (by rw [ZM]; exact fun z => by cases z) ⟨_,ZM,?_⟩)⟩
      have ex : ∀ b o,¬ AV av A b -> H2 b = some o -> upd H2 a (.lst (vs.set j v)) b = some o := fun b o nb e => by
       rw [Zt fun z => nb (.inr ⟨i,by rw [z]; exact hA⟩)];exact e
      exact (((q2.same s2).set ((RepT.r r1).same s2) j)).ext ex
end
end DL
namespace L2
open PySem PySem.W
theorem Zfs {P : Program} {w : World} {X : Cx} : VV (CX1 P w) X E0 := fun _ _ _ _ _ _ _ ⟨_,_,_,_,_,_,_,_,_,_,_,_,_,_,hE⟩ => hE.elim
theorem ZcC {K : PySem.W.Frag} {C : Addr} {tlB : List Value} {nid : String} (q0 : excIn K C tlB nid = true) : (clsIn K C).isSome = true := by
 unfold excIn at q0
 split at q0
 · rename_i look0
   unfold clsIn;rw [look0];rfl
 · cases q0
theorem ExCls.of {K : PySem.W.Frag} {C : Addr} (ex : excIn K C bmV "ValueError.__new__" = true) (ga : findIn K (.ref C) "__getattribute__" = some (some (.builtin "BaseException.__getattribute__"))) (mb : mroIn K C (.type "BaseException") = some true) (gt : findIn K (.ref C) "__getattr__" = some none) (ca : findIn K (.ref C) "__class__" = some (some (.builtin "object.__class__")))
 (cg : specialIn K (.builtin "object.__class__") "__get__" = some (some (.builtin "getset_descriptor.__get__"))) (ct : takesIn K (.builtin "object.__class__") = some true) (mo : mroIn K C (.type "object") = some true) : ExCls K C := ⟨ex,ga,mb,gt,ca,cg,ct,mo,ZcC ex⟩
end L2
namespace DL
open L2
theorem VX.frz {G : Cn} {ow ow1 : List Nat} {E : XK} {t : TS} {χ : Env -> Option String} (i : Nat) (h : VX G ow1 E t χ) (hn : G.2 i = none) (h1 : sub ow1 ow = true) (h2 : ow1.contains i = false) (h3 : sub ow (i :: ow1) = true) : VX G ow E t χ := fun H0 av A σ H δ R c e k De =>
 h H0 av _ σ H δ (R.freeze i (QC h1 h2 h3) hn) c e k De
theorem XN {K : PySem.W.Frag} {cA : Kn} {v : V} {cv : PySem.Value} {tab : List (String × Bool)} (hv : ∀ u,RelV v u -> u = cv) (h : ∀ p ∈ tab,kitOne K (.ref (cA.c p.1)) cv = some p.2) : Y9 K cA v tab := fun c b e => ⟨cv,hv,h (c,b) (Zb1 e)⟩
end DL
namespace L2
open PySem
end L2
namespace L2
open PySem
end L2
namespace L2
open PySem PySem.Spec PySem.W PyProof.Rows
def XO (cs : List Nat) : List Nat := (reprText (tx cs)).cps.toList
theorem Zca (cs : List Nat) (h : cs.all (fun c => decide (c < 65536)) = true) : (XO cs).length <= 10 * cs.length + 2 := by
 have := StrLaws.reprText_len (tx cs) (fun c hc => by
  have h1 := List.all_eq_true.mp h c (by simpa using hc);have : c < 65536 := of_decide_eq_true h1;exact Nat.lt_trans this (by decide))
 simpa [XO,Str.length] using this
section
variable {X : Cx} {e : Expr} {te : TE} {pos : Pos}
def Zhp (te : TE) : TE := fun σ H Q => te σ H fun v H1 => ∃ cs,v = S cs /\ (XO cs).length <= sizeLine /\ Q (S (XO cs)) H1
theorem Zgt (he : PE X e te) : PE X (.FormattedValue e 114 none pos) (Zhp te) := by
 intro pins s σ H Q I h;refine wpAny_FormattedValue_repr (thn (he pins s σ H _ I h) fun u s1 ⟨v,H1,I1,r,cs,ev,hl,q⟩ => ?_);subst ev;obtain ⟨t,rfl⟩ := r;have er : tx (XO cs) = reprText (tx cs) := rfl;have hz : (reprText (tx cs)).length <= sizeLine := by simpa [XO,Str.length] using hl
 refine wpAny_pyReprObj_str ?_ hz;refine wpAny_formatField_str ⟨S (XO cs),H1,I1.tok _,⟨_,rfl⟩,q⟩ ⟨S (XO cs),H1,(I1.tok _),⟨_,rfl⟩,q⟩ hz
inductive PJ (X : Cx) : List Expr -> List TE -> Prop where
 | nil : PJ X [] []
 | cons {e : Expr} {es : List Expr} {t : TE} {ts : List TE} : PE X e t -> PJ X es ts -> PJ X (e :: es) (t :: ts)
def tJs : List TE -> List Nat -> L2.St -> Hp -> (List Nat -> Hp -> Prop) -> Prop
 | [],acc,_,H,Q => Q acc H
 | t :: r,acc,σ,H,Q => t σ H fun v H1 => ∃ cs,v = S cs /\ (acc ++ cs).length <= sizeLine /\ tJs r (acc ++ cs) σ H1 Q
theorem Zcb {pins : List (Addr × Obj)} {σ : L2.St} {Q : List Nat -> Hp -> Prop} : ∀ {es : List Expr} {ts : List TE} {acc : List Nat} {H : Hp} {s : Shared},PJ X es ts -> Inv X pins σ H s -> acc.length <= sizeLine -> tJs ts acc σ H Q ->
 Joins (model X.prog X.w) X.A X.xe (evalEach es X.env) (tx acc) (fun out s1 => ∃ cs H',out = tx cs /\ Inv X pins σ H' s1 /\ cs.length <= sizeLine /\ Q cs H') s
 | _,_,acc,H,s,.nil,I,hl,q => ⟨acc,H,rfl,I,hl,q⟩
 | _,_,acc,H,s,.cons he hr,I,hl,q => by
  show wpAny (model X.prog X.w) X.A _ _ X.xe s;refine thn (he pins s σ H _ I q) fun u s1 ⟨v,H1,I1,r,cs,ev,hz,q1⟩ => ?_
  subst ev;obtain ⟨t,rfl⟩ := r
  have ea : tx acc ++ tx cs = tx (acc ++ cs) := by
   show (⟨acc.toArray ++ cs.toArray⟩ : Str) = ⟨(acc ++ cs).toArray⟩
   simp
  refine ⟨_,_,rfl,?_,?_⟩
  · rw [ea]; simpa [Str.length] using hz
  · rw [ea]; exact Zcb hr I1 hz q1
theorem ZaE {P Q : Str -> Shared -> Prop} (k : ∀ x s,P x s -> Q x s) : ∀ {parts : List (Sem Value)} {acc : Str} {s : Shared},Joins (model X.prog X.w) X.A X.xe parts acc P s -> Joins (model X.prog X.w) X.A X.xe parts acc Q s
 | [],acc,s,h => k _ _ h
 | x :: r,acc,s,h => thn h fun v s1 ⟨y,t,e,hz,q⟩ => ⟨y,t,e,hz,ZaE k q⟩
def Zhq (ts : List TE) : TE := fun σ H Q => tJs ts [] σ H fun cs H1 => Q (S cs) H1
theorem Zgu {e1 e2 : Expr} {es : List Expr} {ts : List TE} (h : PJ X (e1 :: e2 :: es) ts) : PE X (.JoinedStr (e1 :: e2 :: es) pos) (Zhq ts) := by
 intro pins s σ H Q I q;refine wpAny_JoinedStr (ZaE (fun x s1 ⟨cs,H1,ex,I1,hl,q1⟩ => ?_) (Zcb (acc:=[]) h I (Nat.zero_le _) q));subst ex;exact ⟨by simpa [Str.length] using hl,S cs,H1,I1.tok _,⟨_,rfl⟩,q1⟩
end
end L2
namespace DL
open PySem PySem.Spec L2
def V8 : D -> Option D
 | .str cs => if cs.length <= 1000 /\ cs.all (fun c => decide (c < 65536)) = true then some (.str (XO cs)) else none
 | _ => none
def U2 (f : D -> Option D) (a : Env -> Option D) (δ : Env) : Option D := match a δ with
 | some d => f d
 | none => none
section
variable {G : Cn} {ow : List Nat}
theorem Zgv {te : TE} {a : Env -> Option D} (h : VE G ow te .cl a) : VE G ow (Zhp te) .cl (U2 V8 a) := fun H0 av A σ H δ E d e Q k => by
 unfold U2 at e;cases hx : a δ with
 | none => rw [hx] at e; cases e
 | some x =>
  rw [hx] at e;dsimp only at e;unfold V8 at e
  split at e
  · rename_i cs
    by_cases hz : cs.length <= 1000 /\ cs.all (fun c => decide (c < 65536)) = true
    · rw [if_pos hz] at e
      cases e;refine h H0 av A σ H δ E _ hx _ fun v H1 s1 r1 => ⟨cs,r1,?_,k _ H1 s1 rfl⟩
      have := Zca cs hz.2;have hs : sizeLine = 16777216 := sizeLine_eq;omega
    · rw [if_neg hz] at e; cases e
  · cases e
inductive VJ (G : Cn) (ow : List Nat) : List TE -> List (Env -> Option D) -> Prop where
 | nil : VJ G ow [] []
 | cons {t : TE} {a : Env -> Option D} {ts : List TE} {as : List (Env -> Option D)} : VE G ow t .cl a -> VJ G ow ts as -> VJ G ow (t :: ts) (a :: as)
def xJs : List (Env -> Option D) -> List Nat -> Env -> Option (List Nat)
 | [],acc,_ => some acc
 | a :: r,acc,δ => match a δ with
  | some (.str cs) => if (acc ++ cs).length <= sizeLine then xJs r (acc ++ cs) δ else none
  | _ => none
theorem vjs {H0 : Hp} {av : Addr -> Prop} {A : Nat -> Option Addr} {σ : L2.St} {δ : Env} : ∀ {ts : List TE} {as : List (Env -> Option D)},VJ G ow ts as -> ∀ {acc cs : List Nat} {H : Hp},ER G ow H0 av A σ H δ -> xJs as acc δ = some cs -> ∀ Q : List Nat -> Hp -> Prop,(∀ H',Same H H' -> Q cs H') -> tJs ts acc σ H Q
 | _,_,.nil,acc,cs,H,E,e,Q,k => by cases e; exact k H (Same.refl H)
 | _,_,.cons h hr,acc,cs,H,E,e,Q,k => by
  rename_i t a ts as;unfold xJs at e;cases hx : a δ with
  | none => rw [hx] at e; cases e
  | some x =>
   rw [hx] at e;cases x <;> first | (cases e; done) | skip
   rename_i c1;dsimp only at e
   by_cases hz : (acc ++ c1).length <= sizeLine
   · rw [if_pos hz] at e
     exact h H0 av A σ H δ E _ hx _ fun v H1 s1 r1 => ⟨c1,r1,hz,vjs hr (E.mono s1) e _ fun H' s => k H' (s1.trans s)⟩
   · rw [if_neg hz] at e; cases e
def U3 (as : List (Env -> Option D)) (δ : Env) : Option D := match xJs as [] δ with
 | some cs => some (.str cs)
 | none => none
theorem Zgw {ts : List TE} {as : List (Env -> Option D)} (h : VJ G ow ts as) : VE G ow (Zhq ts) .cl (U3 as) := fun H0 av A σ H δ E d e Q k => by
 unfold U3 at e;cases hx : xJs as [] δ with
 | none => rw [hx] at e; cases e
 | some cs =>
  rw [hx] at e;cases e;exact vjs h E hx _ fun H' s => k _ H' s rfl
end
end DL
namespace L2
open PySem PySem.Spec PySem.W PyProof.Rows
section
variable {X : Cx} {E : XK}
end
end L2
namespace DL
open PySem PySem.Spec L2
abbrev XTab := List (String × (Nat × (List D -> Option D) × (List D -> Option String)))
structure MethOkX (X : Cx) (cA : Kn) (k : Nat) (m : String) (c : String) (n : Nat) (mm : List D -> Option D) (xm : List D -> Option String) : Prop where
 ex : ∃ f fd ps,Cls X.K (cA.c c) /\ Meth X.K (cA.c c) (Str.ofString m) f /\ FnOk X.prog X.w X.K X.mg X.base (CX1 X.prog X.w) k f fd ps (spX cA n mm xm) /\ Binds X.K fd ps []
def MTOkX (X : Cx) (cA : Kn) (k : Nat) (m : String) : XTab -> Prop
 | [] => True
 | (c,n,mm,xm) :: r => MethOkX X cA k m c n mm xm /\ MTOkX X cA k m r
theorem MTOkX.get {X : Cx} {cA : Kn} {k : Nat} {m : String} : ∀ {tab : XTab} {c : String} {n : Nat} {mm : List D -> Option D} {xm : List D -> Option String},MTOkX X cA k m tab -> tab.lookup c = some (n,mm,xm) -> MethOkX X cA k m c n mm xm
 | [],_,_,_,_,_,h => by simp at h
 | (c',n',mm',xm') :: r,c,n,mm,xm,T,h => by
  rw [List.lookup_cons] at h;cases hc : c == c' with
  | true =>
   rw [hc] at h;cases h;have : c = c' := eq_of_beq hc;subst this;exact T.1
  | false =>
   rw [hc] at h;exact MTOkX.get T.2 h
def Zc0 (cA : Kn) (m : String) (tab : XTab) (E : XK) (ta : TE) (t : TA) : TE := fun σ H Q => ta σ H fun x H1 => ∃ a dx fs c n mm xm,x = .ref a /\ H1 a = some (.ins (cA.c c) dx fs) /\ fs.lookup (Str.ofString m) = none /\ tab.lookup c = some (n,mm,xm) /\ t σ H1 fun vs H2 => spX cA n mm xm (x :: vs) H2 Q E
section
variable {X : Cx} {cA : Kn} {k : Nat} {m : String} {tab : XTab} {o e : Expr} {es : List Expr} {ta : TE} {t : TA} {pos apos : Pos} {pl : Sem Bool} {E : XK}
theorem Jr (T : MTOkX X cA k m tab) (hr : Room k X.A) (hx : VV (CX1 X.prog X.w) X E) (he : PE X o ta) (ha : PA X (e :: es) t)
 (hst : starEach (e :: es) X.env = (false,eval e X.env) :: starEach es X.env := by rfl) (hpl : (backTo pos (starEach es X.env)).any (·.1) = false := by rfl)
 (ht : eval (.Call (.Attribute o (Str.ofString m) apos) (e :: es) [] pos) X.env = (do
   let ov <- eval o X.env
   standAt apos.atName
   let (f,first) <- holding [ov] (getMethod ov (Str.ofString m) pl)
   callWith pos f first (backTo pos (starEach (e :: es) X.env)) (backToKw pos (keywordEach [] X.env))) := by rfl) :
 PE X (.Call (.Attribute o (Str.ofString m) apos) (e :: es) [] pos) (Zc0 cA m tab E ta t) := by
 intro pins s σ H Q I h;refine PySem.W.methodCall_KW (pl:=pl) (thn (he pins s σ H _ I h) fun u s1 ⟨x,H1,I1,rx,a,dx,fs,c,n,mm,xm,ex,ea,l,tl,q⟩ => ?_) ht;subst ex;obtain rfl : u = Value.ref a := rx;obtain ⟨f,fd,ps,hc,hm,F,hb⟩ := (T.get tl).ex;refine ZaA I1 ea hc hm l ?_;refine PySem.W.callWith_K (first:=[.ref a]) (h₀:=X.base) I.ok.mod.kin hm.kp (thn (ha pos pins s1 σ H1 _ I1 q) fun us s2 ⟨vs,H2,I2,r,q2⟩ => ⟨I2.kIn,?_⟩) hst hpl
 exact ZcS (us:=.ref a :: us) (vs:=.ref a :: vs) (dvs:=[]) (ds:=[]) F hr hb .nil hx I2 (.cons rfl r) (by rw [List.append_nil]; exact q2)
end
section
variable {cA : Kn} {G : Cn} {ow ow1 owB owC owN : List Nat} {E : XK}
def Yi (m : String) (tab : XTab) (a : Env -> Option D) (α : Env -> Option (List D)) (δ : Env) : Option D := match a δ with
 | some (.obj c ks xs) => if ks.contains m then none else (match tab.lookup c with
  | some (n,mm,_) => match α δ with
   | some ds => if (D.obj c ks xs :: ds).length = n then mm (.obj c ks xs :: ds) else none
   | none => none
  | none => none)
 | _ => none
def Xz (m : String) (tab : XTab) (a : Env -> Option D) (α : Env -> Option (List D)) (δ : Env) : Option String := match a δ with
 | some (.obj c ks xs) => if ks.contains m then none else (match tab.lookup c with
  | some (n,_,xm) => match α δ with
   | some ds => if (D.obj c ks xs :: ds).length = n then xm (.obj c ks xs :: ds) else none
   | none => none
  | none => none)
 | _ => none
theorem Xa {m : String} {tab : XTab} {ta : TE} {t : TA} {a : Env -> Option D} {α : Env -> Option (List D)} {E1 : XK} (ha : VE G ow ta .cl a) (h : VA G ow t .cl α) : VE G ow (Zc0 G.1 m tab E1 ta t) .cl (Yi m tab a α) := fun H0 av A σ H δ E d e Q k => by
 unfold Yi at e;cases hx : a δ with
 | none => rw [hx] at e; cases e
 | some x =>
  rw [hx] at e;cases x <;> first | (cases e; done) | skip
  rename_i c ks xs;dsimp only at e;cases hf : ks.contains m with
  | true => rw [hf,if_pos rfl] at e; cases e
  | false =>
   rw [hf,if_neg Bool.false_ne_true] at e;cases htb : tab.lookup c with
   | none => rw [htb] at e; cases e
   | some p =>
    obtain ⟨n,mm,xm⟩ := p;rw [htb] at e;dsimp only at e;cases he : α δ with
    | none => rw [he] at e; cases e
    | some ds =>
     rw [he] at e;dsimp only at e
     by_cases hz : (D.obj c ks xs :: ds).length = n
     · rw [if_pos hz] at e
       refine ha H0 av A σ H δ E _ hx _ fun v H1 s1 r1 => ?_
       obtain ⟨p,dx,vs,rfl,np,rd,zl,l⟩ := r1;refine ⟨p,dx,_,c,n,mm,xm,rfl,rd,Jj hf,htb,h H0 av A σ H1 δ (E.mono s1) ds he _ fun ws H2 s2 r2 => .inl ?_⟩;have E2 := (E.mono s1).mono s2;refine ⟨AV av A,.obj c ks xs :: ds,d,E2.avl,.cons ?_ r2.cl,hz,e,fun v H' s r => k v H' ((s1.trans s2).trans s) r.t⟩;unfold Rep;exact ⟨p,dx,vs,rfl,np,s2 _ _ rd,zl,l.same s2⟩
     · rw [if_neg hz] at e; cases e
theorem Js {m : String} {tab : XTab} {ta : TE} {t : TA} {a : Env -> Option D} {α : Env -> Option (List D)} (ha : VE G ow ta .cl a) (h : VA G ow t .cl α) : VXe G ow E (Zc0 G.1 m tab E ta t) (Xz m tab a α) := fun H0 av A σ H δ R c0 e k Q => by
 unfold Xz at e;cases hx : a δ with
 | none => rw [hx] at e; cases e
 | some x =>
  rw [hx] at e;cases x <;> first | (cases e; done) | skip
  rename_i c ks xs;dsimp only at e;cases hf : ks.contains m with
  | true => rw [hf,if_pos rfl] at e; cases e
  | false =>
   rw [hf,if_neg Bool.false_ne_true] at e;cases htb : tab.lookup c with
   | none => rw [htb] at e; cases e
   | some p =>
    obtain ⟨n,mm,xm⟩ := p;rw [htb] at e;dsimp only at e;cases he : α δ with
    | none => rw [he] at e; cases e
    | some ds =>
     rw [he] at e;dsimp only at e
     by_cases hz : (D.obj c ks xs :: ds).length = n
     · rw [if_pos hz] at e
       refine ha H0 av A σ H δ R _ hx _ fun v H1 s1 r1 => ?_
       obtain ⟨p,dx,vs,rfl,np,rd,zl,l⟩ := r1;refine ⟨p,dx,_,c,n,mm,xm,rfl,rd,Jj hf,htb,h H0 av A σ H1 δ (R.mono s1) ds he _ fun ws H2 s2 r2 => .inr ?_⟩;have E2 := (R.mono s1).mono s2;refine ⟨AV av A,.obj c ks xs :: ds,c0,E2.avl,.cons ?_ r2.cl,hz,e,fun H' s => k H' ((s1.trans s2).trans s)⟩;unfold Rep;exact ⟨p,dx,vs,rfl,np,s2 _ _ rd,zl,l.same s2⟩
     · rw [if_neg hz] at e; cases e
def Xm (γ : D -> Env -> Option Env) (φ : Env -> Option Out) (χ : Env -> Option String) : List D -> Env -> Option String
 | [],_ => none
 | x :: r,δ => match γ x δ with
  | none => none
  | some δ1 => match χ δ1 with
   | some c => some c
   | none => match φ δ1 with
    | some (.nx δ2) => Xm γ φ χ r δ2
    | some (.ct δ2) => Xm γ φ χ r δ2
    | _ => none
def XQ (ι : Env -> Option (List D)) (γ : D -> Env -> Option Env) (φ : Env -> Option Out) (χ : Env -> Option String) (δ : Env) : Option String := match ι δ with
 | some xs => Xm γ φ χ xs δ
 | none => none
theorem Zc1 {wi : TI} {g : TG} {tb : TS} {ι : Env -> Option (List D)} {γ : D -> Env -> Option Env} {φ : Env -> Option Out} {χ : Env -> Option String} (hi : VI G ow wi ι) (hg : VG G ow ow g γ) (hb : VS G ow ow ow ow tb φ) (hX : VX G ow E tb χ) : VX G ow E (Q0 wi g tb) (XQ ι γ φ χ) := fun H0 av A σ H δ R c e k De => by
 unfold XQ at e;cases he : ι δ with
 | none => rw [he] at e; cases e
 | some xs =>
  rw [he] at e;have e : Xm γ φ χ xs δ = some c := e;refine hi H0 av A σ H δ R xs he _ fun J H1 s1 W => ?_
  have E1 := R.mono s1;refine ⟨fun i m σ' H' => m = xs.length - i /\ i <= xs.length /\ ∃ A' δ',ER G ow (DL.cut A H1) av A' σ' H' δ' /\ Xm γ φ χ (xs.drop i) δ' = some c,⟨xs.length,by simp,Nat.zero_le _,A,δ,E1.cut,e⟩,?_⟩
  rintro i m σ' H' ⟨rfl,hle,A',δ',E',e'⟩
  obtain ⟨w1,w2,w3⟩ := W H' E'.same
  by_cases hlt : i < xs.length
  · refine .inr ⟨w1 i hlt,fun σ2 H2 => ∃ A2 δ2,ER G ow (DL.cut A H1) av A2 σ2 H2 δ2 /\ Xm γ φ χ (xs.drop (i + 1)) δ2 = some c,fun σ2 H2 ⟨A2,δ2,E2,e2⟩ => ⟨xs.length - (i + 1),by omega,rfl,hlt,A2,δ2,E2,e2⟩,fun v H2 y => ?_⟩
    have hx : xs[i]? = some xs[i] := List.getElem?_eq_getElem hlt;obtain ⟨s2,rep⟩ := w2 i _ v H2 hx y;have E2 := E'.mono s2
    have rep' : Rep G.1 (AV av A') H2 xs[i] v := rep _ E'.avl fun b z => by
     rcases z with z | ⟨j,z⟩
     · exact .inl (.inl z)
     · exact .inr (E'.fr j b z)
    rw [List.drop_eq_getElem_cons hlt] at e';unfold Xm at e';cases hγ : γ xs[i] δ' with
    | none => rw [hγ] at e'; cases e'
    | some δ1 =>
     rw [hγ] at e';dsimp only at e';refine hg _ av A' σ' H2 δ' E2 _ v rep' δ1 hγ _ fun A3 σ3 H3 s3 E3 => ?_
     cases hχ : χ δ1 with
     | some c' =>
      rw [hχ] at e';cases e';exact hX _ av A3 σ3 H3 δ1 E3 c hχ (fun H' s => k H' (E1.sub0.trans s)) _
     | none =>
      rw [hχ] at e';dsimp only at e';cases hφ : φ δ1 with
      | none => rw [hφ] at e'; cases e'
      | some o1 =>
       rw [hφ] at e';refine hb _ av A3 σ3 H3 δ1 E3 o1 hφ _ ?_;cases o1 with
       | nx δ2 => exact fun A4 σ4 H4 E4 => ⟨A4,δ2,E4,e'⟩
       | ct δ2 => exact fun A4 σ4 H4 E4 => ⟨A4,δ2,E4,e'⟩
       | bk δ2 => cases e'
       | rt d => cases e'
  · have ei : i = xs.length := by omega
    subst ei;rw [List.drop_length] at e';cases e'
end
end DL
namespace L2
open PySem PySem.Spec PySem.W PyProof.Rows
end L2
namespace DL
open PySem PySem.Spec L2
section
variable {G : Cn} {ow : List Nat}
end
end DL
namespace L2
open PySem PySem.Spec PySem.W PyProof.Rows
structure RoomE (k : Nat) (A : Around) : Prop where
 dp : A.depth + 3 * k + 5 < recursionLimit
 un : A.units + 16 * k + 200 < cLine
theorem Room.suite {k : Nat} {A : Around} {v : Option Value} (r : Room k A) : RoomE k (A.mark v) := ⟨r.dp,r.un⟩
theorem RoomE.mono {j k : Nat} {A : Around} (r : RoomE k A) (h : j <= k) : RoomE j A := ⟨by have := r.dp; omega,by have := r.un; omega⟩
abbrev cxE (P : Program) (w : World) (K : PySem.W.Frag) (mg : Str -> Option Value) (base : Heap) (N : List Str) (qual : Str) (scope : Scope) (f : Addr) (cd : Value) (A : Around) (outer : List PySem.Env) (s : Shared) (H : Hp) : Cx :=
 { Yu CX0 P w K mg base N qual scope f cd A outer s H E0 with calm := false,xe := fun _ _ => False }
structure FnOkE (P : Program) (w : World) (K : PySem.W.Frag) (mg : Str -> Option Value) (base : Heap) (k : Nat) (f : Addr) (fd : FuncData) (ps : List Str) (sp : List V -> Hp -> VK -> Prop) : Prop where
 len : ∀ vs H Q,sp vs H Q -> vs.length = ps.length
 run : ∀ (A : Around) (outer : List PySem.Env) (s : Shared) (H : Hp) (args : Args) (us : List Value) (vs : List V) (Q : VK),RoomE k A -> Env0 P w K mg base A outer s H -> BindsTo s fd args (ps.zip us) -> Vals vs us -> sp vs H Q ->
  codeAny (model P w) A (.call (.ref f) args) (CR CX0 outer P w H s Q E0) s
theorem FnOkE.mono {P : Program} {w : World} {K : PySem.W.Frag} {mg : Str -> Option Value} {base : Heap} {j k : Nat} {f : Addr} {fd : FuncData} {ps : List Str} {sp : List V -> Hp -> VK -> Prop} (F : FnOkE P w K mg base j f fd ps sp) (h : j <= k) :
 FnOkE P w K mg base k f fd ps sp := ⟨F.len,fun A outer s H args us vs Q hr => F.run A outer s H args us vs Q (hr.mono h)⟩
theorem ZcD {P : Program} {w : World} {K : PySem.W.Frag} {mg : Str -> Option Value} {base : Heap} {N ps : List Str} {qual : Str} {scope : Scope} {f : Addr} {cd : Value} {A : Around} {outer : List PySem.Env} {s s1 : Shared} {H : Hp} {us : List Value} {vs : List V}
 (S : FnScope N ps scope) (e0 : Env0 P w K mg base A outer s H) (hl : vs.length = ps.length) (r : Vals vs us)
 (x : InCallC s s.heap.objs.size (bindL (envOfC qual scope s.heap.objs.size f cd).kindOf (ps.zip us) fun _ => none) (cellsFrom (s.heap.objs.size + 1) scope.names []) (bindC (envOfC qual scope s.heap.objs.size f cd).kindOf (ps.zip us) fun _ => none) s1) :
 Inv (cxE P w K mg base N qual scope f cd A outer s H) [] (start N vs) H s1 := by
 have e1 : Env0 P w K mg base { A with handled := none } outer s H := ⟨e0.frames,e0.mod,e0.bs,e0.bsz,e0.funs,e0.frf,e0.hok,e0.bare⟩
 have I := Za5 (CX:=CX0) (E:=E0) (A:={ A with handled := none }) S rfl e1 hl r x;exact ⟨⟨I.ok.mod,I.ok.kind,I.ok.glob,I.ok.blt,I.ok.above,I.ok.inj,I.ok.has,I.ok.cab,(fun z => nomatch z),Around.frames_deeper e0.frames,I.ok.stk,I.ok.exf,I.ok.bs,I.ok.bsz,I.ok.noex,I.ok.exfs,I.ok.funs,I.ok.frf⟩,I.os,I.bare,I.base,I.loc,I.cell,I.free,I.freeC,I.pin,I.hok,I.len⟩
theorem Zgx {P : Program} {w : World} {K : PySem.W.Frag} {mg : Str -> Option Value} {base : Heap} {x qual : Str} {st : Stmt} {f : Addr} {fd : FuncData} {N ps : List Str} {k : Nat} {sp : List V -> Hp -> VK -> Prop} (F : FunX K x qual st f fd) (S : FnScope N ps (defScope st))
 (len : ∀ vs H Q,sp vs H Q -> vs.length = ps.length)
 (hbody : ∀ (cdv : Value) (A : Around) (outer : List PySem.Env) (s : Shared) (H : Hp) (vs : List V) (Q : VK),sp vs H Q ->
   ∃ t,PSs (cxE P w K mg base N qual (defScope st) f cdv A outer s H) (defBody st) t /\ t { nx := fun _ H' => Q .non H',rt := Q } (start N vs) H) : FnOkE P w K mg base (k + 1) f fd ps sp := by
 obtain ⟨oc,od,dV,kV,doc,pm,an,cdv,ct,osl,rfl,lk,hcd⟩ := F.ex;refine ⟨len,fun A outer s H args us vs Q hr e0 hb r hsp => ?_⟩;have hl := len _ _ _ hsp;have KX : K.In s.heap := e0.mod.kin.keeps fun b o e => (e0.bs b o e).1
 have lim : s.heap.NoLimit := e0.mod.nolimit.keeps fun b o e => (e0.bs b o e).1
 have hkind : ∀ y ∈ ps.zip us,(defScope st).names.lookup y.1 = some .local \/ ((defScope st).names.lookup y.1 = some .cell /\ ((cellsFrom (s.heap.objs.size + 1) (defScope st).names []).lookup y.1).isSome = true) := fun ⟨n,v⟩ hy => by
  rcases S.par n (List.of_mem_zip hy).1 with q | q
  · exact .inl q
  · exact .inr ⟨q,PySem.W.cellsFrom_some _ _ _ (.inl q)⟩
 refine codeAny_call_function (by have := hr.dp; omega) (KX _ _ lk) rfl S.co S.gen rfl (PySem.W.codeRec_of KX hcd) (hb _ _ _ _ ?_);refine wpAny_newFunctionEnv_cells S.kind hkind fun env he s1 x => ?_
 subst he;refine ⟨lim.keeps x.toInCall.keep,codeAny_func ?_⟩;obtain ⟨t,ht,hq⟩ := hbody cdv A outer s H vs Q hsp;have I : Inv (cxE P w K mg base N qual (defScope st) f cdv A outer s H) [] (start N vs) H s1 := ZcD S e0 hl r x;refine wpAny_mono (ht [] s1 (start N vs) H _ I hq) (fun fl s' hs => ?_) fun e s' hs => hs.elim
 have fin : ∀ {σ' : St} {H' : Hp} {v : V} {u : Value},Inv (cxE P w K mg base N qual (defScope st) f cdv A outer s H) [] σ' H' s' -> RelV v u -> Q v H' -> CE outer P w H s Q u s' :=
  fun {σ' H' v u} J rv q => ⟨v,H',J.os,J.bare,J.base,J.hok,rv,q⟩
 cases fl with
 | ret u =>
  obtain ⟨v,σ',H',J,rv,q⟩ := hs;exact fin J rv q
 | next =>
  obtain ⟨σ',H',J,q⟩ := hs;exact fin (v:=V.non) (u:=Value.none) J rfl q
 | brk =>
  obtain ⟨_,_,_,q⟩ := hs;exact False.elim q
 | cont =>
  obtain ⟨_,_,_,q⟩ := hs;exact False.elim q
def Zft (sp : List V -> Hp -> VK -> Prop) (t : TA) : TE := fun σ H Q => t σ H fun vs H1 => sp vs H1 Q
theorem Zcc {X : Cx} {k : Nat} {f : Addr} {fd : FuncData} {ps : List Str} {sp : List V -> Hp -> VK -> Prop} {x : Str} {p pos : Pos} {e : Expr} {es : List Expr} {t : TA}
 (F : FnOkE X.prog X.w X.K X.mg X.base k f fd ps sp) (hr : RoomE k X.A) (hg : Gl X x) (hm : X.mg x = some (.ref f)) (hk : keepIn X.K (.ref f) = true) (hb : Binds X.K fd ps [])
 (ha : PA X (e :: es) t) (hdb : (x == ("__debug__" : Str)) = false := by decide) (he : starEach (e :: es) X.env = (false,eval e X.env) :: starEach es X.env := by rfl) (hpl : (backTo pos (starEach es X.env)).any (·.1) = false := by rfl) :
 PE X (.Call (.Name x p) (e :: es) [] pos) (Zft sp t) := by
 intro pins s σ H Q I h;refine wpAny_Call_Name_kw (Ue I hg hm ?_ hdb);refine PySem.W.callWith_K (h₀:=X.base) I.ok.mod.kin hk (thn (ha pos pins s σ H _ I h) fun us s1 ⟨vs,H1,I1,r,q⟩ => ⟨I1.kIn,?_⟩) he hpl;have hl : (us ++ []).length = ps.length := by rw [List.append_nil,<- r.length]; exact F.len _ _ _ q
 refine wpAny_call (codeAny_mono (F.run X.A X.stack s1 H1 ⟨us,[]⟩ (us ++ []) vs Q hr I1.env0 (hb s1 us I1.kIn hl) (by rw [List.append_nil]; exact r) q) fun r s' hq => ?_);cases r with
 | error e => exact (show False from hq).elim
 | ok fl =>
  cases fl with
  | ret u => exact I1.after hq
  | next => exact False.elim hq
  | brk => exact False.elim hq
  | cont => exact False.elim hq
def Zhr (K : PySem.W.Frag) : List V -> Hp -> VK -> Prop := fun xs H Q => ∃ e C tp vs cvs b,xs = [.ref e,.ref tp] /\ ExCls K C /\ H e = some (.ext (Yq e (.ref C))) /\ SqT K H tp vs /\ (∀ us,Vals vs us -> us = cvs) /\ PySem.W.kitAny K (.ref C) cvs = some b /\ Q (.bl b) H
theorem Zh4 {X : Cx} {K : PySem.W.Frag} (hK : X.K = K := by rfl) : Xe X (.builtin "isinstance") (Zhr K) := by
 subst hK;intro pins s σ H xs us Q I rs h;obtain ⟨e,C,tp,vs,cvs,b,rfl,T,he,hq,hc,hk,q⟩ := h;obtain ⟨u,w',rfl,rx,rc⟩ := Zha rs;cases (show u = Value.ref e from rx);cases (show w' = Value.ref tp from rc);have hx : Yq e (.ref C) s.heap := (I.hok e _ he).1;obtain ⟨its,rv,⟨o,e1,hcl,n,hd⟩,_⟩ := I.tuple hq;cases hc its rv;obtain ⟨cl,dd,da,sl⟩ := o;cases hcl;cases hd;exact PySem.W.kia_tup (Zb5 T) I.kIn hx e1 hk (fun z => nomatch z) fun tk => ⟨.bl b,H,I.tok tk,rfl,q⟩
end L2
namespace DL
open PySem PySem.Spec L2
def tCs : List V -> TA
 | [] => tNil
 | v :: vs => YT (tC v) (tCs vs)
theorem Zfu {σ : L2.St} {H : Hp} : ∀ {vs : List V} (Q : List V -> Hp -> Prop),Q vs H -> tCs vs σ H Q
 | [],Q,q => q
 | v :: vs,Q,q => Zfu (vs:=vs) (fun xs H2 => Q (v :: xs) H2) q
theorem Zbd {K : PySem.W.Frag} {cA : Kn} {c : String} : ∀ {vs : List V} {tabs : List (List (String × Bool))} {bs : List Bool},IsiEs K cA vs tabs -> Xy c tabs = some bs -> ∃ cvs,(∀ us,Vals vs us -> us = cvs) /\ PySem.W.kitAny K (.ref (cA.c c)) cvs = some (bs.any id)
 | _,_,bs,.nil,e => by
  cases e;exact ⟨[],fun us r => by cases r; rfl,rfl⟩
 | _,_,bs,.cons h1 h2,e => by
  unfold Xy at e
  split at e
  · rename_i b bs' e1 e2
    cases e;obtain ⟨cv,hc,hk⟩ := h1 c b e1;obtain ⟨cvs,hcs,hks⟩ := Zbd h2 e2;refine ⟨cv :: cvs,fun us r => ?_,?_⟩
    · cases r with
      | cons r1 r2 => rw [hc _ r1,hcs _ r2]
    · unfold PySem.W.kitAny
      rw [hk];cases b with
      | true => rfl
      | false => exact hks
  · cases e
def spT (K : PySem.W.Frag) (cA : Kn) (tabs : List (List (String × Bool))) : List V -> Hp -> VK -> Prop := fun xs H Q => ∃ ea c bs,xs = [.ref ea] /\ ExCls K (cA.c c) /\ H ea = some (.ext (Yq ea (.ref (cA.c c)))) /\ Xy c tabs = some bs /\ ∀ H',Same H H' -> Q (.bl (bs.any id)) H'
theorem ZkT {P : Program} {w : World} {K : PySem.W.Frag} {cA : Kn} {mg : Str -> Option Value} {base : Heap} {x qual : Str} {st : Stmt} {f : Addr} {fd : FuncData} {N ps : List Str} {k : Nat} {body : List Stmt} {scope : Scope} {vs : List V} {tabs : List (List (String × Bool))} (F : FunX K x qual st f fd) (S : FnScope N ps (defScope st))
 (hS : defScope st = scope) (hB : defBody st = body) (hI : IsiEs K cA vs tabs) (hv : vs.length <= 1000) (hn : ps.length = 1)
 (hbody : ∀ (cdv : Value) (A : Around) (outer : List PySem.Env) (s : Shared) (H : Hp),PSs (cxE P w K mg base N qual scope f cdv A outer s H) body (QZ (tCB (Zhr K) (YT (YO 0) (YT (Zkv (tCs vs)) tNil))))) : FnOkE P w K mg base (k + 1) f fd ps (spT K cA tabs) := by
 subst hS hB;refine Zgx F S (fun vs H Q h => ?_) fun cdv A outer s H us Q h => ⟨_,hbody cdv A outer s H,?_⟩
 · obtain ⟨ea,c,bs,rfl,_⟩ := h
   rw [hn]; rfl
 · obtain ⟨ea,c,bs,rfl,T,he,hb,q⟩ := h
   obtain ⟨cvs,h1,h2⟩ := Zbd hI hb;refine ⟨.ref ea,rfl,Zfu _ ⟨Nat.le_trans hv (by decide),fun p hp => ?_⟩⟩;have sm : Same H (upd H p (.tup vs)) := Yc hp;exact ⟨ea,cA.c c,p,vs,cvs,_,rfl,T,sm _ _ he,SqT.of ZM,h1,h2,q _ sm⟩
def Zc2 (K : PySem.W.Frag) (cA : Kn) (i : Nat) (mk : Addr -> Addr -> TE) (tab : List (String × Bool)) : Prop := ∀ (c : String) (b : Bool) (ea : Addr) (σ : L2.St) (H : Hp) (Q : VK),ExCls K (cA.c c) -> tab.lookup c = some b -> σ[i]? = some (some (.ref ea)) -> H ea = some (.ext (Yq ea (.ref (cA.c c)))) -> (∀ H',Same H H' -> Q (.bl b) H') -> mk (cA.c c) ea σ H Q
inductive Items (K : PySem.W.Frag) (cA : Kn) (i : Nat) : List (Addr -> Addr -> TE) -> List (List (String × Bool)) -> Prop where
 | nil : Items K cA i [] []
 | cons {m : Addr -> Addr -> TE} {t : List (String × Bool)} {ms : List (Addr -> Addr -> TE)} {ts : List (List (String × Bool))} : Zc2 K cA i m t -> Items K cA i ms ts -> Items K cA i (m :: ms) (t :: ts)
def QJ : List (Addr -> Addr -> TE) -> Addr -> Addr -> TA
 | [],_,_ => tNil
 | m :: ms,C,ea => YT (m C ea) (QJ ms C ea)
def Xn (K : PySem.W.Frag) (i : Nat) (v : V) (C ea : Addr) : TE := tCB (Zhm K ea C) (YT (YO i) (YT (tC v) tNil))
def QK (K : PySem.W.Frag) (cA : Kn) (i : Nat) (tabs : List (List (String × Bool))) (_ _ : Addr) : TE := Zft (spT K cA tabs) (YT (YO i) tNil)
theorem U4 {K : PySem.W.Frag} {cA : Kn} {i : Nat} {v : V} {tab : List (String × Bool)} (h : Y9 K cA v tab) : Zc2 K cA i (Xn K i v) tab := fun c b ea σ H Q T e hi he q => by
 obtain ⟨cv,hc,hk⟩ := h c b e;exact ⟨.ref ea,hi,⟨_,cv,b,rfl,hc,he,hk,q _ (Same.refl _)⟩⟩
theorem Zfv {c : String} {b : Bool} : ∀ {l : List (String × Bool)},l.lookup c = some b -> (c,b) ∈ l
 | [],e => by cases e
 | (x,y) :: r,e => by
  rw [List.lookup_cons] at e
  split at e
  · rename_i hx
    cases e;rw [beq_iff_eq.mp hx];exact List.mem_cons_self
  · exact List.mem_cons_of_mem _ (Zfv e)
theorem Zcd {K : PySem.W.Frag} {cA : Kn} {i : Nat} {tab : List (String × Bool)} {tabs : List (List (String × Bool))} (h : (tab.all fun p => (Xy p.1 tabs).map (·.any id) == some p.2) = true) : Zc2 K cA i (QK K cA i tabs) tab := fun c b ea σ H Q T e hi he q => by
 have h1 := List.all_eq_true.mp h (c,b) (Zfv e);have h1 : (Xy c tabs).map (·.any id) = some b := by simpa using h1
 cases hs : Xy c tabs with
 | none => rw [hs] at h1; cases h1
 | some bs =>
  rw [hs] at h1;cases h1;exact ⟨.ref ea,hi,ea,c,bs,rfl,T,he,hs,q⟩
theorem Zce {K : PySem.W.Frag} {cA : Kn} {i : Nat} {ea : Addr} {c : String} {σ : L2.St} (T : ExCls K (cA.c c)) (hi : σ[i]? = some (some (.ref ea))) : ∀ {ms : List (Addr -> Addr -> TE)} {tabs : List (List (String × Bool))} {bs : List Bool},Items K cA i ms tabs -> Xy c tabs = some bs ->
 ∀ (H : Hp),H ea = some (.ext (Yq ea (.ref (cA.c c)))) -> ∀ Q : List V -> Hp -> Prop,(∀ H',Same H H' -> Q (bs.map V.bl) H') -> QJ ms (cA.c c) ea σ H Q
 | _,_,bs,.nil,e,H,he,Q,q => by cases e; exact q H (Same.refl _)
 | _,_,bs,.cons h1 h2,e,H,he,Q,q => by
  unfold Xy at e
  split at e
  · rename_i b bs' e1 e2
    cases e;exact h1 c b ea σ H _ T e1 hi he fun H1 s1 => Zce T hi h2 e2 H1 (s1 _ _ he) _ fun H2 s2 => q H2 (s1.trans s2)
  · cases e
section
variable {cA : Kn} {G : Cn} {ow owB owC : List Nat}
theorem Zdy {K : PySem.W.Frag} {Gd : Addr} {tb : XK -> TS} {φb : Env -> Option Out} {χb : Env -> Option String} {ms : List (Addr -> Addr -> TE)} {tabs : List (List (String × Bool))} (cl : List String) (i r : Nat)
 (hi : ow.contains i = false) (hr : ow.contains r = false) (hni : G.2 i = none) (hnr : G.2 r = none) (hT : ∀ c ∈ cl,ExCls K (G.1.c c) /\ PySem.W.exmOne K (.ref (G.1.c c)) (.ref Gd) = some true) (hI : Items K G.1 i ms tabs)
 (hb : ∀ E,VS G ow ow owB owC (tb E) φb) (hx : ∀ E,VXs G ow E (tb E) χb) : VS G ow ow owB owC (ZkH K Gd i tb (fun C ea => YY (UL (QJ ms C ea)) (YX r))) (X1 φb χb cl i r tabs) := fun H0 av A σ H δ R o e De k => by
 unfold X1 at e;cases hc : χb δ with
 | none =>
  rw [hc] at e;exact ⟨fun _ _ _ => False,hb _ H0 av A σ H δ R o e De k,fun _ _ z => z.elim⟩
 | some c =>
  rw [hc] at e;dsimp only at e
  by_cases hz : cl.contains c = true /\ i < δ.length
  · rw [if_pos hz] at e
    cases hs : Xy c tabs with
    | none => rw [hs] at e; cases e
    | some bs =>
     rw [hs] at e;dsimp only at e
     by_cases hl : bs.length <= 1000
     · rw [if_pos hl] at e
       cases e;obtain ⟨hT1,hT2⟩ := hT c (by simpa using hz.1);refine ⟨fun cls d H' => cls = .ref (G.1.c c) /\ Same H H',hx _ H0 av A σ H δ R c hc (fun H' s => ⟨rfl,s⟩) De,fun cls H' ⟨e1,s1⟩ => ⟨G.1.c c,e1,hT1,hT2,fun ea hea => ?_⟩⟩;have hlen : i < σ.length := by rw [R.len]; exact hz.2
       have R1 := R.mono s1;have s2 : Same H' (upd H' ea (.ext (Yq ea (.ref (G.1.c c))))) := Yc hea;refine Zce hT1 (List.getElem?_set_self hlen) hI hs _ ZM _ fun H3 s3 => ⟨by rw [List.length_map]; exact Nat.le_trans hl (by decide),fun p hp => ?_⟩
       have R2 := (R1.mono s2).mono s3;have R3 := R2.mono (Yc (o:=.lst (bs.map V.bl)) hp)
       have hAr : ∀ j,A j ≠ none -> j ≠ r := fun j hj z => by
        have := R.dom j hj;rw [z] at this;simp at hr;exact hr this
       have rp : Rep G.1 (AV av A) (upd H3 p (.lst (bs.map V.bl))) (.lst (bs.map D.bl)) (.ref p) := by
        unfold Rep;refine ⟨p,bs.map V.bl,rfl,fun z => ((R2.avl p z) hp).elim,SqL.of ZM,?_⟩;have := RepL.of_vals (cA:=G.1) (av:=AV av A) (H:=upd H3 p (.lst (bs.map V.bl))) (xs:=bs.map D.bl) (by rw [List.all_map]; exact List.all_eq_true.mpr fun _ _ => rfl);rw [List.map_map] at this;exact this
       have R4 : ER G ow H0 av A (σ.set r (some (.ref p))) (upd H3 p (.lst (bs.map V.bl))) (δ.set r (some (.lst (bs.map D.bl)))) := by
        refine ⟨R3.same,R3.avd,R3.fr,R3.inj,R3.live,R3.dom,R3.dom',by rw [List.length_set,List.length_set]; exact R3.len,R3.pin,(fun j v' e => by
         have q : j ≠ r := fun z => by rw [z,hnr] at e; cases e
         rw [List.getElem?_set_ne (Ne.symm q)]; exact R3.kept j v' e),fun j d e => ?_⟩
        by_cases hj : j = r
        · subst hj
          have hjl : j < δ.length := by
           by_cases hl2 : j < δ.length
           · exact hl2
           · rw [List.getElem?_eq_none (by rw [List.length_set]; omega)] at e; cases e
          rw [List.getElem?_set_self hjl] at e;cases e;refine ⟨.ref p,List.getElem?_set_self (by rw [R.len]; exact hjl),fun _ => rp,fun a z => ?_⟩;exact (hAr j (by rw [z]; exact fun y => by cases y) rfl).elim
        · rw [List.getElem?_set_ne (Ne.symm hj)] at e
          obtain ⟨v,h1,h2⟩ := R3.var j d e;exact ⟨v,by rw [List.getElem?_set_ne (Ne.symm hj)]; exact h1,h2⟩
       have R5 := R4.none (i:=i) (x:=none) hi hni
       have ez : ((σ.set i (some (.ref ea))).set r (some (.ref p))).set i none = (σ.set r (some (.ref p))).set i none := by
        apply List.ext_getElem?;intro j
        by_cases hj : j = i
        · subst hj
          rw [List.getElem?_set_self (by rw [List.length_set,List.length_set]; exact hlen),List.getElem?_set_self (by rw [List.length_set]; exact hlen)]
        · rw [List.getElem?_set_ne (Ne.symm hj),List.getElem?_set_ne (Ne.symm hj)]
          by_cases hjr : j = r
          · subst hjr
            by_cases hl3 : j < σ.length
            · rw [List.getElem?_set_self (by rw [List.length_set]; exact hl3),List.getElem?_set_self hl3]
            · rw [List.getElem?_eq_none (by rw [List.length_set,List.length_set]; omega),List.getElem?_eq_none (by rw [List.length_set]; omega)]
          · rw [List.getElem?_set_ne (Ne.symm hjr),List.getElem?_set_ne (Ne.symm hj),List.getElem?_set_ne (Ne.symm hjr)]
       show De.nx (((σ.set i (some (.ref ea))).set r (some (.ref p))).set i none) _;rw [ez];exact k A _ _ R5
     · rw [if_neg hl] at e; cases e
  · rw [if_neg hz] at e; cases e
def VXt (G : Cn) (ow : List Nat) (E : XK) (c : TT) (χ : Env -> Option String) : Prop :=
 ∀ H0 av A σ H δ,ER G ow H0 av A σ H δ -> ∀ c',χ δ = some c' -> (∀ H',Same H H' -> E (.ref (G.1.c c')) none H') -> ∀ Q : Bool -> Hp -> Prop,c σ H Q
theorem Zjg {E : XK} {te : TE} {χ : Env -> Option String} (h : VXe G ow E te χ) : VXt G ow E (tB te) χ := fun H0 av A σ H δ R c e k Q => h H0 av A σ H δ R c e k _
theorem Zgy {E : XK} {te : TE} {χ : Env -> Option String} (h : VXe G ow E te χ) : VXe G ow E (J6 te) χ := fun H0 av A σ H δ R c e k Q => h H0 av A σ H δ R c e k _
def Us (χt : Env -> Option String) (τ : Env -> Option Bool) (χ ψ : Env -> Option String) (δ : Env) : Option String := match χt δ with
 | some c => some c
 | none => xIf τ χ ψ δ
theorem Zh5 {E : XK} {c : TT} {t u : TS} {τ : Env -> Option Bool} {χt χ ψ : Env -> Option String} (ht : VXt G ow E c χt) (hc : VT G ow c τ) (h1 : VX G ow E t χ) (h2 : VX G ow E u ψ) : VX G ow E (Qn c t u) (Us χt τ χ ψ) := fun H0 av A σ H δ R c' e k De => by
 unfold Us at e;cases he : χt δ with
 | none =>
  rw [he] at e;exact ZfX hc h1 h2 H0 av A σ H δ R c' e k De
 | some c2 =>
  rw [he] at e;cases e;exact ht H0 av A σ H δ R c' he (fun H' s => k H' (R.same.trans s)) _
end
end DL
namespace L2
open PySem PySem.Spec PyProof.Rows
section
variable {X : Cx} {elts : List Expr} {x1 : Nat} {tpos : Pos}
end
end L2
namespace DL
open PySem PySem.Spec L2
section
variable {cA : Kn} {G : Cn} {ow : List Nat}
end
end DL
namespace DL
open PySem PySem.Spec L2
def mat (rows : List (List D)) : D := .lst (rows.map D.lst)
structure Mx (H : Hp) (a : Addr) (bs : List Addr) (rows : List (List D)) : Prop where
 top : H a = some (.lst (bs.map V.ref))
 len : bs.length = rows.length
 nd : bs.Nodup
 na : a ∉ bs
 row : ∀ (k : Nat) (b : Addr) (r : List D),bs[k]? = some b -> rows[k]? = some r -> H b = some (.lst (r.map val))
 sc : ∀ r ∈ rows,r.all Zy = true
section
variable {H H' : Hp} {a : Addr} {bs : List Addr} {rows : List (List D)}
theorem Mx.mem (M : Mx H a bs rows) {b : Addr} (h : b ∈ bs) : ∃ r ∈ rows,H b = some (.lst (r.map val)) := by
 obtain ⟨k,hk,e⟩ := List.mem_iff_getElem.mp h;have hk2 : k < rows.length := by rw [<- M.len]; exact hk
 exact ⟨rows[k],List.getElem_mem hk2,M.row k b _ (by rw [List.getElem?_eq_getElem hk,e]) (List.getElem?_eq_getElem hk2)⟩
theorem Mx.there (M : Mx H a bs rows) {x : Addr} (h : x ∈ a :: bs) : ∃ vs,H x = some (.lst vs) := by
 rcases List.mem_cons.mp h with rfl | h
 · exact ⟨_,M.top⟩
 · obtain ⟨r,_,e⟩ := M.mem h
   exact ⟨_,e⟩
theorem Mx.mono (M : Mx H a bs rows) (k : Same H H') : Mx H' a bs rows := ⟨k _ _ M.top,M.len,M.nd,M.na,fun n b r h1 h2 => k _ _ (M.row n b r h1 h2),M.sc⟩
theorem Mx.rep {cA : Kn} {av : Addr -> Prop} (M : Mx H a bs rows) (hn : ∀ x ∈ a :: bs,¬ av x) : Rep cA av H (mat rows) (.ref a) := by
 have go : ∀ (bs : List Addr) (rows : List (List D)),bs.length = rows.length -> (∀ x ∈ bs,¬ av x) -> (∀ (k : Nat) (b : Addr) (r : List D),bs[k]? = some b -> rows[k]? = some r -> H b = some (.lst (r.map val))) -> (∀ r ∈ rows,r.all Zy = true) -> RepL cA av H (rows.map D.lst) (bs.map V.ref) := by
  intro bs
  induction bs with
  | nil =>
   intro rows hl _ _ _;cases rows with
   | nil => exact .nil
   | cons _ _ => simp at hl
  | cons b bs ih =>
   intro rows hl hn hr hs;cases rows with
   | nil => simp at hl
   | cons r rows =>
    refine .cons ?_ (ih rows (by simpa using hl) (fun x hx => hn x (List.mem_cons_of_mem _ hx)) (fun k b r h1 h2 => hr (k + 1) b r (by simpa using h1) (by simpa using h2)) fun r hr => hs r (List.mem_cons_of_mem _ hr));unfold Rep;exact ⟨b,r.map val,rfl,fun z => (hn b List.mem_cons_self z).elim,SqL.of (hr 0 b r rfl rfl),.of_vals (hs r List.mem_cons_self)⟩
 unfold mat Rep;exact ⟨a,bs.map V.ref,rfl,fun z => (hn a List.mem_cons_self z).elim,SqL.of M.top,go bs rows M.len (fun x hx => hn x (List.mem_cons_of_mem _ hx)) M.row M.sc⟩
end
open Classical in
noncomputable def ovl (H0 H : Hp) (F : List Addr) : Hp := fun x => if x ∈ F then H x else H0 x
theorem Yw {H0 H : Hp} {F : List Addr} {x : Addr} (h : x ∈ F) : ovl H0 H F x = H x := if_pos h
theorem Z7 {H0 H : Hp} {F : List Addr} {x : Addr} (h : x ∉ F) : ovl H0 H F x = H0 x := if_neg h
abbrev Cn.keep (G : Cn) (i : Nat) (v : V) : Cn := ⟨G.1,fun j => if j = i then some (.inr v) else G.2 j⟩
abbrev avF (av : Addr -> Prop) (F : List Addr) : Addr -> Prop := fun x => av x \/ x ∈ F
def PinOk (G : Cn) (i : Nat) (σ : L2.St) : Prop := ∀ z,G.2 i = some z -> ∃ v,z = .inr v /\ σ[i]? = some (some v)
theorem PinOk.none {G : Cn} {i : Nat} {σ : L2.St} (h : G.2 i = Option.none) : PinOk G i σ := fun z e => by rw [h] at e; cases e
theorem PinOk.set {G : Cn} {i k : Nat} {σ : L2.St} {x : Option V} (h : PinOk G i σ) (hk : k ≠ i) : PinOk G i (σ.set k x) := fun z e => by
 obtain ⟨v,h1,h2⟩ := h z e;exact ⟨v,h1,by rw [List.getElem?_set_ne hk]; exact h2⟩
structure MR (G : Cn) (ow : List Nat) (i : Nat) (H0 : Hp) (av : Addr -> Prop) (A : Nat -> Option Addr) (σ : L2.St) (H : Hp) (δ : Env) : Prop where
 ni : i ∉ ow
 nn : PinOk G i σ
 avd : ∀ x,av x -> H0 x ≠ none
 ex : ∃ a bs rows,δ[i]? = some (some (mat rows)) /\ Mx H a bs rows /\ (∀ x ∈ a :: bs,H0 x = none) /\ ER (G.keep i (.ref a)) ow (ovl H0 H (a :: bs)) (avF av (a :: bs)) A σ H (δ.set i none)
section
variable {cA : Kn} {G : Cn} {ow owN owB owC ow1 : List Nat} {i : Nat} {H0 H H' : Hp} {av : Addr -> Prop} {A : Nat -> Option Addr} {σ : L2.St} {δ : Env}
theorem Ut {j : Nat} {v : V} (h : j ≠ i) : (G.keep i v).2 j = G.2 j := if_neg h
theorem Vt {v : V} : (G.keep i v).2 i = some (.inr v) := if_pos rfl
theorem MR.view (R : MR G ow i H0 av A σ H δ) : ER G ow H0 av A σ H δ := by
 obtain ⟨a,bs,rows,hd,M,h0,E⟩ := R.ex
 have nF : ∀ j x,A j = some x -> x ∉ a :: bs := fun j x e z => by
  have := E.fr j x e;rw [Yw z] at this;obtain ⟨vs,q⟩ := M.there z;rw [q] at this; cases this
 have hAi : A i = none := by
  cases q : A i with
  | none => rfl
  | some x => exact (R.ni (E.dom i (by rw [q]; exact fun z => by cases z))).elim
 have less : ∀ b,AV av A b -> AV (avF av (a :: bs)) A b := fun b z => z.elim (fun z => .inl (.inl z)) .inr
 have hil : i < δ.length := (List.getElem?_eq_some_iff.mp hd).1;refine ⟨fun b o e => ?_,R.avd,fun j x e => ?_,E.inj,E.live,E.dom,E.dom',by rw [E.len,List.length_set],fun j x e => ?_,fun j v e => ?_,fun j d e => ?_⟩
 · have nb : b ∉ a :: bs := fun z => by rw [h0 b z] at e; cases e
   exact E.same b o (by rw [Z7 nb]; exact e)
 · have := E.fr j x e
   rw [Z7 (nF j x e)] at this;exact this
 · have q : j ≠ i := fun z => by
    obtain ⟨v,h1,_⟩ := R.nn _ (z ▸ e);cases h1
   exact E.pin j x (by rw [Ut q]; exact e)
 · by_cases q : j = i
   · obtain ⟨v',h1,h2⟩ := R.nn _ (q ▸ e)
     cases h1;rw [q];exact h2
   · exact E.kept j v (by rw [Ut q]; exact e)
 · by_cases q : j = i
   · subst q
     rw [hd] at e;cases e;refine ⟨.ref a,E.kept j _ Vt,fun _ => M.rep fun x hx z => ?_,fun b z => by rw [hAi] at z; cases z⟩;rcases z with z | ⟨k,z⟩
     · exact R.avd x z (h0 x hx)
     · exact nF k x z hx
   · obtain ⟨v,h1,h2,h3⟩ := E.var j d (by rw [List.getElem?_set_ne (Ne.symm q)]; exact e)
     refine ⟨v,h1,fun z => (h2 z).av fun b z => .inl (less b z),fun b z => ?_⟩;obtain ⟨r1,r2⟩ := h3 b z;refine ⟨r1,?_⟩;cases d with
     | lst xs => obtain ⟨vs,q1,q2⟩ := r2; exact ⟨vs,q1,q2.av fun b z => .inl (less b z)⟩
     | obj c ks xs => obtain ⟨dx,vs,q1,q0,q2⟩ := r2; exact ⟨dx,vs,q1,q0,q2.av fun b z => .inl (less b z)⟩
     | dct ks xs => obtain ⟨vs,q1,q0,q2⟩ := r2; exact ⟨vs,q1,q0,q2.av fun b z => .inl (less b z)⟩
     | dtt ks xs => obtain ⟨vs,q1,q0,q2⟩ := r2; exact ⟨vs,q1,q0,q2.av fun b z => .inl (less b z)⟩
     | _ => exact r2
theorem Jt {a : Addr} {bs : List Addr} {rows : List (List D)} (M : Mx H a bs rows) (k : Same H H') : ovl H0 H' (a :: bs) = ovl H0 H (a :: bs) := by
 funext x
 by_cases h : x ∈ a :: bs
 · rw [Yw h,Yw h]
   obtain ⟨vs,q⟩ := M.there h;rw [q,k _ _ q]
 · rw [Z7 h,Z7 h]
theorem MR.mono (R : MR G ow i H0 av A σ H δ) (k : Same H H') : MR G ow i H0 av A σ H' δ := by
 obtain ⟨a,bs,rows,hd,M,h0,E⟩ := R.ex;exact ⟨R.ni,R.nn,R.avd,a,bs,rows,hd,M.mono k,h0,by rw [Jt M k]; exact E.mono k⟩
theorem MR.set {k : Nat} {d : D} (R : MR G ow i H0 av A σ H δ) (hs : Zy d = true) (hk : k ≠ i) (hw : ∀ j,j ∈ owN ↔ j ∈ ow /\ j ≠ k) (hn : G.2 k = none) : MR G owN i H0 av (fun j => if j = k then none else A j) (σ.set k (some (val d))) H (δ.set k (some d)) := by
 obtain ⟨a,bs,rows,hd,M,h0,E⟩ := R.ex;refine ⟨fun z => R.ni ((hw i).mp z).1,R.nn.set hk,R.avd,a,bs,rows,by rw [List.getElem?_set_ne hk]; exact hd,M,h0,?_⟩;rw [List.set_comm _ _ hk];exact E.set (.of_val hs) hw (by rw [Ut hk]; exact hn)
theorem MR.turn {a : Addr} {bs : List Addr} {rows rows' : List (List D)} (ni : i ∉ ow) (nn : PinOk G i σ) (havd : ∀ x,av x -> H0 x ≠ none) (hd : δ[i]? = some (some (mat rows))) (M : Mx H a bs rows) (h0 : ∀ x ∈ a :: bs,H0 x = none) (E : ER (G.keep i (.ref a)) ow (ovl H0 H (a :: bs)) (avF av (a :: bs)) A σ H (δ.set i none))
 (M' : Mx H' a bs rows') (hk : ∀ x,x ∉ a :: bs -> H' x = H x) : MR G ow i H0 av A σ H' (δ.set i (some (mat rows'))) := by
 have hil : i < δ.length := (List.getElem?_eq_some_iff.mp hd).1
 have nF : ∀ j x,A j = some x -> x ∉ a :: bs := fun j x e z => by
  have := E.fr j x e;rw [Yw z] at this;obtain ⟨vs,q⟩ := M.there z;rw [q] at this; cases this
 refine ⟨ni,nn,havd,a,bs,rows',List.getElem?_set_self hil,M',h0,?_⟩;have e1 : (δ.set i (some (mat rows'))).set i none = δ.set i none := List.set_set ..;rw [e1];refine ⟨fun b o e => ?_,fun x z => ?_,fun j x e => ?_,E.inj,fun j x e => ?_,E.dom,E.dom',E.len,E.pin,E.kept,fun j d e => ?_⟩
 · by_cases h : b ∈ a :: bs
   · rw [Yw h] at e; exact e
   · rw [Z7 h] at e
     rw [hk b h];exact E.same b o (by rw [Z7 h]; exact e)
 · by_cases h : x ∈ a :: bs
   · rw [Yw h]
     obtain ⟨vs,q⟩ := M'.there h;rw [q]; exact fun z => by cases z
   · rw [Z7 h]
     exact havd x (z.resolve_right h)
 · have := E.fr j x e
   rw [Z7 (nF j x e)] at this ⊢;exact this
 · rw [hk x (nF j x e)]
   exact E.live j x e
 · have ex : ∀ b o, ¬ AV (avF av (a :: bs)) A b -> H b = some o -> H' b = some o := fun b o n e => by
    rw [hk b fun z => n (.inl (.inr z))]; exact e
   obtain ⟨v,h1,h2,h3⟩ := E.var j d e;refine ⟨v,h1,fun z => (h2 z).ext ex,fun b z => ?_⟩;obtain ⟨r1,r2⟩ := h3 b z;refine ⟨r1,?_⟩;cases d with
   | lst xs => obtain ⟨vs,q1,q2⟩ := r2; exact ⟨vs,by rw [hk b (nF j b z)]; exact q1,q2.ext ex⟩
   | obj c ks xs => obtain ⟨dx,vs,q1,q0,q2⟩ := r2; exact ⟨dx,vs,by rw [hk b (nF j b z)]; exact q1,q0,q2.ext ex⟩
   | dct ks xs => obtain ⟨vs,q1,q0,q2⟩ := r2; exact ⟨vs,by rw [hk b (nF j b z)]; exact q1,q0,q2.ext ex⟩
   | dtt ks xs => obtain ⟨vs,q1,q0,q2⟩ := r2; exact ⟨vs,by rw [hk b (nF j b z)]; exact q1,q0,q2.ext ex⟩
   | _ => exact r2
end
end DL
namespace DL
open PySem PySem.Spec L2
def WantsM (G : Cn) (owN owB owC : List Nat) (i : Nat) (H0 : Hp) (av : Addr -> Prop) (De : Ends) : Out -> Prop
 | .nx δ' => ∀ A' σ' H',MR G owN i H0 av A' σ' H' δ' -> De.nx σ' H'
 | .rt d => ∀ v H',Same H0 H' -> Rep G.1 av H' d v -> De.rt v H'
 | .bk δ' => ∀ A' σ' H',MR G owB i H0 av A' σ' H' δ' -> De.bk σ' H'
 | .ct δ' => ∀ A' σ' H',MR G owC i H0 av A' σ' H' δ' -> De.ct σ' H'
def VM (G : Cn) (ow owN owB owC : List Nat) (i : Nat) (ts : TS) (φ : Env -> Option Out) : Prop :=
 ∀ H0 av A σ H δ,MR G ow i H0 av A σ H δ -> ∀ o,φ δ = some o -> ∀ De : Ends,WantsM G owN owB owC i H0 av De o -> ts De σ H
section
variable {cA : Kn} {G : Cn} {ow owN owB owC ow1 : List Nat} {i : Nat}
theorem Zdz : VM G ow ow owB owC i tNext sNext := fun H0 av A σ H δ R o e De k => by
 cases e;exact k A σ H R
theorem X3 {t u : TS} {φ ψ : Env -> Option Out} (h1 : VM G ow ow1 owB owC i t φ) (h2 : VM G ow1 owN owB owC i u ψ) : VM G ow owN owB owC i (Qk t u) (Zf φ ψ) := fun H0 av A σ H δ R o e De k => by
 unfold Zf at e;cases he : φ δ with
 | none => rw [he] at e; cases e
 | some o1 =>
  rw [he] at e;refine h1 H0 av A σ H δ R o1 he _ ?_;cases o1 with
  | nx δ' => exact fun A' σ' H' R' => h2 H0 av A' σ' H' δ' R' o e De k
  | rt d => cases e; exact k
  | bk δ' => cases e; exact k
  | ct δ' => cases e; exact k
theorem Zhs {c : TT} {t u : TS} {τ : Env -> Option Bool} {φ ψ : Env -> Option Out} (hc : VT G ow c τ) (h1 : VM G ow owN owB owC i t φ) (h2 : VM G ow owN owB owC i u ψ) : VM G ow owN owB owC i (Qn c t u) (sIf τ φ ψ) := fun H0 av A σ H δ R o e De k => by
 unfold sIf at e;cases he : τ δ with
 | none => rw [he] at e; cases e
 | some b =>
  rw [he] at e;refine hc H0 av A σ H δ R.view b he _ fun H' s => ?_
  cases b with
  | true => exact Uk (h1 H0 av A σ H' δ (R.mono s) o e De k)
  | false => exact Uj (h2 H0 av A σ H' δ (R.mono s) o e De k)
theorem Zh6 {te : TE} {q : Ql} {ε : Env -> Option D} (h : VE G ow te q ε) : VM G ow owN owB owC i (QZ te) (Zv ε) := fun H0 av A σ H δ R o e De k => by
 unfold Zv at e;cases he : ε δ with
 | none => rw [he] at e; cases e
 | some d =>
  rw [he] at e;cases e;exact h H0 av A σ H δ R.view d he _ fun v H' s r => k v H' (R.view.same.trans s) r.any
theorem Zh7 {te : TE} {q : Ql} {ε : Env -> Option D} (k' : Nat) (hk : k' ≠ i) (h : VE G ow te q ε) (hn : G.2 k' = none) (h1 : sub owN ow = true) (h2 : owN.contains k' = false) (h3 : sub ow (k' :: owN) = true) : VM G ow owN owB owC i (YY te (YX k')) (Zh k' (YV ε)) := fun H0 av A σ H δ R o e De k => by
 unfold Zh at e;cases he : YV ε δ with
 | none => rw [he] at e; cases e
 | some d =>
  rw [he] at e;cases e
  have hs : Zy d = true := by
   unfold YV at he;cases hx : ε δ with
   | none => rw [hx] at he; cases he
   | some d' =>
    rw [hx] at he
    by_cases hs : Zy d' = true
    · have e' : d' = d := by simpa [hs] using he
      rw [<- e']; exact hs
    · simp [hs] at he
  refine h.scal H0 av A σ H δ R.view d he _ fun v H' s r => ?_
  have ev : v = val d := (RepT.r r).val hs;subst ev;exact k _ _ H' ((R.mono s).set hs hk (QC h1 h2 h3) hn)
def VIr (G : Cn) (ow : List Nat) (wi : TI) (ι : Env -> Option (List D)) : Prop :=
 ∀ H0 av A σ H δ,ER G ow H0 av A σ H δ -> ∀ xs,ι δ = some xs -> ∀ R : It -> Hp -> Prop,(∀ J H1,Same H H1 -> Vo G.1 (fun _ => True) J xs (fun _ => none) -> (∀ x ∈ xs,Zy x = true) -> R J H1) -> wi σ H R
theorem ZdA {lo c : Int} {n : Nat} : ∀ x ∈ ZG lo c n,Zy x = true := fun x hx => by
 obtain ⟨k,_,rfl⟩ := List.mem_map.mp hx;rfl
theorem ZaR {ta : TA} {q : Ql} {a : Env -> Option (List D)} (h : VA G ow ta q a) (hl : ∀ δ ds,a δ = some ds -> ds.length = 1) : VIr G ow (ZfM ta) (ZE a) := fun H0 av A σ H δ E xs e R k => by
 unfold ZE at e;cases he : a δ with
 | none => rw [he] at e; cases e
 | some ds =>
  rw [he] at e;refine h H0 av A σ H δ E ds he _ fun vs H1 s r => ?_
  have hln := hl δ ds he
  split at e
  · rename_i j he2
    cases he2
    by_cases hz : -(2 ^ 62) <= j /\ j < 2 ^ 62
    · rw [if_pos hz] at e
      cases e;exact ⟨j,ql1 r,hz.1,hz.2,k _ H1 s Jg ZdA⟩
    · rw [if_neg hz] at e; cases e
  · rename_i he2; cases he2; simp at hln
  · rename_i he2; cases he2; simp at hln
  · cases e
theorem ZeQ {ta : TA} {q : Ql} {a : Env -> Option (List D)} (h : VA G ow ta q a) (hl : ∀ δ ds,a δ = some ds -> ds.length = 2) : VIr G ow (ZfN ta) (ZE a) := fun H0 av A σ H δ E xs e R k => by
 unfold ZE at e;cases he : a δ with
 | none => rw [he] at e; cases e
 | some ds =>
  rw [he] at e;refine h H0 av A σ H δ E ds he _ fun vs H1 s r => ?_
  have hln := hl δ ds he
  split at e
  · rename_i he2; cases he2; simp at hln
  · rename_i i j he2
    cases he2
    by_cases hz : -(2 ^ 62) <= i /\ i < 2 ^ 62 /\ -(2 ^ 62) <= j /\ j < 2 ^ 62
    · rw [if_pos hz] at e
      cases e;exact ⟨i,j,ql2 r,hz,k _ H1 s Jg ZdA⟩
    · rw [if_neg hz] at e; cases e
  · rename_i he2; cases he2; simp at hln
  · cases e
theorem Ju {wi : TI} {tb : TS} {ι : Env -> Option (List D)} {φ : Env -> Option Out} (k' : Nat) (hk : k' ≠ i) (hko : ow.contains k' = false) (hn : G.2 k' = none) (hi : VIr G ow wi ι) (hb : VM G ow ow ow ow i tb φ) : VM G ow ow owB owC i (Q0 wi (YX k') tb) (ZJ ι (Zo k') φ) := fun H0 av A σ H δ R o e De k => by
 unfold ZJ at e;cases he : ι δ with
 | none => rw [he] at e; cases e
 | some xs =>
  rw [he] at e;have e : ZW (Zo k') φ xs δ = some o := e;refine hi H0 av A σ H δ R.view xs he _ fun J H1 s1 W hsc => ?_
  refine ⟨fun j m σ' H' => m = xs.length - j /\ j <= xs.length /\ ∃ A' δ',MR G ow i H0 av A' σ' H' δ' /\ ZW (Zo k') φ (xs.drop j) δ' = some o,⟨xs.length,by simp,Nat.zero_le _,A,δ,R.mono s1,e⟩,?_⟩
  rintro j m σ' H' ⟨rfl,hle,A',δ',R',e'⟩
  obtain ⟨w1,w2,w3⟩ := W H' (fun b o z => by cases z)
  by_cases hlt : j < xs.length
  · refine .inr ⟨w1 j hlt,fun σ2 H2 => ∃ A2 δ2,MR G ow i H0 av A2 σ2 H2 δ2 /\ ZW (Zo k') φ (xs.drop (j + 1)) δ2 = some o,fun σ2 H2 ⟨A2,δ2,E2,e2⟩ => ⟨xs.length - (j + 1),by omega,rfl,hlt,A2,δ2,E2,e2⟩,fun v H2 y => ?_⟩
    have hx : xs[j]? = some xs[j] := List.getElem?_eq_getElem hlt;obtain ⟨s2,rep⟩ := w2 j _ v H2 hx y;have hs := hsc xs[j] (List.getElem_mem hlt);have ev : v = val xs[j] := (rep (fun _ => False) (fun _ z => z.elim) (fun _ z => z.elim)).val hs;subst ev;rw [List.drop_eq_getElem_cons hlt] at e';unfold ZW at e'
    have e' : (match φ (δ'.set k' (some xs[j])) with
     | none => none
     | some (.nx δ2) => ZW (Zo k') φ (xs.drop (j + 1)) δ2
     | some (.ct δ2) => ZW (Zo k') φ (xs.drop (j + 1)) δ2
     | some (.bk δ2) => some (.nx δ2)
     | some (.rt d) => some (.rt d)) = some o := e'
    have R2 := (R'.mono s2).set (owN:=ow) hs hk (fun j => by
     have : k' ∉ ow := by simpa using hko
     exact ⟨fun h => ⟨h,fun z => this (z ▸ h)⟩,fun h => h.1⟩) hn
    cases hφ : φ (δ'.set k' (some xs[j])) with
    | none => rw [hφ] at e'; cases e'
    | some o1 =>
     rw [hφ] at e';refine hb _ av _ _ H2 _ R2 o1 hφ _ ?_;cases o1 with
     | nx δ2 => exact fun A4 σ4 H4 E4 => ⟨A4,δ2,E4,e'⟩
     | ct δ2 => exact fun A4 σ4 H4 E4 => ⟨A4,δ2,E4,e'⟩
     | bk δ2 => cases e'; exact fun A4 σ4 H4 E4 => k A4 σ4 H4 E4
     | rt d => cases e'; exact k
  · have ei : j = xs.length := by omega
    subst ei;rw [List.drop_length] at e';cases e';exact .inl ⟨w3 _ (Nat.le_refl _),k A' σ' H' R'⟩
def Ys (i : Nat) (φ : Env -> Option Out) (δ : Env) : Option Out := match φ (δ.set i none) with
 | some (.nx δ') => match δ'[i]? with
  | some none => some (.nx (δ'.set i ((δ[i]?).getD none)))
  | _ => none
 | some (.rt d) => some (.rt d)
 | _ => none
theorem U5 {t : TS} {φ : Env -> Option Out} (h : ∀ v,VS (G.keep i v) ow owN [] [] t φ) (ho : owN.contains i = false) : VM G ow owN owB owC i t (Ys i φ) := fun H0 av A σ H δ R o e De k => by
 obtain ⟨a,bs,rows,hd,M,h0,E⟩ := R.ex;unfold Ys at e;cases hp : φ (δ.set i none) with
 | none => rw [hp] at e; cases e
 | some o1 =>
  rw [hp] at e;refine h (.ref a) _ _ A σ H _ E o1 hp De ?_;cases o1 with
  | nx δ1 =>
   dsimp only at e;intro A' σ' H' E';have hs : Same (ovl H0 H (a :: bs)) H' := E'.same
   have hF : ∀ x ∈ a :: bs,H' x = H x := fun x hx => by
    obtain ⟨vs,q⟩ := M.there hx;rw [q];exact hs x _ (by rw [Yw hx]; exact q)
   cases hi : δ1[i]? with
   | none => rw [hi] at e; cases e
   | some z =>
    rw [hi] at e;cases z with
    | some y => cases e
    | none =>
     dsimp only at e;rw [hd] at e;have e : some (Out.nx (δ1.set i (some (mat rows)))) = some o := e;cases e;have hil : i < δ1.length := (List.getElem?_eq_some_iff.mp hi).1;have M' : Mx H' a bs rows := ⟨(hF a List.mem_cons_self).trans M.top,M.len,M.nd,M.na,fun k b r h1 h2 => (hF b (List.mem_cons_of_mem _ (List.mem_of_getElem? h1))).trans (M.row k b r h1 h2),M.sc⟩
     have eo : ovl H0 H' (a :: bs) = ovl H0 H (a :: bs) := by
      funext x
      by_cases hx : x ∈ a :: bs
      · rw [Yw hx,Yw hx,hF x hx]
      · rw [Z7 hx,Z7 hx]
     have es : (δ1.set i (some (mat rows))).set i none = δ1 := by
      rw [List.set_set];apply List.ext_getElem?;intro j
      by_cases hj : j = i
      · subst hj
        rw [List.getElem?_set_self hil,hi]
      · rw [List.getElem?_set_ne (Ne.symm hj)]
     exact k A' σ' H' ⟨by simpa using ho,(fun z e => by
      obtain ⟨v,h1,h2⟩ := R.nn z e;have h3 := E.kept i _ Vt;rw [h2] at h3;cases h3;exact ⟨_,h1,E'.kept i _ Vt⟩),R.avd,a,bs,rows,List.getElem?_set_self hil,M',h0,by rw [eo,es]; exact E'⟩
  | rt d =>
   cases e;intro v H' s r;refine k v H' (fun b o q => s b o ?_) (r.av fun b z => .inl (.inl z));have nb : b ∉ a :: bs := fun z => by rw [h0 b z] at q; cases q
   rw [Z7 nb];exact q
  | bk δ1 => cases e
  | ct δ1 => cases e
end
end DL
namespace DL
open PySem PySem.Spec L2
theorem ZdB {α : Type} {xs : List α} {n : Int} {j : Nat} {x : α} (h : ixN xs.length n = some j) (hx : xs[j]? = some x) : atI xs n = some x := by
 unfold atI;rw [h];exact hx
section
variable {H : Hp} {a b : Addr} {bs : List Addr} {rows : List (List D)} {j : Nat} {r r' : List D}
theorem Mx.put (M : Mx H a bs rows) (hb : bs[j]? = some b) (hr : rows[j]? = some r) (hs : r'.all Zy = true) : Mx (upd H b (.lst (r'.map val))) a bs (rows.set j r') := by
 have hbm : b ∈ bs := List.mem_of_getElem? hb;have hab : a ≠ b := fun z => M.na (z ▸ hbm)
 have hjl : j < rows.length := (List.getElem?_eq_some_iff.mp hr).1;refine ⟨by rw [Zt hab]; exact M.top,by rw [List.length_set]; exact M.len,M.nd,M.na,fun k b' r1 h1 h2 => ?_,fun r1 h1 => ?_⟩
 · by_cases hk : k = j
   · subst hk
     rw [hb] at h1;cases h1;rw [List.getElem?_set_self hjl] at h2;cases h2;exact ZM
   · rw [List.getElem?_set_ne (Ne.symm hk)] at h2
     have : b' ≠ b := fun z => hk (by
      subst z;obtain ⟨p1,k1⟩ := (List.getElem?_eq_some_iff.mp h1)
      obtain ⟨p2,k2⟩ := (List.getElem?_eq_some_iff.mp hb)
      rcases Nat.lt_trichotomy k j with h | h | h
      · exact absurd (k1.trans k2.symm) (List.pairwise_iff_getElem.mp M.nd k j p1 p2 h)
      · exact h
      · exact absurd (k2.trans k1.symm) (List.pairwise_iff_getElem.mp M.nd j k p2 p1 h))
     rw [Zt this];exact M.row k b' r1 h1 h2
 · rcases List.mem_or_eq_of_mem_set h1 with h1 | rfl
   · exact M.sc r1 h1
   · exact hs
theorem ZbR : (rows.map D.lst).set j (.lst r') = (rows.set j r').map D.lst := by rw [List.map_set]
theorem Zgz {d : D} (h : (rows.map D.lst)[j]? = some d) : ∃ r,rows[j]? = some r /\ d = .lst r := by
 rw [List.getElem?_map] at h;cases hr : rows[j]? with
 | none => rw [hr] at h; cases h
 | some r => rw [hr] at h; cases h; exact ⟨r,rfl,rfl⟩
theorem Mx.at (M : Mx H a bs rows) (hr : rows[j]? = some r) : ∃ b,bs[j]? = some b /\ H b = some (.lst (r.map val)) := by
 have hjl : j < bs.length := by rw [M.len]; exact (List.getElem?_eq_some_iff.mp hr).1
 exact ⟨bs[j],List.getElem?_eq_getElem hjl,M.row j _ r (List.getElem?_eq_getElem hjl) hr⟩
end
section
variable {cA : Kn} {G : Cn} {ow owN owB owC ow1 : List Nat} {i : Nat}
theorem ZgA {ε : Env -> Option D} {δ : Env} {d : D} (h : YV ε δ = some d) : Zy d = true := by
 unfold YV at h;cases hx : ε δ with
 | none => rw [hx] at h; cases h
 | some d' =>
  rw [hx] at h
  by_cases hs : Zy d' = true
  · have e' : d' = d := by simpa [hs] using h
    rw [<- e']; exact hs
  · simp [hs] at h
theorem ZgB {r : List D} {l : Nat} {d : D} (h : r.all Zy = true) (hd : Zy d = true) : (r.set l d).all Zy = true := by
 rw [List.all_eq_true] at h ⊢;intro x hx;rcases List.mem_or_eq_of_mem_set hx with hx | rfl
 · exact h x hx
 · exact hd
def Vu (i : Nat) (κ1 κ2 ε : Env -> Option D) (δ : Env) : Option Out := match YV ε δ,Za i δ,κ1 δ,κ2 δ with
 | some d,some (.lst xs),some (.int n),some (.int m) => match ixN xs.length n with
  | some j => match xs[j]? with
   | some (.lst r) => match ixN r.length m with
    | some l => some (.nx (δ.set i (some (.lst (xs.set j (.lst (r.set l d)))))))
    | none => none
   | _ => none
  | none => none
 | _,_,_,_ => none
theorem ZcE {κ1 κ2 ε : Env -> Option D} {δ : Env} {o : Out} (h : Vu i κ1 κ2 ε δ = some o) : ∃ d xs n m j r l,YV ε δ = some d /\ Za i δ = some (.lst xs) /\ κ1 δ = some (.int n) /\ κ2 δ = some (.int m) /\ ixN xs.length n = some j /\ xs[j]? = some (.lst r) /\ ixN r.length m = some l /\ o = .nx (δ.set i (some (.lst (xs.set j (.lst (r.set l d)))))) := by
 unfold Vu at h
 split at h
 · rename_i d xs n m h1 h2 h3 h4
   split at h
   · rename_i j hj
     split at h
     · rename_i r hr
       split at h
       · rename_i l hl
         exact ⟨d,xs,n,m,j,r,l,h1,h2,h3,h4,hj,hr,hl,(Option.some.inj h).symm⟩
       · cases h
     · cases h
   · cases h
 · cases h
theorem ZdC {te t1 t2 : TE} {q q1 q2 : Ql} {ε κ1 κ2 : Env -> Option D} (h : VE G ow te q ε) (h1 : VE G ow t1 q1 κ1) (h2 : VE G ow t2 q2 κ2) : VM G ow ow owB owC i (YY te (J8 (tOp (Q8 G.1.K) (YO i) t1) t2 rSetL)) (Vu i κ1 κ2 ε) := fun H0 av A σ H δ R o e De k => by
 obtain ⟨d,xs,n,m,j,r,l,e1,e2,e3,e4,e5,e6,e7,rfl⟩ := ZcE e;refine h.scal H0 av A σ H δ R.view d e1 _ fun v H1 s1 r1 => ?_
 have hs := ZgA e1;have ev : v = val d := (RepT.r r1).val hs;subst ev;have R1 := R.mono s1;obtain ⟨a,bs,rows,hd,M,h0,E⟩ := R1.ex
 have ex : xs = rows.map D.lst := by
  have := YL e2;rw [hd] at this;cases this;rfl
 subst ex;obtain ⟨r0,hr,er⟩ := Zgz e6;cases er;obtain ⟨b,hb,hH⟩ := M.at hr;refine ⟨.ref a,E.kept i _ Vt,h1 H0 av A σ H1 δ R1.view _ e3 _ fun y H2 s2 r2 => ?_⟩;have ey : y = .int n := r2.any;subst ey;refine .inl ⟨a,bs.map V.ref,n,.ref b,rfl,rfl,SqL.of (s2 _ _ M.top),ZdB (j:=j) (by rw [List.length_map] at e5 ⊢; rw [M.len]; exact e5) (by rw [List.getElem?_map,hb]; rfl),?_⟩;have R2 := R1.mono s2
 refine h2 H0 av A σ H2 δ R2.view _ e4 _ fun z H3 s3 r3 => ?_
 have ez : z = .int m := r3.any;subst ez;have s23 := s2.trans s3;have M3 := M.mono s23;refine ⟨b,r.map val,m,l,rfl,rfl,s23 _ _ hH,by rw [List.length_map]; exact e7,k A σ _ ?_⟩;rw [ZbR];rw [<- List.map_set];have hrs : (r.set l d).all Zy = true := ZgB (M.sc r (List.mem_of_getElem? hr)) hs;refine MR.turn R.ni R.nn R.avd hd M3 h0 (by rw [Jt M s23]; exact E.mono s23) (M3.put hb hr hrs) fun x hx => Zt fun z => hx (z ▸ List.mem_cons_of_mem _ (List.mem_of_getElem? hb))
def Uu (i k : Nat) (δ : Env) : Option Out := match Za i δ,Za k δ with
 | some (.lst xs),some (.lst r) => if xs.length < sizeLine /\ r.all Zy = true then some (.nx ((δ.set k none).set i (some (.lst (xs ++ [.lst r]))))) else none
 | _,_ => none
theorem ZgC (k' : Nat) (hk : k' ≠ i) (hi : ow.contains k' = true) (hn : G.2 k' = none) (h1 : sub owN ow = true) (h2 : owN.contains k' = false) (h3 : sub ow (k' :: owN) = true) : VM G ow owN owB owC i (Ug (tBM G.1.K "list" rAppend (YO i) (YT (YO k') tNil))) (Uu i k') := fun H0 av A σ H δ R o e De k => by
 obtain ⟨a,bs,rows,hd,M,h0,E⟩ := R.ex;unfold Uu at e
 split at e
 · rename_i xs r e1 e2
   by_cases hz : xs.length < sizeLine /\ r.all Zy = true
   · rw [if_pos hz] at e
     cases e
     have ex : xs = rows.map D.lst := by
      have := YL e1;rw [hd] at this;cases this;rfl
     subst ex;have hw := QC h1 h2 h3;have hi' : k' ∈ ow := by simpa using hi
     have hil : i < δ.length := (List.getElem?_eq_some_iff.mp hd).1
     have nF : ∀ j x,A j = some x -> x ∉ a :: bs := fun j x e z => by
      have := E.fr j x e;rw [Yw z] at this;obtain ⟨vs,q⟩ := M.there z;rw [q] at this; cases this
     cases hA : A k' with
     | none => exact absurd hA (E.dom' k' hi')
     | some b =>
      have e2' : (δ.set i none)[k']? = some (some (.lst r)) := by rw [List.getElem?_set_ne (Ne.symm hk)]; exact YL e2
      obtain ⟨v,g1,_,g3⟩ := E.var k' _ e2';obtain ⟨rfl,vs,q1,q2⟩ := g3 b hA;have ev : vs = r.map val := q2.vals hz.2;subst ev;have hbF : b ∉ a :: bs := nF k' b hA;have hba : b ≠ a := fun z => hbF (z ▸ List.mem_cons_self)
      have hbb : b ∉ bs := fun z => hbF (List.mem_cons_of_mem _ z)
      refine ⟨.ref a,E.kept i _ Vt,.inl ⟨rfl,_,SqL.of M.top⟩,.ref b,g1,a,bs.map V.ref,.ref b,rfl,rfl,M.top,?_,k (fun j => if j = k' then none else A j) σ _ ?_⟩
      · have := hz.1
        rw [List.length_map] at this ⊢;rw [M.len];exact this
      · have hM' : Mx (upd H a (.lst (bs.map V.ref ++ [V.ref b]))) a (bs ++ [b]) (rows ++ [r]) := by
         refine ⟨by rw [ZM,List.map_append]; rfl,by rw [List.length_append,List.length_append,M.len]; rfl,?_,?_,fun n b' r' g1 g2 => ?_,fun r' hr' => ?_⟩
         · rw [List.nodup_append]
           refine ⟨M.nd,by simp,fun x hx y hy => ?_⟩;rw [List.mem_singleton.mp hy];exact fun z => hbb (z ▸ hx)
         · intro z
           rcases List.mem_append.mp z with z | z
           · exact M.na z
           · exact hba (List.mem_singleton.mp z).symm
         · by_cases hn' : n < bs.length
           · rw [List.getElem?_append_left hn'] at g1
             rw [List.getElem?_append_left (by rw [<- M.len]; exact hn')] at g2;have : b' ≠ a := fun z => M.na (z ▸ List.mem_of_getElem? g1)
             rw [Zt this];exact M.row n b' r' g1 g2
           · rw [List.getElem?_append_right (by omega)] at g1
             rw [List.getElem?_append_right (by rw [<- M.len]; omega),<- M.len] at g2
             have hnn : n - bs.length = 0 := by
              by_cases z : n - bs.length = 0
              · exact z
              · rw [List.getElem?_eq_none (by simp; omega)] at g1; cases g1
             rw [hnn] at g1 g2;cases g1;cases g2;rw [Zt hba];exact q1
         · rcases List.mem_append.mp hr' with z | z
           · exact M.sc r' z
           · rw [List.mem_singleton.mp z]; exact hz.2
        have h0b : H0 b = none := by
         have := E.fr k' b hA;rw [Z7 hbF] at this;exact this
        have hF' : ∀ x,x ∈ a :: (bs ++ [b]) ↔ x ∈ a :: bs \/ x = b := fun x => by simp [or_assoc]
        have em : D.lst (rows.map D.lst ++ [.lst r]) = mat (rows ++ [r]) := by unfold mat; rw [List.map_append]; rfl
        rw [em];have hdl : i < (δ.set k' none).length := by rw [List.length_set]; exact hil
        refine ⟨fun z => R.ni ((hw i).mp z).1,R.nn,R.avd,a,bs ++ [b],rows ++ [r],List.getElem?_set_self hdl,hM',fun x hx => ?_,?_⟩
        · rcases (hF' x).mp hx with z | rfl
          · exact h0 x z
          · exact h0b
        · rw [List.set_set,List.set_comm _ _ hk]
          have less : ∀ x,AV (avF av (a :: (bs ++ [b]))) (fun j => if j = k' then none else A j) x -> AV (avF av (a :: bs)) A x := fun x z => by
           rcases z with (z | z) | ⟨j,z⟩
           · exact .inl (.inl z)
           · rcases (hF' x).mp z with z | rfl
             · exact .inl (.inr z)
             · exact .inr ⟨k',hA⟩
           · by_cases q : j = k'
             · simp [q] at z
             · simp [q] at z; exact .inr ⟨j,z⟩
          have hkp : ∀ x o,¬ AV (avF av (a :: bs)) A x -> H x = some o -> upd H a (.lst (bs.map V.ref ++ [V.ref b])) x = some o := fun x o n e => by
           rw [Zt fun (z : x = a) => n (.inl (.inr (by rw [z]; exact List.mem_cons_self)))]; exact e
          have oj : ∀ j x,j ≠ k' -> A j = some x -> x ≠ b := fun j x hj e z => hj (E.inj j k' b (z ▸ e) hA)
          refine ⟨fun x o e => ?_,fun x z => ?_,fun j x e => ?_,fun j l x e1 e2 => ?_,fun j x e => ?_,fun j e => ?_,fun j hj => ?_,by rw [List.length_set]; exact E.len,fun j x e => ?_,E.kept,fun j d e => ?_⟩
          · by_cases hx : x ∈ a :: (bs ++ [b])
            · rw [Yw hx] at e; exact e
            · rw [Z7 hx] at e
              have hx2 : x ∉ a :: bs := fun z => hx ((hF' x).mpr (.inl z))
              rw [Zt fun (z : x = a) => hx2 (by rw [z]; exact List.mem_cons_self)];exact E.same x o (by rw [Z7 hx2]; exact e)
          · by_cases hx : x ∈ a :: (bs ++ [b])
            · rw [Yw hx]
              obtain ⟨vs,q⟩ := hM'.there hx;rw [q]; exact fun z => by cases z
            · rw [Z7 hx]
              exact R.avd x (z.resolve_right hx)
          · by_cases q : j = k'
            · simp [q] at e
            · simp [q] at e
              have nx : x ∉ a :: (bs ++ [b]) := fun z => ((hF' x).mp z).elim (nF j x e) (oj j x q e)
              rw [Z7 nx];have := E.fr j x e;rw [Z7 (nF j x e)] at this;exact this
          · by_cases q : j = k'
            · simp [q] at e1
            · by_cases q2 : l = k'
              · simp [q2] at e2
              · simp [q] at e1; simp [q2] at e2; exact E.inj j l x e1 e2
          · by_cases q : j = k'
            · simp [q] at e
            · simp [q] at e
              rw [Zt fun (z : x = a) => nF j x e (by rw [z]; exact List.mem_cons_self)];exact E.live j x e
          · by_cases q : j = k'
            · simp [q] at e
            · simp [q] at e; exact (hw j).mpr ⟨E.dom j e,q⟩
          · obtain ⟨g1,g2⟩ := (hw j).mp hj
            simp [g2];exact E.dom' j g1
          · have q : j ≠ k' := fun z => by
             rw [z] at e;rw [Ut hk,hn] at e;cases e
            simp only [q,if_false];exact E.pin j x e
          · have q : j ≠ k' := fun z => by
             rw [z] at e
             by_cases hl : k' < (δ.set i none).length
             · rw [List.getElem?_set_self hl] at e; cases e
             · rw [List.getElem?_eq_none (by rw [List.length_set]; omega)] at e; cases e
            obtain ⟨v,p1,p2,p3⟩ := E.var j d (by rw [List.getElem?_set_ne (Ne.symm q)] at e; exact e);refine ⟨v,p1,fun z => ?_,fun x z => ?_⟩
            · simp [q] at z
              exact ((p2 z).ext hkp).av fun y z => .inl (less y z)
            · simp [q] at z
              obtain ⟨r1,r2⟩ := p3 x z;have xa : x ≠ a := fun w => nF j x z (w ▸ List.mem_cons_self)
              refine ⟨r1,?_⟩;cases d with
              | lst xs => obtain ⟨vs,q1,q2⟩ := r2; exact ⟨vs,by rw [Zt xa]; exact q1,(q2.ext hkp).av fun y z => .inl (less y z)⟩
              | obj c ks xs => obtain ⟨dx,vs,q1,q0,q2⟩ := r2; exact ⟨dx,vs,by rw [Zt xa]; exact q1,q0,(q2.ext hkp).av fun y z => .inl (less y z)⟩
              | dct ks xs => obtain ⟨vs,q1,q0,q2⟩ := r2; exact ⟨vs,by rw [Zt xa]; exact q1,q0,(q2.ext hkp).av fun y z => .inl (less y z)⟩
              | dtt ks xs => obtain ⟨vs,q1,q0,q2⟩ := r2; exact ⟨vs,by rw [Zt xa]; exact q1,q0,(q2.ext hkp).av fun y z => .inl (less y z)⟩
              | _ => exact r2
   · rw [if_neg hz] at e; cases e
 · cases e
end
end DL
namespace DL
open PySem PySem.Spec L2
def VFM (G : Cn) (ow : List Nat) (te : TE) (ε : Env -> Option D) : Prop :=
 ∀ H0 av A σ H δ,ER G ow H0 av A σ H δ -> ∀ d,ε δ = some d -> ∀ Q : VK,(∀ a bs rows H',Same H H' -> (∀ x ∈ a :: bs,H x = none) -> Mx H' a bs rows -> d = mat rows -> Q (.ref a) H') -> te σ H Q
def Uv (i : Nat) (ε : Env -> Option D) (δ : Env) : Option Out := match ε δ with
 | some d => if i < δ.length then some (.nx (δ.set i (some d))) else none
 | none => none
section
variable {cA : Kn} {G : Cn} {ow owN owB owC ow1 : List Nat} {i : Nat}
theorem ZeR {H0 H H' : Hp} {av : Addr -> Prop} {A : Nat -> Option Addr} {σ : L2.St} {δ : Env} {a : Addr} {bs : List Addr} {rows : List (List D)} (E : ER G ow H0 av A σ H δ) (hi : i ∉ ow) (hn : G.2 i = none) (hil : i < δ.length) (s : Same H H') (hf : ∀ x ∈ a :: bs,H x = none) (M : Mx H' a bs rows) :
 MR G ow i H0 av A (σ.set i (some (.ref a))) H' (δ.set i (some (mat rows))) := by
 have h0 : ∀ x ∈ a :: bs,H0 x = none := fun x hx => E.same.free (hf x hx)
 have nF : ∀ j x,A j = some x -> x ∉ a :: bs := fun j x e z => E.live j x e (hf x z)
 have E' := E.mono s;refine ⟨hi,.none hn,E.avd,a,bs,rows,List.getElem?_set_self hil,M,h0,?_⟩;rw [List.set_set];refine ⟨fun b o e => ?_,fun x z => ?_,fun j x e => ?_,E.inj,E'.live,E.dom,E.dom',by rw [List.length_set,List.length_set]; exact E.len,fun j x e => ?_,fun j v e => ?_,fun j d e => ?_⟩
 · by_cases hx : b ∈ a :: bs
   · rw [Yw hx] at e; exact e
   · rw [Z7 hx] at e; exact E'.same b o e
 · by_cases hx : x ∈ a :: bs
   · rw [Yw hx]
     obtain ⟨vs,q⟩ := M.there hx;rw [q]; exact fun z => by cases z
   · rw [Z7 hx]
     exact E.avd x (z.resolve_right hx)
 · rw [Z7 (nF j x e)]
   exact E.fr j x e
 · have q : j ≠ i := fun z => by rw [z,Vt] at e; cases e
   exact E.pin j x (by rw [Ut q] at e; exact e)
 · by_cases q : j = i
   · subst q
     rw [Vt] at e;cases e;exact List.getElem?_set_self (by rw [E.len]; exact hil)
   · rw [Ut q] at e
     rw [List.getElem?_set_ne (Ne.symm q)];exact E.kept j v e
 · have q : j ≠ i := fun z => by
    rw [z,List.getElem?_set_self hil] at e;cases e
   rw [List.getElem?_set_ne (Ne.symm q)] at e;obtain ⟨v,h1,h2,h3⟩ := E.var j d e
   have more : ∀ b,AV (avF av (a :: bs)) A b -> AV av A b \/ H b = none := fun b z => by
    rcases z with (z | z) | z
    · exact .inl (.inl z)
    · exact .inr (hf b z)
    · exact .inl (.inr z)
   refine ⟨v,by rw [List.getElem?_set_ne (Ne.symm q)]; exact h1,fun z => ((h2 z).av more).same s,fun b z => ?_⟩;obtain ⟨r1,r2⟩ := h3 b z;refine ⟨r1,?_⟩;cases d with
   | lst xs => obtain ⟨vs,q1,q2⟩ := r2; exact ⟨vs,s _ _ q1,(q2.av more).same s⟩
   | obj c ks xs => obtain ⟨dx,vs,q1,q0,q2⟩ := r2; exact ⟨dx,vs,s _ _ q1,q0,(q2.av more).same s⟩
   | dct ks xs => obtain ⟨vs,q1,q0,q2⟩ := r2; exact ⟨vs,s _ _ q1,q0,(q2.av more).same s⟩
   | dtt ks xs => obtain ⟨vs,q1,q0,q2⟩ := r2; exact ⟨vs,s _ _ q1,q0,(q2.av more).same s⟩
   | _ => exact r2
theorem WantsM.of {H0 : Hp} {av : Addr -> Prop} {De : Ends} {o : Out} (k : Zhj G owN owB owC H0 av De o) : WantsM G owN owB owC i H0 av De o := by
 cases o with
 | nx δ' => exact fun A' σ' H' R => k A' σ' H' R.view
 | rt d => exact k
 | bk δ' => exact fun A' σ' H' R => k A' σ' H' R.view
 | ct δ' => exact fun A' σ' H' R => k A' σ' H' R.view
theorem Zh8 {te : TE} {u : TS} {ε : Env -> Option D} {ψ : Env -> Option Out} (i : Nat) (hi : ow.contains i = false) (hn : G.2 i = none) (h1 : VFM G ow te ε) (h2 : VM G ow owN owB owC i u ψ) : VS G ow owN owB owC (Qk (YY te (YX i)) u) (Zf (Uv i ε) ψ) := fun H0 av A σ H δ E o e De k => by
 unfold Zf Uv at e;cases he : ε δ with
 | none => rw [he] at e; cases e
 | some d =>
  rw [he] at e;dsimp only at e
  by_cases hil : i < δ.length
  · rw [if_pos hil] at e
    dsimp only at e;refine h1 H0 av A σ H δ E d he _ fun a bs rows H' s hf M hd => ?_
    subst hd;exact h2 H0 av A _ H' _ (ZeR E (by simpa using hi) hn hil s hf M) o e De (WantsM.of k)
  · rw [if_neg hil] at e; cases e
theorem ZgD : VFM G ow (UL tNil) (ZK eNil) := fun H0 av A σ H δ E d e Q k => by
 refine ⟨Nat.zero_le _,fun p hp => ?_⟩
 have ed : d = mat [] := by
  have : (some (D.lst []) : Option D) = some d := e;exact (Option.some.inj this).symm
 refine k p [] [] _ (Yc hp) (fun x hx => ?_) ⟨ZM,rfl,List.nodup_nil,(fun z => by cases z),(fun k b r h1 h2 => by simp at h1),(fun r h => by cases h)⟩ ed;rw [List.mem_singleton.mp hx];exact hp
theorem VFM.cl {te : TE} {ε : Env -> Option D} (h : VFM G ow te ε) : VE G ow te .cl ε := fun H0 av A σ H δ E d e Q k =>
 h H0 av A σ H δ E d e Q fun a bs rows H' s hf M hd => by
  subst hd;exact k _ H' s (M.rep fun x hx z => E.avl x z (hf x hx)).t
def V9 : D -> D -> Option D
 | .lst a,.int n => mulX (.lst a) (.int n)
 | _,_ => none
theorem Zh9 {ta tb : TE} {q : Ql} {a b : Env -> Option D} (ha : VE G ow ta .cl a) (hb : VE G ow tb q b) : VF G ow (tOp (Jq G.1.K) ta tb) (eOp V9 a b) := fun H0 av A σ H δ E d e Q k => by
 obtain ⟨x,y,ex,ey,ed⟩ := ZaL e;unfold V9 at ed
 split at ed
 · rename_i xs n
   unfold mulX at ed;dsimp only at ed
   by_cases hz : n < 2 ^ 63 /\ -(2 ^ 63) <= n /\ xs.length * n.toNat <= sizeLine
   · rw [if_pos hz] at ed
     cases ed;refine ha H0 av A σ H δ E _ ex _ fun v H1 s1 r1 => hb H0 av A σ H1 δ (E.mono s1) _ ey _ fun w H2 s2 r2 => ?_
     have ew : w = .int n := r2.any;subst ew;obtain ⟨a1,vs1,rfl,na,rd,l1⟩ := r1;refine .inr (.inr ⟨a1,n,vs1,rfl,rfl,s2.seq rd,hz.2.1,hz.1,by rw [<- l1.length]; exact hz.2.2,fun p hp => k p _ _ H2 (s1.trans s2) hp ((l1.same s2).rep n.toNat) rfl⟩)
   · rw [if_neg hz] at ed; cases ed
 · cases ed
end
section
variable {P : Program} {w : World} {K : PySem.W.Frag} {mg : Str -> Option Value} {base : Heap} {cA : Kn}
end
end DL
namespace DL
open PySem PySem.Spec L2
section
variable {cA : Kn} {G : Cn} {ow : List Nat}
structure RowsAt (H0 H : Hp) (bs : List Addr) (rows : List (List D)) : Prop where
 len : bs.length = rows.length
 nd : bs.Nodup
 row : ∀ (k : Nat) (b : Addr) (r : List D),bs[k]? = some b -> rows[k]? = some r -> H b = some (.lst (r.map val))
 fr : ∀ b ∈ bs,H0 b = none
 sc : ∀ r ∈ rows,r.all Zy = true
theorem RowsAt.same {H0 H H' : Hp} {bs : List Addr} {rows : List (List D)} (R : RowsAt H0 H bs rows) (s : Same H H') : RowsAt H0 H' bs rows := ⟨R.len,R.nd,fun k b r h1 h2 => s _ _ (R.row k b r h1 h2),R.fr,R.sc⟩
end
end DL
namespace DL
open PySem PySem.Spec L2
section
variable {cA : Kn} {G : Cn} {ow owN owB owC ow1 : List Nat} {i : Nat}
open Classical in
end
section
variable {P : Program} {w : World} {K : PySem.W.Frag} {mg : Str -> Option Value} {base : Heap} {cA : Kn}
end
end DL
namespace L2
open PySem PySem.Spec PySem.W PyProof.Rows
end L2
namespace DL
open PySem PySem.Spec L2
section
variable {cA : Kn} {G : Cn} {ow owN owB owC ow1 : List Nat} {i : Nat}
theorem MR.own {H0 H : Hp} {av : Addr -> Prop} {A : Nat -> Option Addr} {σ : L2.St} {δ : Env} {k : Nat} {xs : List D} {p : Addr} (R : MR G ow i H0 av A σ H δ) (hs : xs.all Zy = true) (hp : H p = none) (hk : k ≠ i) (hw : ∀ j,j ∈ ow1 ↔ j ∈ ow \/ j = k) (hn : G.2 k = none) : MR G ow1 i H0 av (fun j => if j = k then some p else A j) (σ.set k (some (.ref p))) (upd H p (.lst (xs.map val))) (δ.set k (some (.lst xs))) := by
 obtain ⟨a,bs,rows,hd,M,h0,E⟩ := R.ex;refine ⟨fun z => ((hw i).mp z).elim R.ni fun z => hk z.symm,R.nn.set hk,R.avd,a,bs,rows,by rw [List.getElem?_set_ne hk]; exact hd,M.mono (Yc hp),h0,?_⟩;rw [List.set_comm _ _ hk,Jt M (Yc hp)];exact E.own hp (.of_vals hs) hw (by rw [Ut hk]; exact hn)
end
end DL
namespace DL
open PySem PySem.Spec L2
def Uw : D -> Option Key
 | .int i => some (.inl i)
 | .str cs => some (.inr (tx cs))
 | _ => none
theorem Zbe {d : D} {k : Key} (h : Uw d = some k) : val d = kV k /\ Zy d = true := by
 cases d <;> first | (cases h; done) | (cases h; exact ⟨rfl,rfl⟩)
def X4 {α : Type} (k : Key) (d : α) : List Key -> List α -> List α
 | k0 :: ks,x :: xs => (if k0 = k then d else x) :: X4 k d ks xs
 | _,xs => xs
def XA (k : Key) : List Key -> Bool
 | [] => false
 | k0 :: ks => decide (k0 = k) || XA k ks
def U6 (ks : List Key) (xs : List D) (k : Key) (d : D) : D := if XA k ks = true then .dct ks (X4 k d ks xs) else .dct (ks ++ [k]) (xs ++ [d])
theorem Zcf {α : Type} (k : Key) (d : α) : ∀ (ks : List Key) (xs : List α),(X4 k d ks xs).length = xs.length
 | [],_ => rfl
 | _ :: _,[] => rfl
 | k0 :: ks,x :: xs => by rw [X4,List.length_cons,List.length_cons,Zcf k d ks xs]
theorem ZbB (k : Key) : ∀ (ks : List Key) (vs : List V),ks.length = vs.length -> ((ks.zip vs).any fun kv => decide (kv.1 = k)) = XA k ks
 | [],_,_ => rfl
 | k0 :: ks,[],h => by simp at h
 | k0 :: ks,v :: vs,h => by
  rw [List.zip_cons_cons,List.any_cons,ZbB k ks vs (by simpa using h)];rfl
theorem ZeS (k : Key) {ks : List Key} {vs : List V} (h : ks.length = vs.length) : (Xj (ks.zip vs) k).isSome = XA k ks := by rw [<- ZaK,ZbB k ks vs h]
theorem ZdD (k : Key) (v : V) : ∀ (ks : List Key) (vs : List V),ks.length = vs.length -> (ks.zip vs).map (fun kv => if kv.1 = k then (kv.1,v) else kv) = ks.zip (X4 k v ks vs)
 | [],_,_ => by simp
 | k0 :: ks,[],h => by simp at h
 | k0 :: ks,x :: vs,h => by
  rw [List.zip_cons_cons,List.map_cons,X4,List.zip_cons_cons,ZdD k v ks vs (by simpa using h)]
  by_cases e : k0 = k
  · simp [e]
  · simp [e]
section
variable {cA : Kn} {av : Addr -> Prop} {H : Hp}
theorem Zcg (k : Key) {d : D} {v : V} (hd : Rep cA av H d v) : ∀ (ks : List Key) {xs : List D} {vs : List V},RepL cA av H xs vs -> RepL cA av H (X4 k d ks xs) (X4 k v ks vs)
 | [],xs,vs,l => l
 | k0 :: ks,[],vs,l => by rw [l.nil_of]; exact .nil
 | k0 :: ks,y :: xs,vs,l => by
  obtain ⟨u,r,rfl,h1,h2⟩ := l.uncons;rw [X4,X4];refine .cons ?_ (Zcg k hd ks h2)
  by_cases e : k0 = k
  · rw [if_pos e,if_pos e]; exact hd
  · rw [if_neg e,if_neg e]; exact h1
theorem ZgE (k : Key) {d : D} {v : V} {ks : List Key} {xs : List D} {vs : List V} {a : Addr} {H' : Hp} (hks : ks.length = xs.length) (l : RepL cA av H' xs vs) (hd : Rep cA av H' d v) (e : H' a = some (.dK (YU (ks.zip vs) k v))) : Own cA av H' (U6 ks xs k d) a := by
 have hl : ks.length = vs.length := by rw [hks,l.length]
 unfold YU at e;rw [ZbB k ks vs hl] at e;unfold U6
 by_cases h : XA k ks = true
 · rw [if_pos h,ZdD k v ks vs hl] at e
   rw [if_pos h];exact ⟨_,e,by rw [Zcf]; exact hks,Zcg k hd ks l⟩
 · rw [if_neg h] at e
   rw [if_neg h];refine ⟨vs ++ [v],?_,by rw [List.length_append,List.length_append,hks]; rfl,l.append (.cons hd .nil)⟩;rw [e,List.zip_append hl];rfl
end
section
variable {G : Cn} {ow owN owB owC ow1 : List Nat} {H0 H : Hp} {av : Addr -> Prop} {A : Nat -> Option Addr} {σ : L2.St} {δ : Env}
theorem ZgF {i : Nat} {ks : List Key} {xs : List D} {vs : List V} {p : Addr} (E : ER G ow H0 av A σ H δ) (hp : H p = none) (hks : ks.length = xs.length) (l : RepL G.1 (AV av A) H xs vs) (hw : ∀ j,j ∈ ow1 ↔ j ∈ ow \/ j = i) (hn : G.2 i = none) :
 ER G ow1 H0 av (fun j => if j = i then some p else A j) (σ.set i (some (.ref p))) (upd H p (.dK (ks.zip vs))) (δ.set i (some (.dct ks xs))) := by
 have hs : Same H (upd H p (.dK (ks.zip vs))) := Yc hp
 have less : ∀ b,AV av (fun j => if j = i then some p else A j) b -> AV av A b \/ H b = none := fun b z => by
  rcases z with z | ⟨j,z⟩
  · exact .inl (.inl z)
  · by_cases e : j = i
    · simp [e] at z; subst z; exact .inr hp
    · simp [e] at z; exact .inl (.inr ⟨j,z⟩)
 have np : ∀ j a,A j = some a -> a ≠ p := fun j a e z => by subst z; exact E.live j a e hp
 have h0 : H0 p = none := by
  cases q : H0 p with
  | none => rfl
  | some o => rw [E.same p o q] at hp; cases hp
 refine ⟨E.same.trans hs,E.avd,fun j a e => ?_,fun j k a e1 e2 => ?_,fun j a e => ?_,fun j e => ?_,fun j hj => ?_,by simp [E.len],fun j a e => (by
  have q : j ≠ i := fun z => by rw [z,hn] at e; cases e
  simp only [q,if_false]; exact E.pin j a e),(fun j v' e => by
  have q : j ≠ i := fun z => by rw [z,hn] at e; cases e
  rw [List.getElem?_set_ne (Ne.symm q)]; exact E.kept j v' e),fun j d' e => ?_⟩
 · by_cases q : j = i
   · simp [q] at e; subst e; exact h0
   · simp [q] at e; exact E.fr j a e
 · by_cases q : j = i
   · by_cases q2 : k = i
     · rw [q,q2]
     · simp [q] at e1; simp [q2] at e2
       exact absurd e1.symm (np k a e2)
   · by_cases q2 : k = i
     · simp [q] at e1; simp [q2] at e2
       exact absurd e2.symm (np j a e1)
     · simp [q] at e1; simp [q2] at e2; exact E.inj j k a e1 e2
 · by_cases q : j = i
   · simp [q] at e; subst e; rw [ZM]; exact fun z => by cases z
   · simp [q] at e
     rw [Zt (np j a e)];exact E.live j a e
 · by_cases q : j = i
   · exact (hw j).mpr (.inr q)
   · simp [q] at e; exact (hw j).mpr (.inl (E.dom j e))
 · by_cases q : j = i
   · simp [q]
   · simp [q]
     exact E.dom' j (((hw j).mp hj).resolve_right q)
 · rcases Jf e with ⟨rfl,rfl,hl⟩ | ⟨q,e'⟩
   · refine ⟨.ref p,?_,fun z => by simp at z,fun a z => ?_⟩
     · rw [List.getElem?_set_self (by rw [E.len]; exact hl)]
     · simp at z
       subst z;exact ⟨rfl,vs,ZM,hks,(l.av less).same hs⟩
   · obtain ⟨v',h1,h2,h3⟩ := E.var j d' e'
     refine ⟨v',by rw [List.getElem?_set_ne (Ne.symm q)]; exact h1,fun z => ?_,fun a z => ?_⟩
     · simp [q] at z
       exact ((h2 z).av less).same hs
     · simp [q] at z
       obtain ⟨r1,r2⟩ := h3 a z;refine ⟨r1,?_⟩;cases d' with
       | lst xs => obtain ⟨vs',q1,q2⟩ := r2; exact ⟨vs',hs _ _ q1,(q2.av less).same hs⟩
       | obj c ks xs => obtain ⟨dx,vs',q1,q0,q2⟩ := r2; exact ⟨dx,vs',hs _ _ q1,q0,(q2.av less).same hs⟩
       | dct ks xs => obtain ⟨vs',q1,q0,q2⟩ := r2; exact ⟨vs',hs _ _ q1,q0,(q2.av less).same hs⟩
       | dtt ks xs => obtain ⟨vs',q1,q0,q2⟩ := r2; exact ⟨vs',hs _ _ q1,q0,(q2.av less).same hs⟩
       | _ => exact r2
def VFD (G : Cn) (ow : List Nat) (te : TE) (ε : Env -> Option D) : Prop :=
 ∀ H0 av A σ H δ,ER G ow H0 av A σ H δ -> ∀ d,ε δ = some d -> ∀ Q : VK,(∀ p ks vs xs H1,Same H H1 -> H1 p = none -> ks.length = xs.length -> RepL G.1 (AV av A) H1 xs vs -> d = .dct ks xs -> Q (.ref p) (upd H1 p (.dK (ks.zip vs)))) -> te σ H Q
theorem ZgG : VFD G ow tDNewK (eC (.dct [] [])) := fun H0 av A σ H δ E d e Q k => fun p hp => by
 cases e;exact k p [] [] [] H (Same.refl H) hp rfl .nil rfl
theorem ZgH {te : TE} {ε : Env -> Option D} (i : Nat) (h : VFD G ow te ε) (hn : G.2 i = none) (h1 : sub owN (i :: ow) = true) (h2 : owN.contains i = true) (h3 : sub ow owN = true) : VS G ow owN owB owC (YY te (YX i)) (Zh i ε) := fun H0 av A σ H δ E o e De k => by
 unfold Zh at e;cases he : ε δ with
 | none => rw [he] at e; cases e
 | some d =>
  rw [he] at e;cases e;refine h H0 av A σ H δ E d he _ fun p ks vs xs H1 s hp hk l hd => ?_
  subst hd;exact k _ _ _ (ZgF (E.mono s) hp hk l (Zb0 h1 h2 h3) hn)
def inK (neg : Bool) : D -> D -> Option D
 | x,.dct ks _ => match Uw x with
  | some k => some (.bl (neg != XA k ks))
  | none => none
 | _,_ => none
theorem ZeT {neg : Bool} {x y d : D} (h : inK neg x y = some d) : ∃ ks xs k,y = .dct ks xs /\ Uw x = some k /\ d = .bl (neg != XA k ks) := by
 unfold inK at h
 split at h
 · rename_i ks xs
   cases hk : Uw x with
   | none => rw [hk] at h; cases h
   | some k => rw [hk] at h; exact ⟨ks,xs,k,rfl,rfl,(Option.some.inj h).symm⟩
 · cases h
theorem Zem {ta tb : TE} {qa qb : Ql} {a b : Env -> Option D} (ha : VE G ow ta qa a) (hb : VE G ow tb qb b) : VE G ow (Zdj ta tb) .cl (eOp (inK true) a b) := fun H0 av A σ H δ E d e Q k => by
 obtain ⟨x,y,ex,ey,ed⟩ := ZaL e;obtain ⟨ks,xs,kk,rfl,hk,rfl⟩ := ZeT ed;obtain ⟨hv,hs⟩ := Zbe hk;refine ha H0 av A σ H δ E _ ex _ fun v H1 s1 r1 => hb H0 av A σ H1 δ (E.mono s1) _ ey _ fun w H2 s2 r2 => ?_
 have e1 : v = kV kk := (r1.any.val hs).trans hv;obtain ⟨p,vs,rfl,_,rd,hl,l⟩ := r2.tp;refine ⟨p,_,rfl,e1 ▸ DGet.k rd,?_⟩;rw [ZeS kk (hl.trans l.length)];have := k (.bl (true != XA kk ks)) H2 (s1.trans s2) blq;rw [Bool.true_bne] at this;exact this
def Ux (i : Nat) (κ ε : Env -> Option D) (δ : Env) : Option Out := match ε δ,Za i δ,κ δ with
 | some d,some (.dct ks xs),some x => match Uw x with
  | some k => if ks.length < sizeLine then some (.nx (δ.set i (some (U6 ks xs k d)))) else none
  | none => none
 | _,_,_ => none
theorem ZcF {i : Nat} {κ ε : Env -> Option D} {δ : Env} {o : Out} (h : Ux i κ ε δ = some o) : ∃ d ks xs x k,ε δ = some d /\ Za i δ = some (.dct ks xs) /\ κ δ = some x /\ Uw x = some k /\ ks.length < sizeLine /\ o = .nx (δ.set i (some (U6 ks xs k d))) := by
 unfold Ux at h
 split at h
 · rename_i d ks xs x h1 h2 h3
   cases hk : Uw x with
   | none => rw [hk] at h; cases h
   | some k =>
    rw [hk] at h;dsimp only at h
    by_cases hz : ks.length < sizeLine
    · rw [if_pos hz] at h
      exact ⟨d,ks,xs,x,k,h1,h2,h3,hk,hz,(Option.some.inj h).symm⟩
    · rw [if_neg hz] at h; cases h
 · cases h
theorem ZgI {te ti : TE} {q : Ql} {ε κ : Env -> Option D} (i : Nat) (hi : ow.contains i = true) (h : VE G ow te .cl ε) (hk : VE G ow ti q κ) : VS G ow ow owB owC (Zhh (YO i) ti te) (Ux i κ ε) := fun H0 av A σ H δ E o e De k => by
 obtain ⟨d,ks,xs,x,kk,e1,e2,e3,hkk,hz,rfl⟩ := ZcF e;obtain ⟨hv,hs⟩ := Zbe hkk;have hi' : i ∈ ow := by simpa using hi
 cases hA : A i with
 | none => exact absurd hA (E.dom' i hi')
 | some a =>
  refine h H0 av A σ H δ E d e1 _ fun v H1 s1 r1 => ?_
  have E1 := E.mono s1;obtain ⟨u,g1,_,g3⟩ := E1.var i _ (YL e2);refine ⟨u,g1,hk H0 av A σ H1 δ E1 _ e3 _ fun y H2 s2 r2 => ?_⟩;have E2 := E1.mono s2;obtain ⟨u',g1',_,g3'⟩ := E2.var i _ (YL e2);obtain ⟨rfl,vs,q1,q0,q2⟩ := g3' a hA;have eu : u = .ref a := (g3 a hA).1;subst eu;have ey : y = kV kk := (r2.any.val hs).trans hv;subst ey;refine ⟨a,_,rfl,DPut.k q1 ?_,k A σ _ (E2.put hA (YL e2) (fun b o hb e => by rw [Zt hb]; exact e) (by rw [ZM]; exact fun z => by cases z) ?_)⟩
  · have : (ks.zip vs).length = ks.length := by rw [List.length_zip,<- q2.length,q0]; omega
    rw [this];exact hz
  · have ex : ∀ b o, ¬ AV av A b -> H2 b = some o -> upd H2 a (.dK (YU (ks.zip vs) kk v)) b = some o := fun b o n e => by
     rw [Zt fun z => n (.inr ⟨i,by rw [z]; exact hA⟩)];exact e
    exact ZgE kk q0 (q2.ext ex) ((RepT.r (r1.same s2)).ext ex) ZM
end
end DL
namespace L2
open PySem
theorem Zfw {X : Cx} (h : X.A.units + 64 < cLine) : X.A.units + 1 < cLine := by omega
theorem Zad {env : Env} : ∀ {names : List (Str × NameKind)} {x : Str},(names.lookup x = some .cell \/ names.lookup x = some .free) ->
 (names.map fun (n,k) => if (k == NameKind.free && env.scope.kind == .function && env.kindOf n == some .cell) then (n,NameKind.cell) else (n,k)).lookup x = some .cell \/ (names.map fun (n,k) => if (k == NameKind.free && env.scope.kind == .function && env.kindOf n == some .cell) then (n,NameKind.cell) else (n,k)).lookup x = some .free
 | [],_,h => by simp at h
 | (n,k) :: r,x,h => by
  have ih := @Zad env r x;show List.lookup x ((if (k == NameKind.free && env.scope.kind == .function && env.kindOf n == some .cell) = true then (n,NameKind.cell) else (n,k)) :: _) = _ \/ List.lookup x ((if (k == NameKind.free && env.scope.kind == .function && env.kindOf n == some .cell) = true then (n,NameKind.cell) else (n,k)) :: _) = _;cases hx : x == n with
  | true =>
   simp only [List.lookup_cons,hx] at h
   by_cases hc : (k == NameKind.free && env.scope.kind == .function && env.kindOf n == some .cell) = true
   · rw [if_pos hc]
     exact .inl (by simp only [List.lookup_cons,hx])
   · rw [if_neg hc]
     simp only [List.lookup_cons,hx];exact h
  | false =>
   simp only [List.lookup_cons,hx] at h
   by_cases hc : (k == NameKind.free && env.scope.kind == .function && env.kindOf n == some .cell) = true
   · rw [if_pos hc]; simp only [List.lookup_cons,hx]; exact ih h
   · rw [if_neg hc]; simp only [List.lookup_cons,hx]; exact ih h
theorem CompSc.mk5 {X0 : Cx} {scope0 scope : Scope} {N' : List Str} {C : Addr} {s₂ : Shared} {H₂ : Hp} {fp : List Addr} {tn cn : List Str} {js : List Nat} (hk : scope.kind = .function) (h : Q7 scope0.names N' scope.names cn js = true) : CompSc (Xi X0 scope0 N' C s₂ H₂ fp) scope tn cn js := by
 unfold Q7 at h;simp only [Bool.and_eq_true] at h;obtain ⟨⟨⟨⟨h1,h2⟩,h3⟩,h4⟩,h5⟩ := h;rw [List.all_eq_true] at h1 h2 h3 h4;have hlen : cn.length = js.length := by simpa using h5
 refine ⟨hk,fun y hy => ?_,fun y hy e => ?_,fun y hy e => ?_,fun k x e => ?_,hlen⟩
 · have := h1 y hy
   simpa using this
 · have := h2 y hy
   simpa [e] using this
 · have := h3 y hy
   exact Zad (env:=X0.env) (by simpa [e] using this)
 · have hkl : k < cn.length := (List.getElem?_eq_some_iff.mp e).1
   have hkj : k < js.length := by omega
   refine ⟨js[k],by simp [hkj],?_⟩
   have hz : (x,js[k]) ∈ cn.zip js := by
    have e2 : (cn.zip js)[k]? = some (x,js[k]) := by
     rw [List.getElem?_zip_eq_some];exact ⟨e,by simp [hkj]⟩
    exact List.mem_of_getElem? e2
   have := h4 _ hz;simp only [Bool.and_eq_true,Bool.or_eq_true,beq_iff_eq] at this;exact ⟨this.1.1,Zad (env:=X0.env) this.1.2,this.2⟩
end L2
namespace DL
open PySem PySem.Spec L2
section
variable {G : Cn} {ow owN owB owC ow1 : List Nat}
end
section
variable {cA : Kn} {G : Cn} {ow owN owB owC ow1 : List Nat} {i : Nat}
theorem MR.turn3 {H0 H H' : Hp} {av : Addr -> Prop} {A : Nat -> Option Addr} {σ : L2.St} {δ : Env} {a : Addr} {bs bs' : List Addr} {rows rows' : List (List D)} (ni : i ∉ ow) (nn : PinOk G i σ) (havd : ∀ x,av x -> H0 x ≠ none) (hd : δ[i]? = some (some (mat rows))) (M : Mx H a bs rows) (h0 : ∀ x ∈ a :: bs,H0 x = none) (E : ER (G.keep i (.ref a)) ow (ovl H0 H (a :: bs)) (avF av (a :: bs)) A σ H (δ.set i none))
 (M' : Mx H' a bs' rows') (hb' : ∀ x ∈ bs',x ∈ a :: bs \/ H x = none) (hk : ∀ x o,x ∉ a :: bs -> H x = some o -> H' x = some o) : MR G ow i H0 av A σ H' (δ.set i (some (mat rows'))) := by
 have hil : i < δ.length := (List.getElem?_eq_some_iff.mp hd).1
 have nF : ∀ j x,A j = some x -> x ∉ a :: bs := fun j x e z => by
  have := E.fr j x e;rw [Yw z] at this;obtain ⟨vs,q⟩ := M.there z;rw [q] at this; cases this
 have hF : ∀ x ∈ a :: bs',x ∈ a :: bs \/ H x = none := fun x hx => by
  rcases List.mem_cons.mp hx with rfl | z
  · exact .inl List.mem_cons_self
  · exact hb' x z
 have sub0 : ∀ x o,H0 x = some o -> H x = some o := fun x o e => by
  have nx : x ∉ a :: bs := fun z => by rw [h0 x z] at e; cases e
  exact E.same x o (by rw [Z7 nx]; exact e)
 have h0' : ∀ x ∈ a :: bs',H0 x = none := fun x hx => by
  rcases hF x hx with z | z
  · exact h0 x z
  · cases q : H0 x with
    | none => rfl
    | some o => rw [sub0 x o q] at z; cases z
 have nF' : ∀ j x,A j = some x -> x ∉ a :: bs' := fun j x e z => by
  rcases hF x z with z | z
  · exact nF j x e z
  · exact E.live j x e z
 refine ⟨ni,nn,havd,a,bs',rows',List.getElem?_set_self hil,M',h0',?_⟩;have e1 : (δ.set i (some (mat rows'))).set i none = δ.set i none := List.set_set ..;rw [e1]
 have wide : ∀ b,AV (fun x => av x \/ x ∈ a :: bs \/ x ∈ a :: bs') A b -> AV (avF av (a :: bs)) A b \/ H b = none := fun b z => by
  rcases z with (z | z | z) | z
  · exact .inl (.inl (.inl z))
  · exact .inl (.inl (.inr z))
  · rcases hF b z with z | z
    · exact .inl (.inl (.inr z))
    · exact .inr z
  · exact .inl (.inr z)
 have ex : ∀ b o,¬ AV (fun x => av x \/ x ∈ a :: bs \/ x ∈ a :: bs') A b -> H b = some o -> H' b = some o := fun b o n e => hk b o (fun z => n (.inl (.inr (.inl z)))) e
 have less : ∀ b,AV (avF av (a :: bs')) A b -> AV (fun x => av x \/ x ∈ a :: bs \/ x ∈ a :: bs') A b := fun b z => by
  rcases z with (z | z) | z
  · exact .inl (.inl z)
  · exact .inl (.inr (.inr z))
  · exact .inr z
 refine ⟨fun b o e => ?_,fun x z => ?_,fun j x e => ?_,E.inj,fun j x e => ?_,E.dom,E.dom',E.len,E.pin,E.kept,fun j d e => ?_⟩
 · by_cases h : b ∈ a :: bs'
   · rw [Yw h] at e; exact e
   · rw [Z7 h] at e
     have nb : b ∉ a :: bs := fun z => by rw [h0 b z] at e; cases e
     exact hk b o nb (sub0 b o e)
 · by_cases h : x ∈ a :: bs'
   · rw [Yw h]
     obtain ⟨vs,q⟩ := M'.there h;rw [q]; exact fun z => by cases z
   · rw [Z7 h]
     exact havd x (z.resolve_right h)
 · have := E.fr j x e
   rw [Z7 (nF j x e)] at this;rw [Z7 (nF' j x e)];exact this
 · have := E.live j x e
   cases q : H x with
   | none => exact absurd q this
   | some o => rw [hk x o (nF j x e) q]; exact fun z => by cases z
 · obtain ⟨v,h1,h2,h3⟩ := E.var j d e
   refine ⟨v,h1,fun z => (((h2 z).av wide).ext ex).av fun b z => .inl (less b z),fun b z => ?_⟩;obtain ⟨r1,r2⟩ := h3 b z;refine ⟨r1,?_⟩;cases d with
   | lst xs => obtain ⟨vs,q1,q2⟩ := r2; exact ⟨vs,hk _ _ (nF j b z) q1,((q2.av wide).ext ex).av fun b z => .inl (less b z)⟩
   | obj c ks xs => obtain ⟨dx,vs,q1,q0,q2⟩ := r2; exact ⟨dx,vs,hk _ _ (nF j b z) q1,q0,((q2.av wide).ext ex).av fun b z => .inl (less b z)⟩
   | dct ks xs => obtain ⟨vs,q1,q0,q2⟩ := r2; exact ⟨vs,hk _ _ (nF j b z) q1,q0,((q2.av wide).ext ex).av fun b z => .inl (less b z)⟩
   | dtt ks xs => obtain ⟨vs,q1,q0,q2⟩ := r2; exact ⟨vs,hk _ _ (nF j b z) q1,q0,((q2.av wide).ext ex).av fun b z => .inl (less b z)⟩
   | _ => exact r2
def spU (cA : Kn) (n : Nat) (m : List D -> Option D) : Sp := fun vs H Q _ => ∃ (av : Addr -> Prop) (a : Addr) (bs : List Addr) (rows : List (List D)) (r : List V) (ds : List D) (d' : D),vs = .ref a :: r /\ (∀ x,av x -> H x ≠ none) /\ (∀ x ∈ a :: bs,¬ av x) /\ Mx H a bs rows /\ RepL cA (avF av (a :: bs)) H ds r /\ (mat rows :: ds).length = n /\ m (mat rows :: ds) = some d' /\
 ∀ bs' rows' H',(∀ x o,x ∉ a :: bs -> H x = some o -> H' x = some o) -> (∀ x ∈ bs',x ∈ a :: bs \/ H x = none) -> Mx H' a bs' rows' -> d' = mat rows' -> Q .non H'
def Uy (i n : Nat) (m : List D -> Option D) (α : Env -> Option (List D)) (δ : Env) : Option Out := match Za i δ,α (δ.set i none) with
 | some d,some ds => if (d :: ds).length = n then (match m (d :: ds) with
  | some d' => some (.nx (δ.set i (some d')))
  | none => none) else none
 | _,_ => none
theorem ZeU {n : Nat} {m : List D -> Option D} {t : TA} {α : Env -> Option (List D)} {E0 : XK} (h : ∀ v,VA (G.keep i v) ow t .cl α) : VM G ow ow owB owC i (Ug (UM (spU G.1 n m) [] E0 (YT (YO i) t))) (Uy i n m α) := fun H0 av A σ H δ R o e De k => by
 obtain ⟨a,bs,rows,hd,M,h0,E⟩ := R.ex;unfold Uy at e;have ev : Za i δ = some (mat rows) := by unfold Za; rw [hd]
 rw [ev] at e;cases he : α (δ.set i none) with
 | none => rw [he] at e; cases e
 | some ds =>
  rw [he] at e;dsimp only at e
  by_cases hz : (mat rows :: ds).length = n
  · rw [if_pos hz] at e
    cases hm : m (mat rows :: ds) with
    | none => rw [hm] at e; cases e
    | some d' =>
     rw [hm] at e;cases e;refine ⟨.ref a,E.kept i _ Vt,h (.ref a) _ _ A σ H _ E ds he _ fun vs H1 s1 r1 => ?_⟩;have R1 := R.mono s1;have M1 := M.mono s1;have E1 : ER (G.keep i (.ref a)) ow (ovl H0 H1 (a :: bs)) (avF av (a :: bs)) A σ H1 (δ.set i none) := by rw [Jt M s1]; exact E.mono s1
     have nF : ∀ j x,A j = some x -> x ∉ a :: bs := fun j x e z => by
      have := E.fr j x e;rw [Yw z] at this;obtain ⟨vs,q⟩ := M.there z;rw [q] at this; cases this
     refine ⟨AV av A,a,bs,rows,vs,ds,d',by simp,R1.view.avl,fun x hx z => ?_,M1,?_,hz,hm,fun bs' rows' H' hk hb M' hd' => ?_⟩
     · rcases z with z | ⟨j,z⟩
       · exact R.avd x z (h0 x hx)
       · exact nF j x z hx
     · refine r1.cl.av fun b z => .inl ?_
       rcases z with (z | z) | z
       · exact .inl (.inl z)
       · exact .inr z
       · exact .inl (.inr z)
     · subst hd'
       exact k A σ H' (MR.turn3 R.ni R.nn R.avd hd M1 h0 E1 M' hb hk)
  · rw [if_neg hz] at e; cases e
end
section
variable {P : Program} {w : World} {K : PySem.W.Frag} {mg : Str -> Option Value} {base : Heap} {cA : Kn}
open Classical in
theorem ZeV {N : List Str} {ds : List D} {r : List V} {av : Addr -> Prop} {H : Hp} {a : Addr} {bs : List Addr} {rows : List (List D)} (ha : ∀ x,av x -> H x ≠ none) (hn : ∀ x ∈ a :: bs,¬ av x) (M : Mx H a bs rows) (l : RepL cA (avF av (a :: bs)) H ds r) :
 MR ⟨cA,fun j => if j = 0 then some (.inr (.ref a)) else none⟩ [] 0 (fun x => if x ∈ a :: bs then none else H x) av (fun _ => none) (L2.start N (.ref a :: r)) H ((mat rows :: ds).map some ++ List.replicate (N.length - (mat rows :: ds).length) none) := by
 have s0 : (L2.start N (.ref a :: r))[0]? = some (some (.ref a)) := by simp [L2.start]
 refine ⟨by simp,fun z e => ⟨.ref a,by simpa using e.symm,s0⟩,fun x z => ?_,a,bs,rows,by simp,M,fun x hx => if_pos hx,?_⟩
 · rw [if_neg (fun h => hn x h z)]
   exact ha x z
 · have eo : ovl (fun x => if x ∈ a :: bs then none else H x) H (a :: bs) = H := by
    funext x
    by_cases h : x ∈ a :: bs
    · rw [Yw h]
    · rw [Z7 h]; exact if_neg h
   rw [eo];refine ⟨Same.refl H,fun x z => ?_,fun _ _ z => (by cases z),fun _ _ _ z => (by cases z),fun _ _ z => (by cases z),fun _ z => absurd rfl z,fun _ z => (by cases z),?_,fun j x e => ?_,fun j v e => ?_,fun j d e => ?_⟩
   · rcases z with z | z
     · exact ha x z
     · obtain ⟨vs,q⟩ := M.there z
       rw [q]; exact fun z => by cases z
   · unfold L2.start
     rw [List.length_set,List.length_append,List.length_append,List.length_map,List.length_map,List.length_replicate,List.length_replicate,List.length_cons,List.length_cons,l.length]
   · by_cases q : j = 0
     · simp [q] at e
     · simp [q] at e
   · by_cases q : j = 0
     · subst q
       simp at e;rw [<- e];exact s0
     · simp [q] at e
   · by_cases q : j = 0
     · subst q
       rw [List.getElem?_set_self (by simp)] at e;cases e
     · rw [List.getElem?_set_ne (Ne.symm q)] at e
       obtain ⟨j,rfl⟩ : ∃ j',j = j' + 1 := ⟨j - 1,by omega⟩
       have e2 : (ds.map some ++ List.replicate (N.length - (ds.length + 1)) none)[j]? = some (some d) := by simpa using e
       by_cases hj : j < ds.length
       · rw [List.getElem?_append_left (by simpa using hj),List.getElem?_map] at e2
         cases hdj : ds[j]? with
         | none => rw [hdj] at e2; cases e2
         | some z =>
          rw [hdj] at e2;cases e2;obtain ⟨v,hv',rv⟩ := l.get hdj;refine ⟨v,?_,fun _ => rv.av fun b z => ?_,fun a z => by cases z⟩
          · unfold L2.start
            have : j + 1 < (V.ref a :: r).length := by rw [List.length_cons,<- l.length]; omega
            rw [List.getElem?_append_left (by simpa using this),List.getElem?_map];simp [hv']
          · rcases z with z | ⟨_,z⟩
            · exact .inl z
            · cases z
       · rw [List.getElem?_append_right (by simpa using hj),List.getElem?_replicate] at e2
         split at e2 <;> cases e2
theorem Zjh {x qual : Str} {st : Stmt} {f : Addr} {fd : FuncData} {N ps : List Str} {k : Nat} {φ : Env -> Option Out} {body : List Stmt} {scope : Scope} {n : Nat} {m : List D -> Option D} (F : FunX K x qual st f fd) (S : FnScope N ps (defScope st)) (hS : defScope st = scope) (hB : defBody st = body)
 (hbody : ∀ (cdv : Value) (A : Around) (outer : List PySem.Env) (s : Shared) (H : Hp) (E : XK) (a : Addr),Room k (A.deeper (PyProof.Rows.envOfC qual scope s.heap.objs.size f cdv)) ->
   ∃ t,PSs (Yu CX0 P w K mg base N qual scope f cdv A outer s H E).nox body t /\ ∃ owN,VM ⟨cA,fun j => if j = 0 then some (.inr (.ref a)) else none⟩ [] owN [] [] 0 t φ) (hm : m = runI N.length φ) (hn : ps.length = n) : FnOk P w K mg base CX0 (k + 1) f fd ps (spU cA n m) := by
 subst hS hB hm hn;refine F.ok S (fun vs H Q E h => ?_) fun cdv A outer s H vs Q E hr h => ?_
 · obtain ⟨av,a,bs,rows,r,ds,d',rfl,_,_,_,l,hl,_⟩ := h
   rw [<- hl,List.length_cons,List.length_cons,l.length]
 · obtain ⟨av,a,bs,rows,r,ds,d',rfl,ha,hna,M,l,hl,hm,q⟩ := h
   obtain ⟨t,ht,owN,hv⟩ := hbody cdv A outer s H E a hr;refine ⟨t,ht,?_⟩;unfold runI at hm;cases hφ : φ ((mat rows :: ds).map some ++ List.replicate (N.length - (mat rows :: ds).length) none) with
   | none => rw [hφ] at hm; cases hm
   | some o =>
    rw [hφ] at hm;cases o <;> first | (cases hm; done) | skip
    rename_i δ';have hm : Za 0 δ' = some d' := hm;refine hv _ av _ _ H _ (ZeV ha hna M l) _ hφ _ fun A' σ' H' R' => ?_
    obtain ⟨a',bs',rows',hd',M',h0',E'⟩ := R'.ex
    have ea : a' = a := by
     obtain ⟨v,h1,h2⟩ := R'.nn (.inr (.ref a)) rfl;cases h1;have h3 := E'.kept 0 _ Vt;rw [h2] at h3;cases h3;rfl
    subst ea
    have ed : d' = mat rows' := by
     have := YL hm;rw [hd'] at this;cases this;rfl
    have sv := R'.view.same;refine q bs' rows' H' (fun x o hx e => sv x o ?_) (fun x hx => ?_) M' ed
    · show (if x ∈ a' :: bs then none else H x) = some o
      rw [if_neg hx];exact e
    · by_cases hxF : x ∈ a' :: bs
      · exact .inl hxF
      · have := h0' x (List.mem_cons_of_mem _ hx)
        have this : (if x ∈ a' :: bs then none else H x) = none := this;rw [if_neg hxF] at this;exact .inr this
end
end DL
namespace DL
open PySem PySem.Spec L2
theorem U7 (i j : Int) : eqD (.int i) (.int j) = some (.bl (decide (i = j))) := by
 show (if (Zy (.int i) && Zy (.int j) && scal (V.int i) (V.int j)) = true then some (D.bl (decide (V.int i = V.int j))) else _) = _;rw [if_pos (by rfl)];simp
theorem ZbC (a b : List Nat) : eqD (.str a) (.str b) = some (.bl (decide (a = b))) := by
 show (if (Zy (.str a) && Zy (.str b) && scal (S a) (S b)) = true then some (D.bl (decide (S a = S b))) else _) = _;rw [if_pos (by rfl)];simp only [Zi6]
theorem ZdE (a b : Bool) : eqD (.bl a) (.bl b) = some (.bl (decide (a = b))) := by
 show (if (Zy (.bl a) && Zy (.bl b) && scal (V.bl a) (V.bl b)) = true then some (D.bl (decide (V.bl a = V.bl b))) else _) = _;rw [if_pos (by rfl)];simp
theorem Zc3 : eqD .non .non = some (.bl true) := rfl
theorem Zc4 (i : Int) : eqD .non (.int i) = some (.bl false) := by
 show (if (Zy .non && Zy (.int i) && scal V.non (V.int i)) = true then some (D.bl (decide (V.non = V.int i))) else _) = _;rw [if_pos (by rfl)];simp
theorem Zc5 (i : Int) : eqD (.int i) .non = some (.bl false) := by
 show (if (Zy (.int i) && Zy .non && scal (V.int i) V.non) = true then some (D.bl (decide (V.int i = V.non))) else _) = _;rw [if_pos (by rfl)];simp
theorem ZbD (i j : Int) : neD (.int i) (.int j) = some (.bl (!decide (i = j))) := by unfold neD; rw [U7]
theorem ZdF (i j : List Nat) : neD (.str i) (.str j) = some (.bl (!decide (i = j))) := by unfold neD; rw [ZbC]
theorem Zfx : neD .non .non = some (.bl false) := by unfold neD; rw [Zc3]; rfl
theorem Zfy (i : Int) : neD .non (.int i) = some (.bl true) := by unfold neD; rw [Zc4]; rfl
theorem Zfz (i : Int) : neD (.int i) .non = some (.bl true) := by unfold neD; rw [Zc5]; rfl
theorem Zia {α : Type} {xs : List α} {i : Int} (h0 : 0 <= i) (h1 : i < xs.length) : ∃ x,atI xs i = some x /\ xs[i.toNat]? = some x := by
 have hj : i.toNat < xs.length := by omega
 refine ⟨xs[i.toNat],?_,by simp [hj]⟩;have := Qt (xs:=xs) (j:=i.toNat) (v:=xs[i.toNat]) (by simp [hj])
 rwa [Int.toNat_of_nonneg h0] at this
theorem Ua {γ : D -> Env -> Option Env} {φ : Env -> Option Out} (I : Nat -> Env -> Prop) : ∀ (xs : List D) (k : Nat) (δ : Env),I k δ ->
 (∀ (j : Nat) x δ,xs[j]? = some x -> I (k + j) δ -> ∃ δ1,γ x δ = some δ1 /\ ∃ δ2,φ δ1 = some (.nx δ2) /\ I (k + j + 1) δ2) -> ∃ δ',ZW γ φ xs δ = some (.nx δ') /\ I (k + xs.length) δ'
 | [],k,δ,h,_ => ⟨δ,rfl,h⟩
 | x :: xs,k,δ,h,step => by
  obtain ⟨δ1,h1,δ2,h2,h3⟩ := step 0 x δ rfl h
  obtain ⟨δ',h4,h5⟩ := Ua I xs (k + 1) δ2 h3 fun j y δ hy hI => by
   have := step (j + 1) y δ (by simpa using hy) (by rwa [show k + (j + 1) = k + 1 + j by omega])
   rwa [show k + (j + 1) + 1 = k + 1 + j + 1 by omega] at this
  refine ⟨δ',?_,by rwa [List.length_cons,show k + (xs.length + 1) = k + 1 + xs.length by omega]⟩;unfold ZW;rw [h1];dsimp only;rw [h2];exact h4
theorem Zbf {γ : D -> Env -> Option Env} {ε : Env -> Option D} {δ0 : Env} (f : D -> D) : ∀ (xs : List D),(∀ x ∈ xs,∃ δ1,γ x δ0 = some δ1 /\ ε δ1 = some (f x)) -> Z6 γ (fun _ => some true) ε δ0 xs = some (xs.map f)
 | [],_ => rfl
 | x :: xs,h => by
  obtain ⟨δ1,h1,h2⟩ := h x List.mem_cons_self;have ih := Zbf f xs fun y hy => h y (List.mem_cons_of_mem _ hy)
  unfold Z6;rw [h1];dsimp only;rw [h2,ih];rfl
theorem Zaj {γ : D -> Env -> Option Env} {τ : Env -> Option Bool} {ε : Env -> Option D} {δ0 : Env} (p : D -> Bool) (f : D -> D) : ∀ (xs : List D),(∀ x ∈ xs,∃ δ1,γ x δ0 = some δ1 /\ τ δ1 = some (p x) /\ (p x = true -> ε δ1 = some (f x))) -> Z6 γ τ ε δ0 xs = some ((xs.filter p).map f)
 | [],_ => rfl
 | x :: xs,h => by
  obtain ⟨δ1,h1,h2,h3⟩ := h x List.mem_cons_self;have ih := Zaj p f xs fun y hy => h y (List.mem_cons_of_mem _ hy)
  unfold Z6;rw [h1];dsimp only;rw [h2];cases hp : p x with
  | false => rw [List.filter_cons_of_neg (by simp [hp])]; exact ih
  | true =>
   rw [List.filter_cons_of_pos hp];dsimp only;rw [h3 hp,ih];rfl
theorem ZeW {lo c : Int} {n i : Nat} {x : D} (h : (ZG lo c n)[i]? = some x) : i < n /\ x = .int (lo + (i : Nat) * c) := by
 have hi : i < n := by have := (List.getElem?_eq_some_iff.mp h).1; simpa [ZG] using this
 unfold ZG at h;rw [List.getElem?_map,List.getElem?_range hi] at h;exact ⟨hi,(Option.some.inj h).symm⟩
end DL
namespace DL
open PySem PySem.Spec L2
theorem Zbg {α : Type} (g : α -> Nat) : ∀ xs : List α,strs? (xs.map fun x => D.str [g x]) = some (xs.map fun x => [g x])
 | [] => rfl
 | x :: xs => by rw [List.map_cons,strs?,Zbg g xs,List.map_cons]
theorem Zbh {α : Type} (g : α -> Nat) (xs : List α) (h : xs.length <= sizeLine) : joinD [] [.lst (xs.map fun x => D.str [g x])] = some (.str (xs.map g)) := by
 unfold joinD;dsimp only;rw [Zbg];dsimp only
 have e1 : ((xs.map fun x => [g x]).map List.length).sum = xs.length := by
  clear h
  induction xs with
  | nil => rfl
  | cons x xs ih =>
   rw [List.map_cons,List.map_cons,List.sum_cons,ih];simp;omega
 rw [if_pos (by rw [e1]; simpa using h),Za8]
 congr 2
 clear h e1
 induction xs with
 | nil => rfl
 | cons x xs ih => rw [List.map_cons,List.flatten_cons,ih]; rfl
end DL
namespace DL
open PySem PySem.Spec L2
theorem ZdG {cs : List Nat} {i : Int} {c : Nat} (h : cs.length <= sizeLine) (hz : atI cs i = some c) : ixD (.str cs) (.int i) = some (.str [c]) := by
 show (if cs.length <= sizeLine then (atI cs i).map fun c => D.str [c] else none) = _;rw [if_pos h,hz];rfl
end DL
namespace DL
open PySem PySem.Spec L2
theorem Zr {a b : Env -> Option Out} {δ δ' : Env} (h : a δ = some (.nx δ')) : Zf a b δ = b δ' := by
 unfold Zf; rw [h]
theorem ZI {i : Nat} {e : Env -> Option D} {δ : Env} {d : D} (h : e δ = some d) : Zh i e δ = some (.nx (δ.set i (some d))) := by
 unfold Zh; rw [h]
theorem Yo {e : Env -> Option D} {δ : Env} {d : D} (h : e δ = some d) : Zv e δ = some (.rt d) := by
 unfold Zv; rw [h]
theorem Uz {t : Env -> Option Bool} {a b : Env -> Option Out} {δ : Env} (h : t δ = some true) : sIf t a b δ = a δ := by
 unfold sIf; rw [h]
theorem YH {t : Env -> Option Bool} {a b : Env -> Option Out} {δ : Env} (h : t δ = some false) : sIf t a b δ = b δ := by
 unfold sIf; rw [h]
theorem ZU {e : Env -> Option D} {δ : Env} {b : Bool} (h : e δ = some (.bl b)) : xB e δ = some b := by
 unfold xB; rw [h]; rfl
theorem ZbE {t : Env -> Option Bool} {δ : Env} {b : Bool} (h : t δ = some b) : Xl t δ = some (!b) := by
 unfold Xl; rw [h]
theorem Zib {a b : Env -> Option Bool} {δ : Env} {x : Bool} (h1 : a δ = some false) (h2 : b δ = some x) : xOr a b δ = some x := by
 unfold xOr; rw [h1]; exact h2
theorem ZaS {a b : Env -> Option Bool} {δ : Env} {x : Bool} (h1 : a δ = some true) (h2 : b δ = some x) : Xu a b δ = some x := by
 unfold Xu; rw [h1]; exact h2
theorem ZdH {a b : Env -> Option Bool} {δ : Env} (h1 : a δ = some false) : Xu a b δ = some false := by
 unfold Xu; rw [h1]
theorem Z8 {n : Nat} {m : List D -> Option D} {α : Env -> Option (List D)} {δ : Env} {ds : List D} (h : α δ = some ds) (hn : ds.length = n) : Zp n m [] α δ = m ds := by
 unfold Zp;rw [h];dsimp only;rw [List.append_nil,if_pos hn]
theorem Zj {a : Env -> Option D} {b : Env -> Option (List D)} {δ : Env} {x : D} {xs : List D} (h1 : a δ = some x) (h2 : b δ = some xs) : Zb a b δ = some (x :: xs) := by
 unfold Zb; rw [h1,h2]
theorem Zn {f : D -> D -> Option D} {a b : Env -> Option D} {δ : Env} {x y : D} (h1 : a δ = some x) (h2 : b δ = some y) : eOp f a b δ = f x y := by
 unfold eOp; rw [h1,h2]
theorem ZdI {a b : Env -> Option D} {δ : Env} {x : D} (h1 : a δ = some (.bl true)) (h2 : b δ = some x) : Up a b δ = some x := by
 unfold Up; rw [h1]; exact h2
theorem Zc6 {α : Env -> Option (List D)} {δ : Env} {ds : List D} (h : α δ = some ds) (hl : ds.length <= 1000) : ZK α δ = (some (.lst ds) : Option D) := by
 unfold ZK; rw [h];exact if_pos (Nat.le_trans hl (by decide))
theorem Jv {γ : D -> Env -> Option Env} {φ : Env -> Option Out} (I : Env -> Prop) : ∀ (xs : List D) (δ : Env),I δ ->
 (∀ x ∈ xs,∀ δ,I δ -> ∃ δ1,γ x δ = some δ1 /\ ∃ δ2,φ δ1 = some (.nx δ2) /\ I δ2) -> ∃ δ',ZW γ φ xs δ = some (.nx δ') /\ I δ'
 | [],δ,h,_ => ⟨δ,rfl,h⟩
 | x :: xs,δ,h,step => by
  obtain ⟨δ1,h1,δ2,h2,h3⟩ := step x List.mem_cons_self δ h;obtain ⟨δ',h4,h5⟩ := Jv I xs δ2 h3 fun y hy => step y (List.mem_cons_of_mem _ hy)
  refine ⟨δ',?_,h5⟩;unfold ZW;rw [h1];dsimp only;rw [h2];exact h4
theorem ZbF {lo c : Int} {n : Nat} {x : D} (h : x ∈ ZG lo c n) : ∃ k : Nat,k < n /\ x = .int (lo + (k : Nat) * c) := by
 unfold ZG at h;obtain ⟨k,hk,rfl⟩ := List.mem_map.mp h;exact ⟨k,List.mem_range.mp hk,rfl⟩
theorem ZeX {i j : Int} (h1 : j ≠ 0) (h2 : Wd j) : fdivW (.int i) (.int j) = some (.int (i.fdiv j)) := if_pos ⟨h1,h2⟩
theorem ZgJ {i j : Int} (h1 : j ≠ 0) : modW (.int i) (.int j) = some (.int (i.fmod j)) := if_pos h1
theorem ZgK {i j : Int} (h : Uh i j) : powW (.int i) (.int j) = some (.int (i ^ j.toNat)) := if_pos h
end DL
namespace DL
open PySem PySem.Spec L2
theorem XB {α : Env -> Option (List D)} {δ : Env} {j : Int} (h : α δ = some [.int j]) (h1 : -1000000 <= j) (h2 : j <= 1000000) : ZE α δ = some (ZG 0 1 j.toNat) := by
 unfold ZE;rw [h];dsimp only;rw [if_pos ⟨by omega,by omega⟩]
theorem ZfA {α : Env -> Option (List D)} {δ : Env} {i j : Int} (h : α δ = some [.int i,.int j]) (h1 : -1000000 <= j) (h2 : j <= 1000000) (h3 : -1000000 <= i) (h4 : i <= 1000000) : ZE α δ = some (ZG i 1 (j - i).toNat) := by
 unfold ZE;rw [h];dsimp only;rw [if_pos ⟨by omega,by omega,by omega,by omega⟩]
theorem Zc7 {i : Nat} {ε : Env -> Option D} {δ : Env} {xs : List D} {d : D} (h1 : Za i δ = some (.lst xs)) (h2 : ε δ = some d) (hl : xs.length <= 1000000) : Y6 i ε δ = some (.nx (δ.set i (some (.lst (xs ++ [d]))))) := by
 unfold Y6;rw [h1];dsimp only;rw [h2];dsimp only;rw [if_pos (by rw [PySem.sizeLine_eq]; omega)]
theorem U8 {n j : Nat} {x : D} (h : (ZG 0 1 n)[j]? = some x) : j < n /\ x = .int (j : Nat) := by
 have hj : j < n := by have := (List.getElem?_eq_some_iff.mp h).1; simpa [ZG] using this
 refine ⟨hj,?_⟩;unfold ZG at h;rw [List.getElem?_map,List.getElem?_range hj] at h;have := Option.some.inj h;rw [<- this];show D.int (0 + (j : Int) * 1) = _;rw [show (0 + (j : Int) * 1) = j by omega]
theorem U9 (lo c : Int) (n : Nat) : (ZG lo c n).length = n := by simp [ZG]
theorem YB {ι : Env -> Option (List D)} {γ : D -> Env -> Option Env} {φ : Env -> Option Out} {δ : Env} {xs : List D} {o : Out} (h1 : ι δ = some xs) (h2 : ZW γ φ xs δ = some o) : ZJ ι γ φ δ = some o := by
 unfold ZJ;rw [h1];exact h2
theorem XC {ι : Env -> Option (List D)} {γ : D -> Env -> Option Env} {τ : Env -> Option Bool} {ε : Env -> Option D} {n : Nat} {js : List Nat} {δ δ0 : Env} {xs ys : List D} (h1 : ι δ = some xs) (hb : XX n δ js = δ0) (h2 : Z6 γ τ ε δ0 xs = some ys) (hl : ys.length <= 1000000) : ZT ι γ τ ε n js δ = some (.lst ys) := by
 unfold ZT;rw [h1];dsimp only;rw [hb,h2];dsimp only;rw [if_pos (by rw [PySem.sizeLine_eq]; omega)]
theorem Qa {f : List Nat -> List D -> Option D} {a : Env -> Option D} {α : Env -> Option (List D)} {δ : Env} {s : List Nat} {ds : List D} (h1 : a δ = some (.str s)) (h2 : α δ = some ds) : eBM f a α δ = f s ds := by
 unfold eBM;rw [h1,h2]
theorem Yt {f : List D -> Option D} {α : Env -> Option (List D)} {δ : Env} {ds : List D} (h : α δ = some ds) : eCB f α δ = f ds := by
 unfold eCB;rw [h]
theorem Yj {n : Nat} {f : Env -> Option Out} {vs : List D} {δ : Env} {d : D} (h1 : (vs.map some ++ List.replicate (n - vs.length) none) = δ) (h2 : f δ = some (.rt d)) : DL.run n f vs = some d := by
 unfold DL.run;rw [h1,h2]
theorem nil_of {δ : Env} : eNil δ = some [] := rfl
end DL
namespace DL
open PySem PySem.Spec L2
def Zji (w : List Nat) : Prop := ∀ c ∈ w,c < 1114112
end DL
namespace DL
open PySem PySem.Spec L2
theorem add_int (i j : Int) : addX (.int i) (.int j) = some (.int (i + j)) := rfl
theorem add_str {a b : List Nat} (h : a.length + b.length <= 100000) : addX (.str a) (.str b) = some (.str (a ++ b)) := by
 show (if a.length + b.length <= PySem.sizeLine then some (D.str (a ++ b)) else none) = _;rw [if_pos (by rw [PySem.sizeLine_eq]; omega)]
theorem Jw {i j : Int} (h1 : -1000 <= j) (h2 : j <= 1000) : mulX (.int i) (.int j) = some (.int (i * j)) := if_pos (.inr (.inr ⟨by omega,by omega⟩))
theorem ZgL {a : List D} {n : Nat} (h : a.length * n <= 100000) (hn : n <= 100000) : mulX (.lst a) (.int (n : Int)) = some (.lst (List.replicate n a).flatten) := by
 unfold mulX;dsimp only;rw [Int.toNat_natCast,if_pos ⟨by omega,by omega,by rw [PySem.sizeLine_eq]; omega⟩]
theorem ZbG {n a : Nat} (h : a < n) : ixN n (a : Int) = some a := by
 unfold ixN;rw [if_pos (by omega),if_pos (by omega),Int.toNat_natCast]
theorem XR {xs : List D} {a : Nat} {x : D} (h : xs[a]? = some x) : ixD (.lst xs) (.int (a : Int)) = some x := Qt h
theorem ix_tup {xs : List D} {a : Nat} {x : D} (h : xs[a]? = some x) : ixD (.tup xs) (.int (a : Int)) = some x := Qt h
theorem ix_str {cs : List Nat} {a : Nat} {c : Nat} (h : cs[a]? = some c) (hl : cs.length <= 100000) : ixD (.str cs) (.int (a : Int)) = some (.str [c]) := ZdG (by rw [PySem.sizeLine_eq]; omega) (Qt h)
theorem XD {cs : List Int} {a : Nat} (h : a < cs.length) : ixD (.lst (cs.map D.int)) (.int (a : Int)) = some (.int (cs.getD a 0)) := by
 refine XR ?_;rw [List.getElem?_map,List.getElem?_eq_getElem h,List.getD_eq_getElem?_getD,List.getElem?_eq_getElem h];rfl
theorem Zc8 {i : Int} (h : 0 <= i) : ∃ a : Nat,i = (a : Int) := ⟨i.toNat,(Int.toNat_of_nonneg h).symm⟩
theorem XE (i : Int) {m : Nat} (h : 0 < m) : ∃ a : Nat,i % (m : Int) = (a : Int) /\ a < m := by
 obtain ⟨a,ha⟩ := Zc8 (Int.emod_nonneg i (show (m : Int) ≠ 0 by omega));exact ⟨a,ha,by have := Int.emod_lt_of_pos i (b:=(m : Int)) (by omega); omega⟩
theorem len_str {cs : List Nat} (h : cs.length <= 100000) : lenD [.str cs] = some (.int (cs.length : Int)) := if_pos (by rw [PySem.sizeLine_eq]; omega)
theorem Jx {xs : List D} : lenD [.lst xs] = some (.int (xs.length : Int)) := rfl
theorem ZgM {xs : List D} : lenD [.tup xs] = some (.int (xs.length : Int)) := rfl
theorem Zen {c : Nat} {ms : List Nat} (h : c ∈ ms) : ∃ i : Nat,Xh c ms = (i : Int) /\ ms[i]? = some c /\ i < ms.length := by
 unfold Xh;cases e : ms.findIdx? (· == c) with
 | none =>
  have := List.findIdx?_eq_none_iff.mp e c h;simp at this
 | some i =>
  obtain ⟨h1,h2,_⟩ := List.findIdx?_eq_some_iff_getElem.mp e;refine ⟨i,rfl,?_,h1⟩;rw [List.getElem?_eq_getElem h1]
  congr 1
  simpa using h2
theorem ZgN {c : String} {n : Nat} {m : List D -> Option D} {α : Env -> Option (List D)} {δ : Env} {ds : List D} (h : α δ = some ds) (hn : ds.length + 1 = n) : V4 c n m [] α δ = m (.obj c [] [] :: ds) := by
 unfold V4;rw [h];dsimp only;rw [List.append_nil,if_pos (by rw [List.length_cons]; exact hn)]
end DL
namespace K22
open PySem PySem.Spec L2 DL
def YC : List String := ["Rooms"]
def ZfB : List String := []
def Xo : List String := ["Rooms"]
def ie_NoRow : List (String × Bool) := [("BadMark",false),("NoRow",true)]
def ie_ValueError : List (String × Bool) := [("BadMark",true),("NoRow",true)]
def ie_BadMark : List (String × Bool) := [("BadMark",true),("NoRow",false)]
def ie_BadMarks : List (String × Bool) := [("BadMark",false),("NoRow",false)]
def ie_BadRow : List (String × Bool) := [("BadMark",false),("NoRow",false)]
def ie_BadRule : List (String × Bool) := [("BadMark",false),("NoRow",false)]
def ie_BadSign : List (String × Bool) := [("BadMark",false),("NoRow",false)]
def ie_BadTable : List (String × Bool) := [("BadMark",false),("NoRow",false)]
def ie_Nothing : List (String × Bool) := [("BadMark",false),("NoRow",false)]
def ie_TooLarge : List (String × Bool) := [("BadMark",false),("NoRow",false)]
def ie_Unread : List (String × Bool) := [("BadMark",false),("NoRow",false)]
noncomputable def f_QC : DL.Env -> Option Out :=
 (Zv (ZT (ZH (ZY Xo "ways" (Za 0))) (Zo 0) (fun _ => some true) (eCB sumLD (Zb (ZT (ZH (Za 0)) (Zo 0) (xB (YF (Za 0))) (eOp ixD (Za 1) (Za 0)) 1 [1]) eNil)) 1 [1]))
noncomputable def Jy : List D -> Option D := run 2 f_QC
noncomputable def f_QL : DL.Env -> Option Out :=
 (Zv (eCB lenD (Zb (ZY Xo "ways" (Za 0)) eNil)))
noncomputable def ZiR : List D -> Option D := run 1 f_QL
noncomputable def QL : MTab := [("Rooms",1,ZiR)]
noncomputable def f_QD : DL.Env -> Option Out :=
 (Zf (Zh 2 (ZK (Zb (eOp V9 (ZK (Zb (eC (.int 1)) eNil)) (Vq "many" QL (Za 0) eNil)) eNil)))
 (Zf (ZJ (ZE (Zb (Za 1) eNil)) (Zo 3) (Y6 2 (Zp 2 Jy [] (Zb (Za 0) (Zb (eOp ixD (Za 2) (Za 3)) eNil)))))
 (Zv (Za 2))))
noncomputable def XF : List D -> Option D := run 4 f_QD
noncomputable def f_QX : DL.Env -> Option Out :=
 (Zv (eOp ixD (eOp ixD (Zp 2 XF [] (Zb (Za 0) (Zb (Za 2) eNil))) (Za 2)) (Za 1)))
noncomputable def Jz : List D -> Option D := run 3 f_QX
noncomputable def f_QP : DL.Env -> Option Out :=
 (Zf (Zh 4 (eSl (eOp ixD (ZY Xo "ways" (Za 0)) (Za 1)) xNoP (xP (eBM indexD (ZY YC "marks" (Za 0)) (Zb (Za 2) eNil)))))
 (Zv (eCB sumLD (Zb (ZT (ZH (Za 4)) (Zo 0) (xB (YF (Za 0))) (eOp ixD (Za 1) (Za 0)) 1 [3]) eNil))))
noncomputable def Xb : List D -> Option D := run 5 f_QP
noncomputable def f_QU : DL.Env -> Option Out :=
 (Zv (eOp ixD (ZT (ZH (ZY YC "marks" (Za 0))) (Zo 0) (xB (eOp (Yg fun i j => decide (i <= j)) (Zp 4 Xb [] (Zb (Za 1) (Zb (Za 2) (Zb (Za 0) (Zb (Za 3) eNil))))) (Za 4))) (Za 0) 1 [0,1,3,2]) (eUn YG (eC (.int 1)))))
noncomputable def UA : List D -> Option D := run 4 f_QU
noncomputable def f_QV : DL.Env -> Option Out :=
 (Zv (Up (eOp eqD (eCB lenD (Zb (Za 1) eNil)) (eC (.int 1))) (eOp (inD false) (Za 1) (Za 0))))
noncomputable def Ub : List D -> Option D := run 2 f_QV
noncomputable def f_QR : DL.Env -> Option Out :=
 (Zf (sIf (Xl (xB (Zp 2 Ub [] (Zb (ZY YC "marks" (Za 0)) (Zb (Za 2) eNil))))) sNever sNext)
 (Zv (eOp ixD (eOp ixD (ZY Xo "ways" (Za 0)) (Za 1)) (eBM indexD (ZY YC "marks" (Za 0)) (Zb (Za 2) eNil)))))
noncomputable def ZiS : DL.Env -> Option String :=
 (ZN (xIf (Xl (xB (Zp 2 Ub [] (Zb (ZY YC "marks" (Za 0)) (Zb (Za 2) eNil))))) (Vr "BadMark" (Zb (U3 [(U2 V8 (Za 2)),(eC (.str [32,105,115,32,110,111,32,109,97,114,107]))]) eNil)) xNever) (sIf (Xl (xB (Zp 2 Ub [] (Zb (ZY YC "marks" (Za 0)) (Zb (Za 2) eNil))))) sNever sNext)
 xNever)
noncomputable def QM : List D -> Option String := QI 3 ZiS
noncomputable def ZiT : List D -> Option D := run 3 f_QR
noncomputable def Yd : XTab := [("Rooms",3,ZiT,QM)]
noncomputable def f_QW : DL.Env -> Option Out :=
 (Zf (Zh 4 (Zp 2 XF [] (Zb (Za 0) (Zb (Za 2) eNil))))
 (Zf (sIf (xOr (xB (eOp (Yg fun i j => decide (i < j)) (Za 3) (eC (.int 0)))) (xB (eOp (Yg fun i j => decide (j <= i)) (Za 3) (eOp ixD (eOp ixD (Za 4) (Za 2)) (Za 1))))) sNever sNext)
 (Zf (Zh 5 (ZK eNil))
 (Zf (ZJ (ZE (Zb (eOp subD (Za 2) (eC (.int 1))) (Zb (eUn YG (eC (.int 1))) (Zb (eUn YG (eC (.int 1))) eNil)))) (Zo 6) (Zf (Zh 7 (Zp 4 UA [] (Zb (Za 0) (Zb (Za 1) (Zb (Za 3) (Zb (eOp ixD (Za 4) (Za 6)) eNil))))))
 (Zf (Zh 3 (eOp subD (Za 3) (Zp 4 Xb [] (Zb (Za 0) (Zb (Za 1) (Zb (Za 7) (Zb (eOp ixD (Za 4) (Za 6)) eNil)))))))
 (Zf (Zh 1 (Yi "led" Yd (Za 0) (Zb (Za 1) (Zb (Za 7) eNil))))
 (Y6 5 (Za 7))))))
 (Zv (eBM joinD (eC (.str [])) (Zb (Za 5) eNil)))))))
noncomputable def g_QW : DL.Env -> Option String :=
 (ZN xNever (Zh 4 (Zp 2 XF [] (Zb (Za 0) (Zb (Za 2) eNil))))
 (ZN (xIf (xOr (xB (eOp (Yg fun i j => decide (i < j)) (Za 3) (eC (.int 0)))) (xB (eOp (Yg fun i j => decide (j <= i)) (Za 3) (eOp ixD (eOp ixD (Za 4) (Za 2)) (Za 1))))) (Vr "NoRow" (Zb (eC (.str [116,104,101,114,101,32,105,115,32,110,111,32,114,111,119,32,111,102,32,116,104,97,116,32,110,117,109,98,101,114])) eNil)) xNever) (sIf (xOr (xB (eOp (Yg fun i j => decide (i < j)) (Za 3) (eC (.int 0)))) (xB (eOp (Yg fun i j => decide (j <= i)) (Za 3) (eOp ixD (eOp ixD (Za 4) (Za 2)) (Za 1))))) sNever sNext)
 (ZN xNever (Zh 5 (ZK eNil))
 (ZN (XQ (ZE (Zb (eOp subD (Za 2) (eC (.int 1))) (Zb (eUn YG (eC (.int 1))) (Zb (eUn YG (eC (.int 1))) eNil)))) (Zo 6) (Zf (Zh 7 (Zp 4 UA [] (Zb (Za 0) (Zb (Za 1) (Zb (Za 3) (Zb (eOp ixD (Za 4) (Za 6)) eNil))))))
 (Zf (Zh 3 (eOp subD (Za 3) (Zp 4 Xb [] (Zb (Za 0) (Zb (Za 1) (Zb (Za 7) (Zb (eOp ixD (Za 4) (Za 6)) eNil)))))))
 (Zf (Zh 1 (Yi "led" Yd (Za 0) (Zb (Za 1) (Zb (Za 7) eNil))))
 (Y6 5 (Za 7))))) (ZN xNever (Zh 7 (Zp 4 UA [] (Zb (Za 0) (Zb (Za 1) (Zb (Za 3) (Zb (eOp ixD (Za 4) (Za 6)) eNil))))))
 (ZN xNever (Zh 3 (eOp subD (Za 3) (Zp 4 Xb [] (Zb (Za 0) (Zb (Za 1) (Zb (Za 7) (Zb (eOp ixD (Za 4) (Za 6)) eNil)))))))
 (ZN (Xz "led" Yd (Za 0) (Zb (Za 1) (Zb (Za 7) eNil))) (Zh 1 (Yi "led" Yd (Za 0) (Zb (Za 1) (Zb (Za 7) eNil))))
 xNever)))) (ZJ (ZE (Zb (eOp subD (Za 2) (eC (.int 1))) (Zb (eUn YG (eC (.int 1))) (Zb (eUn YG (eC (.int 1))) eNil)))) (Zo 6) (Zf (Zh 7 (Zp 4 UA [] (Zb (Za 0) (Zb (Za 1) (Zb (Za 3) (Zb (eOp ixD (Za 4) (Za 6)) eNil))))))
 (Zf (Zh 3 (eOp subD (Za 3) (Zp 4 Xb [] (Zb (Za 0) (Zb (Za 1) (Zb (Za 7) (Zb (eOp ixD (Za 4) (Za 6)) eNil)))))))
 (Zf (Zh 1 (Yi "led" Yd (Za 0) (Zb (Za 1) (Zb (Za 7) eNil))))
 (Y6 5 (Za 7))))))
 xNever))))
noncomputable def JA : List D -> Option String := QI 8 g_QW
noncomputable def Qb : List D -> Option D := run 8 f_QW
noncomputable def f_QE : DL.Env -> Option Out :=
 (Zf (ZJ (ZH (Za 2)) (Zo 3) (Zf (Zh 1 (Yi "led" Yd (Za 0) (Zb (Za 1) (Zb (Za 3) eNil))))
 (sIf (xB (Z2 (Za 1))) (Zv (eC .non)) sNext)))
 (Zv (Za 1)))
noncomputable def QN : DL.Env -> Option String :=
 (ZN (XQ (ZH (Za 2)) (Zo 3) (Zf (Zh 1 (Yi "led" Yd (Za 0) (Zb (Za 1) (Zb (Za 3) eNil))))
 (sIf (xB (Z2 (Za 1))) (Zv (eC .non)) sNext)) (ZN (Xz "led" Yd (Za 0) (Zb (Za 1) (Zb (Za 3) eNil))) (Zh 1 (Yi "led" Yd (Za 0) (Zb (Za 1) (Zb (Za 3) eNil))))
 xNever)) (ZJ (ZH (Za 2)) (Zo 3) (Zf (Zh 1 (Yi "led" Yd (Za 0) (Zb (Za 1) (Zb (Za 3) eNil))))
 (sIf (xB (Z2 (Za 1))) (Zv (eC .non)) sNext)))
 xNever)
noncomputable def JB : List D -> Option String := QI 4 QN
noncomputable def QO : List D -> Option D := run 4 f_QE
noncomputable def UB : XTab := [("Rooms",3,QO,JB)]
noncomputable def f_QQ : DL.Env -> Option Out :=
 (Zf (sIf (xB (Z2 (Yi "walked" UB (Za 0) (Zb (Za 1) (Zb (Za 2) eNil))))) sNever sNext)
 (Zf (Zh 3 (Zp 2 XF [] (Zb (Za 0) (Zb (eCB lenD (Zb (Za 2) eNil)) eNil))))
 (Zf (Zh 4 (eC (.int 0)))
 (Zf (ZJ (XM (Za 2)) (XJ 2 (Yv 5 (Yv 6 gsNil))) (Zf (Zh 4 (eOp addX (Za 4) (Zp 4 Xb [] (Zb (Za 0) (Zb (Za 1) (Zb (Za 6) (Zb (eOp ixD (Za 3) (eOp subD (eCB lenD (Zb (Za 2) eNil)) (Za 5))) eNil)))))))
 (Zh 1 (Yi "led" Yd (Za 0) (Zb (Za 1) (Zb (Za 6) eNil))))))
 (Zv (Za 4))))))
noncomputable def g_QQ : DL.Env -> Option String :=
 (ZN (Us (Xz "walked" UB (Za 0) (Zb (Za 1) (Zb (Za 2) eNil))) (xB (Z2 (Yi "walked" UB (Za 0) (Zb (Za 1) (Zb (Za 2) eNil))))) (Vr "NoRow" (Zb (eC (.str [116,104,101,32,114,111,119,32,99,97,110,39,116,32,98,101,32,119,97,108,107,101,100])) eNil)) xNever) (sIf (xB (Z2 (Yi "walked" UB (Za 0) (Zb (Za 1) (Zb (Za 2) eNil))))) sNever sNext)
 (ZN xNever (Zh 3 (Zp 2 XF [] (Zb (Za 0) (Zb (eCB lenD (Zb (Za 2) eNil)) eNil))))
 (ZN xNever (Zh 4 (eC (.int 0)))
 (ZN (XQ (XM (Za 2)) (XJ 2 (Yv 5 (Yv 6 gsNil))) (Zf (Zh 4 (eOp addX (Za 4) (Zp 4 Xb [] (Zb (Za 0) (Zb (Za 1) (Zb (Za 6) (Zb (eOp ixD (Za 3) (eOp subD (eCB lenD (Zb (Za 2) eNil)) (Za 5))) eNil)))))))
 (Zh 1 (Yi "led" Yd (Za 0) (Zb (Za 1) (Zb (Za 6) eNil))))) (ZN xNever (Zh 4 (eOp addX (Za 4) (Zp 4 Xb [] (Zb (Za 0) (Zb (Za 1) (Zb (Za 6) (Zb (eOp ixD (Za 3) (eOp subD (eCB lenD (Zb (Za 2) eNil)) (Za 5))) eNil)))))))
 (Xz "led" Yd (Za 0) (Zb (Za 1) (Zb (Za 6) eNil))))) (ZJ (XM (Za 2)) (XJ 2 (Yv 5 (Yv 6 gsNil))) (Zf (Zh 4 (eOp addX (Za 4) (Zp 4 Xb [] (Zb (Za 0) (Zb (Za 1) (Zb (Za 6) (Zb (eOp ixD (Za 3) (eOp subD (eCB lenD (Zb (Za 2) eNil)) (Za 5))) eNil)))))))
 (Zh 1 (Yi "led" Yd (Za 0) (Zb (Za 1) (Zb (Za 6) eNil))))))
 xNever))))
noncomputable def Qc : List D -> Option String := QI 7 g_QQ
noncomputable def UC : List D -> Option D := run 7 f_QQ
noncomputable def f_QO : DL.Env -> Option Out :=
 (Zf (Vp 0 YC "marks" (Za 1))
 (Vp 0 Xo "ways" (eCB Xv (Zb (ZT (ZH (Za 2)) (Zo 0) (fun _ => some true) (eCB Xv (Zb (Za 0) eNil)) 1 []) eNil))))
noncomputable def JC : List D -> Option D := runI 3 f_QO
noncomputable def f_QF : DL.Env -> Option Out :=
 (Zf (sIf (xB (eOp (Yg fun i j => decide (i < j)) (Za 1) (eCB lenD (Zb (Za 0) eNil)))) (Zv (eOp ixD (Za 0) (Za 1))) sNext)
 (Zv (eC (.int 0))))
noncomputable def X5 : List D -> Option D := run 2 f_QF
noncomputable def f_QH : DL.Env -> Option Out :=
 (Zf (Zh 3 (ZT (ZE (Zb (Za 2) eNil)) (Zo 0) (fun _ => some true) (eOp addX (eOp mulX (Za 0) (Za 0)) (Za 0)) 1 []))
 (Zf (ZJ (ZE (Zb (Za 1) (Zb (eCB lenD (Zb (Za 0) eNil)) eNil))) (Zo 4) (Zf (Zh 5 (eOp modW (eOp subD (Za 4) (Za 1)) (Za 2)))
 (U1 3 (Za 5) (eOp modW (eOp addX (eOp mulX (eOp ixD (Za 3) (Za 5)) (eC (.int 31))) (eOp ixD (Za 0) (Za 4))) (eC (.int 1000000000039))))))
 (Zv (Za 3))))
noncomputable def JD : List D -> Option D := run 6 f_QH
noncomputable def f_QN : DL.Env -> Option Out :=
 (Zf (Zh 1 (eC (.str [97,98,99,100,101,102,103,104,105,106,107,108,109,110,111,112,113,114,115,116,117,118,119,120,121,122,48,49,50,51,52,53,54,55,56,57])))
 (Zv (eBM joinD (eC (.str [])) (Zb (ZT (ZE (Zb (eOp addX (eC (.int 2)) (eOp modW (Za 0) (eC (.int 3)))) eNil)) (Zo 0) (fun _ => some true) (eOp ixD (Za 1) (eOp modW (eOp addX (eOp fdivW (Za 2) (eC (.int 3))) (eOp mulX (eC (.int 5)) (Za 0))) (eCB lenD (Zb (Za 1) eNil)))) 1 [1,0]) eNil))))
noncomputable def JE : List D -> Option D := run 2 f_QN
noncomputable def f_QJ : DL.Env -> Option Out :=
 (Zf (Ys 0 (Zh 2 (eC (.dct [] []))))
 (ZJ (ZE (Zb (eC (.int 1)) (Zb (eCB lenD (Zb (Za 0) eNil)) eNil))) (Zo 3) (Zf (Ys 0 (Zh 4 (eC .non)))
 (Zf (ZJ (ZE (Zb (eOp mulX (Za 3) (eCB lenD (Zb (eOp ixD (Za 0) (eC (.int 0))) eNil))) eNil)) (Zo 5) (Zf (Zh 6 (YV (eOp modW (eOp addX (eOp ixD (Za 1) (eOp addX (eC (.int 24)) (Za 3))) (Za 5)) (eOp mulX (Za 3) (eCB lenD (Zb (eOp ixD (Za 0) (eC (.int 0))) eNil))))))
 (sIf (Xu (xB (Z2 (Za 4))) (xB (eOp (inK true) (Za 6) (Za 2)))) (Ys 0 (Zh 4 (Za 6))) sNext)))
 (Zf (Ys 0 (Ux 2 (Za 4) (eC (.bl true))))
 (Vu 0 (eOp fdivW (Za 4) (eCB lenD (Zb (eOp ixD (Za 0) (eC (.int 0))) eNil))) (eOp modW (Za 4) (eCB lenD (Zb (eOp ixD (Za 0) (eC (.int 0))) eNil))) (Za 3)))))))
noncomputable def QP : List D -> Option D := runI 7 f_QJ
noncomputable def f_QS : DL.Env -> Option Out :=
 (Zf (Uv 3 (ZK eNil))
 (Zf (ZJ (ZE (Zb (Za 1) eNil)) (Zo 4) (Zf (Ys 3 (Zh 5 (ZK eNil)))
 (Zf (Ys 3 (ZJ (ZE (Zb (Za 2) eNil)) (Zo 6) (Zf (Zh 7 (eOp ixD (Za 0) (eOp addX (eOp mulX (Za 4) (Za 2)) (Za 6))))
 (Y6 5 (eOp ixD (ZK (Zb (eC .non) (Zb (eOp modW (eOp fdivW (Za 7) (eC (.int 3))) (Za 1)) (Zb (eOp modW (eOp fdivW (Za 7) (eC (.int 3))) (Za 1)) eNil)))) (eOp modW (Za 7) (eC (.int 3))))))))
 (Uu 3 5))))
 (Zf (Uy 3 2 QP (Zb (Za 0) eNil))
 (Zf (ZJ (ZE (Zb (Za 1) eNil)) (Zo 4) (sIf (xB (eOp eqD (eCB lenD (Zb (ZT (ZH (eOp ixD (Za 3) (Za 4))) (Zo 0) (xB (YF (Za 0))) (Za 0) 1 []) eNil)) (eC (.int 0)))) (Vu 3 (Za 4) (eOp modW (eOp fdivW (eOp ixD (Za 0) (Za 4)) (eC (.int 7))) (Za 2)) (eOp modW (eOp fdivW (eOp ixD (Za 0) (Za 4)) (eC (.int 35))) (Za 1))) sNext))
 (Zv (eCB Xv (Zb (ZT (ZH (Za 3)) (Zo 0) (fun _ => some true) (eCB Xv (Zb (Za 0) eNil)) 1 []) eNil)))))))
noncomputable def JF : List D -> Option D := run 8 f_QS
def QQ : List (List (String × Bool)) := [ie_BadMarks,ie_BadRow,ie_BadRule,ie_BadSign,ie_BadTable,ie_Nothing,ie_TooLarge,ie_Unread]
def JG : List (String × Bool) := [("BadMark",false),("NoRow",false)]
noncomputable def f_QB : DL.Env -> Option Out :=
 (Zf (Zh 4 (ZK eNil))
 (Zf (X1 (Vn (Zp 4 Qb [] (Zb (Za 0) (Zb (Za 1) (Zb (Za 2) (Zb (Za 3) eNil)))))) (V7 4 JA [] (Zb (Za 0) (Zb (Za 1) (Zb (Za 2) (Zb (Za 3) eNil))))) ["BadMark", "NoRow"] 5 4 [ie_NoRow,ie_ValueError,ie_BadMark,JG])
 (Zv (eOp eqD (Za 4) (ZK (Zb (eC (.bl true)) (Zb (eC (.bl true)) (Zb (eC (.bl false)) (Zb (eC (.bl false)) eNil)))))))))
noncomputable def JH : List D -> Option D := run 6 f_QB
noncomputable def f_QA : DL.Env -> Option Out :=
 (Zf (Zh 3 (ZK (Zb (eC (.bl false)) (Zb (eC (.bl false)) (Zb (eC (.bl true)) (Zb (eC (.bl false)) eNil))))))
 (Zf (X1 (Vn (Zp 3 UC [] (Zb (Za 0) (Zb (Za 1) (Zb (Za 2) eNil))))) (V7 3 Qc [] (Zb (Za 0) (Zb (Za 1) (Zb (Za 2) eNil)))) ["BadMark", "NoRow"] 4 3 [ie_NoRow,ie_BadMark,ie_ValueError,JG])
 (Zv (Za 3))))
noncomputable def Uc : List D -> Option D := run 5 f_QA
noncomputable def f_QT : DL.Env -> Option Out :=
 (Zf (ZJ (ZH (Za 3)) (Zo 4) (Zf (sIf (xB (eOp (inD true) (Za 4) (Za 0))) (Zv (ZK (Zb (eC (.bl false)) (Zb (eC (.bl true)) (Zb (eC (.bl true)) (Zb (eC (.bl false)) eNil)))))) sNext)
 (Zf (Zh 2 (eOp ixD (eOp ixD (Za 1) (Za 2)) (eBM indexD (Za 0) (Zb (Za 4) eNil))))
 (sIf (xB (Z2 (Za 2))) (Zv (ZK (Zb (eC (.bl true)) (Zb (eC (.bl false)) (Zb (eC (.bl true)) (Zb (eC (.bl false)) eNil)))))) sNext))))
 (Zv (ZK (Zb (eC (.bl false)) (Zb (eC (.bl false)) (Zb (eC (.bl true)) (Zb (eC (.bl false)) eNil)))))))
noncomputable def JI : List D -> Option D := run 5 f_QT
noncomputable def f_QI : DL.Env -> Option Out :=
 (Zf (Zh 5 (eC (.str [])))
 (Zf (ZJ (ZE (Zb (Za 3) eNil)) (Zo 6) (Zf (Zh 7 (ZT (ZE (Zb (eCB lenD (Zb (Za 0) eNil)) eNil)) (Zo 0) (xB (YF (eOp ixD (eOp ixD (Za 1) (Za 2)) (Za 0)))) (Za 0) 1 [1,2]))
 (Zf (Zh 4 (eOp modW (eOp addX (eOp mulX (Za 4) (eC (.int 48271))) (Za 6)) (eC (.int 2147483647))))
 (Zf (Zh 8 (eOp ixD (Za 7) (eOp modW (eOp fdivW (Za 4) (eC (.int 7))) (eCB lenD (Zb (Za 7) eNil)))))
 (Zf (Zh 5 (eOp addX (Za 5) (eOp ixD (Za 0) (Za 8))))
 (Zh 2 (eOp ixD (eOp ixD (Za 1) (Za 2)) (Za 8))))))))
 (Zv (Za 5))))
noncomputable def JJ : List D -> Option D := run 9 f_QI
noncomputable def f_QG : DL.Env -> Option Out :=
 (Zf (Zh 2 (eC (.str [32,33,35,36,38,40,41,42,43,44,45,46,47,58,59,60,61,62,63,64,65,66,67,68,69,70,71,72,73,74,75,76,77,78,79,80,81,82,83,84,85,86,87,88,89,90,91,93,94,95,123,124,125,126,97,98,99,100,101,102,103,104,105,106,107,108,109,110,111,112,113,114,115,116,117,118,119,120,121,122,48,49,50,51,52,53,54,55,56,57])))
 (Zf (Zh 3 (ZT (ZH (Za 2)) (Zo 0) (xB (eOp (inD true) (Za 0) (Za 1))) (Za 0) 1 [0]))
 (Zv (eOp ixD (Za 3) (eOp modW (Za 1) (eCB lenD (Zb (Za 3) eNil)))))))
noncomputable def JK : List D -> Option D := run 4 f_QG
noncomputable def f_QK : DL.Env -> Option Out :=
 (Zf (Zh 6 (eOp modW (eOp ixD (Za 4) (eC (.int 0))) (eOp addX (eCB lenD (Zb (Za 3) eNil)) (eC (.int 1)))))
 (Zf (Zh 7 (Za 2))
 (Zf (ZJ (ZH (eSl (Za 3) xNoP (xP (Za 6)))) (Zo 8) (Zh 7 (eOp ixD (eOp ixD (Za 1) (Za 7)) (eBM indexD (Za 0) (Zb (Za 8) eNil)))))
 (Zf (Zh 9 (ZT (ZE (Zb (eCB lenD (Zb (Za 0) eNil)) eNil)) (Zo 0) (xB (Z2 (eOp ixD (eOp ixD (Za 2) (Za 3)) (Za 0)))) (eOp ixD (Za 1) (Za 0)) 1 [0,1,7]))
 (Zf (Zh 10 (Zp 2 JK [] (Zb (Za 0) (Zb (eOp ixD (Za 4) (eC (.int 1))) eNil))))
 (Zf (sIf (Xu (xB (eOp eqD (eOp modW (Za 5) (eC (.int 2))) (eC (.int 1)))) (xB (eOp (Yg fun i j => decide (j < i)) (eCB lenD (Zb (Za 9) eNil)) (eC (.int 0))))) (Zh 3 (eOp addX (eOp addX (eSl (Za 3) xNoP (xP (Za 6))) (eOp ixD (Za 9) (eOp modW (eOp ixD (Za 4) (eC (.int 2))) (eCB lenD (Zb (Za 9) eNil))))) (eSl (Za 3) (xP (Za 6)) xNoP))) sNext)
 (Zf (sIf (xB (eOp eqD (eOp modW (eOp fdivW (Za 5) (eC (.int 2))) (eC (.int 2))) (eC (.int 1)))) (Zf (Zh 11 (eOp modW (eOp ixD (Za 4) (eC (.int 3))) (eOp addX (eCB lenD (Zb (Za 3) eNil)) (eC (.int 1)))))
 (Zh 3 (eOp addX (eOp addX (eSl (Za 3) xNoP (xP (Za 11))) (Za 10)) (eSl (Za 3) (xP (Za 11)) xNoP)))) sNext)
 (Zv (Za 3)))))))))
noncomputable def QR : List D -> Option D := run 12 f_QK
noncomputable def f_QY : DL.Env -> Option Out :=
 (Zf (Zh 1 (Zp 3 JD [] (Zb (Za 0) (Zb (eC (.int 5)) (Zb (eC (.int 30)) eNil)))))
 (Zf (Zh 2 (Zp 1 JE [] (Zb (Zp 2 X5 [] (Zb (Za 0) (Zb (eC (.int 0)) eNil))) eNil)))
 (Zf (Zh 3 (Zp 3 JF [] (Zb (Za 1) (Zb (eOp addX (eC (.int 1)) (eOp modW (Zp 2 X5 [] (Zb (Za 0) (Zb (eC (.int 1)) eNil))) (eC (.int 6)))) (Zb (eCB lenD (Zb (Za 2) eNil)) eNil)))))
 (Zf (Zh 4 (V4 "Rooms" 3 JC [] (Zb (Za 2) (Zb (Za 3) eNil))))
 (Zf (Zh 5 (eOp modW (Zp 2 X5 [] (Zb (Za 0) (Zb (eC (.int 2)) eNil))) (eCB lenD (Zb (Za 3) eNil))))
 (Zf (Zh 6 (eOp modW (Zp 2 X5 [] (Zb (Za 0) (Zb (eC (.int 3)) eNil))) (eC (.int 13))))
 (Zf (Zh 7 (Zp 3 Jz [] (Zb (Za 4) (Zb (Za 5) (Zb (Za 6) eNil)))))
 (Zf (Zh 8 (eOp modW (Zp 2 X5 [] (Zb (Za 0) (Zb (eC (.int 4)) eNil))) (eOp powW (eC (.int 10)) (eC (.int 17)))))
 (Zf (ZJ (ZH (ZK (Zb (eUn YG (eC (.int 1))) (Zb (Za 7) (Zb (eOp addX (Za 7) (Za 8)) (Zb (eOp subD (eUn YG (eC (.int 1))) (Za 8)) eNil)))))) (Zo 9) (Zf (sIf (Xl (xB (Zp 4 JH [] (Zb (Za 4) (Zb (Za 5) (Zb (Za 6) (Zb (Za 9) eNil))))))) (Zv (eC (.bl false))) sNext)
 (sIf (xB (eOp neD (Zp 3 UC [] (Zb (Za 4) (Zb (Za 5) (Zb (Zp 4 Qb [] (Zb (Za 4) (Zb (Za 5) (Zb (Za 6) (Zb (eOp modW (Za 8) (Za 7)) eNil))))) eNil)))) (eOp modW (Za 8) (Za 7)))) (Zv (eC (.bl false))) sNext)))
 (Zf (Zh 10 (Zp 5 JJ [] (Zb (Za 2) (Zb (Za 3) (Zb (Za 5) (Zb (Za 6) (Zb (eOp ixD (Za 1) (eC (.int 5))) eNil)))))))
 (Zf (ZJ (ZE (Zb (eC (.int 4)) eNil)) (Zo 11) (Zf (Zh 12 (Zp 6 QR [] (Zb (Za 2) (Zb (Za 3) (Zb (Za 5) (Zb (Za 10) (Zb (eSl (Za 1) (xP (eOp addX (eC (.int 6)) (eOp mulX (eC (.int 4)) (Za 11)))) (xP (eOp addX (eC (.int 10)) (eOp mulX (eC (.int 4)) (Za 11))))) (Zb (Za 11) eNil))))))))
 (Zf (sIf (xB (eOp neD (Zp 3 Uc [] (Zb (Za 4) (Zb (Za 5) (Zb (Za 12) eNil)))) (Zp 4 JI [] (Zb (Za 2) (Zb (Za 3) (Zb (Za 5) (Zb (Za 12) eNil))))))) (Zv (eC (.bl false))) sNext)
 (sIf (xB (eOp neD (Zp 3 Uc [] (Zb (Za 4) (Zb (Za 5) (Zb (Za 10) eNil)))) (ZK (Zb (eC (.bl false)) (Zb (eC (.bl false)) (Zb (eC (.bl true)) (Zb (eC (.bl false)) eNil))))))) (Zv (eC (.bl false))) sNext))))
 (Zv (eC (.bl true))))))))))))))
noncomputable def JL : List D -> Option D := run 13 f_QY
end K22
namespace K22
open PySem PySem.Spec L2 DL
def top (i : Nat) : Stmt := PySem.Challenge.pw_grooveway_k22_no_row.main.body.getD i (.Pass ⟨0,0,0,0⟩)
abbrev X6 : Stmt := top 13
abbrev Vv : Stmt := Q5 (top 23) 1
abbrev Vw : Stmt := top 14
abbrev Vx : Stmt := top 15
abbrev X7 : Stmt := top 16
abbrev X8 : Stmt := top 17
abbrev Vy : Stmt := top 21
abbrev Vz : Stmt := Q5 (top 23) 2
abbrev VB : Stmt := top 18
abbrev VC : Stmt := Q5 (top 23) 3
abbrev VD : Stmt := top 19
abbrev X9 : Stmt := Q5 (top 23) 0
abbrev VH : Stmt := top 25
abbrev Va : Stmt := top 26
abbrev Vb : Stmt := top 27
abbrev VL : Stmt := top 28
abbrev XS : Stmt := top 29
abbrev VN : Stmt := top 30
abbrev VP : Stmt := top 31
abbrev VQ : Stmt := top 32
abbrev VR : Stmt := top 33
abbrev Vc : Stmt := top 34
abbrev Vd : Stmt := top 35
abbrev Ve : Stmt := top 36
abbrev XG : Stmt := top 37
theorem Zjj : FnScope ["rooms", "counts"] ["rooms", "counts"] (defScope X6) := ⟨rfl,rfl,rfl,by decide +kernel,rfl,by decide +kernel,by decide +kernel⟩
theorem Zjk : FnScope ["self"] ["self"] (defScope Vv) := ⟨rfl,rfl,rfl,by decide +kernel,rfl,by decide +kernel,by decide +kernel⟩
theorem Zjl : FnScope ["rooms", "length", "counts", "place"] ["rooms", "length"] (defScope Vw) := ⟨rfl,rfl,rfl,by decide +kernel,rfl,by decide +kernel,by decide +kernel⟩
theorem Zjm : FnScope ["rooms", "room", "length"] ["rooms", "room", "length"] (defScope Vx) := ⟨rfl,rfl,rfl,by decide +kernel,rfl,by decide +kernel,by decide +kernel⟩
theorem Zjn : FnScope ["rooms", "room", "mark", "counts", "own"] ["rooms", "room", "mark", "counts"] (defScope X7) := ⟨rfl,rfl,rfl,by decide +kernel,rfl,by decide +kernel,by decide +kernel⟩
theorem Zjo : FnScope ["rooms", "room", "number", "counts"] ["rooms", "room", "number", "counts"] (defScope X8) := ⟨rfl,rfl,rfl,by decide +kernel,rfl,by decide +kernel,by decide +kernel⟩
theorem Zjp : FnScope ["marks", "text"] ["marks", "text"] (defScope Vy) := ⟨rfl,rfl,rfl,by decide +kernel,rfl,by decide +kernel,by decide +kernel⟩
theorem Zjq : FnScope ["self", "room", "mark"] ["self", "room", "mark"] (defScope Vz) := ⟨rfl,rfl,rfl,by decide +kernel,rfl,by decide +kernel,by decide +kernel⟩
theorem Zjr : FnScope ["rooms", "room", "length", "number", "counts", "row", "rest", "mark"] ["rooms", "room", "length", "number"] (defScope VB) := ⟨rfl,rfl,rfl,by decide +kernel,rfl,by decide +kernel,by decide +kernel⟩
theorem Zjs : FnScope ["self", "room", "row", "mark"] ["self", "room", "row"] (defScope VC) := ⟨rfl,rfl,rfl,by decide +kernel,rfl,by decide +kernel,by decide +kernel⟩
theorem Zjt : FnScope ["rooms", "room", "row", "counts", "number", "place", "mark"] ["rooms", "room", "row"] (defScope VD) := ⟨rfl,rfl,rfl,by decide +kernel,rfl,by decide +kernel,by decide +kernel⟩
theorem Zju : FnScope ["self", "marks", "ways"] ["self", "marks", "ways"] (defScope X9) := ⟨rfl,rfl,rfl,by decide +kernel,rfl,by decide +kernel,by decide +kernel⟩
theorem Zjv : FnScope ["script", "k"] ["script", "k"] (defScope VH) := ⟨rfl,rfl,rfl,by decide +kernel,rfl,by decide +kernel,by decide +kernel⟩
theorem Zjw : FnScope ["script", "behind", "many", "found", "k", "at"] ["script", "behind", "many"] (defScope Va) := ⟨rfl,rfl,rfl,by decide +kernel,rfl,by decide +kernel,by decide +kernel⟩
theorem Zjx : FnScope ["cell", "some"] ["cell"] (defScope Vb) := ⟨rfl,rfl,rfl,by decide +kernel,rfl,by decide +kernel,by decide +kernel⟩
theorem Zjy : FnScope ["ways", "cells", "taken", "room", "spot", "step", "number"] ["ways", "cells"] (defScope VL) := ⟨rfl,rfl,rfl,by decide +kernel,rfl,by decide +kernel,by decide +kernel⟩
theorem Zjz : FnScope ["cells", "many", "width", "ways", "room", "row", "k", "cell"] ["cells", "many", "width"] (defScope XS) := ⟨rfl,rfl,rfl,by decide +kernel,rfl,by decide +kernel,by decide +kernel⟩
theorem ZjA : FnScope ["error"] ["error"] (defScope VN) := ⟨rfl,rfl,rfl,by decide +kernel,rfl,by decide +kernel,by decide +kernel⟩
theorem ZjB : FnScope ["rooms", "room", "length", "number", "kinds", "e"] ["rooms", "room", "length", "number"] (defScope VP) := ⟨rfl,rfl,rfl,by decide +kernel,rfl,by decide +kernel,by decide +kernel⟩
theorem ZjC : FnScope ["rooms", "room", "row", "kinds", "e"] ["rooms", "room", "row"] (defScope VQ) := ⟨rfl,rfl,rfl,by decide +kernel,rfl,by decide +kernel,by decide +kernel⟩
theorem ZjD : FnScope ["marks", "ways", "room", "row", "sign"] ["marks", "ways", "room", "row"] (defScope VR) := ⟨rfl,rfl,rfl,by decide +kernel,rfl,by decide +kernel,by decide +kernel⟩
theorem ZjE : FnScope ["marks", "ways", "room", "length", "cell", "row", "step", "open_marks", "k"] ["marks", "ways", "room", "length", "cell"] (defScope Vc) := ⟨rfl,rfl,rfl,by decide +kernel,rfl,by decide +kernel,by decide +kernel⟩
theorem ZjF : FnScope ["marks", "cell", "some", "left"] ["marks", "cell"] (defScope Vd) := ⟨rfl,rfl,rfl,by decide +kernel,rfl,by decide +kernel,by decide +kernel⟩
theorem ZjG : FnScope ["marks", "ways", "room", "row", "cells", "way", "at", "here", "sign", "shut", "strange", "place"] ["marks", "ways", "room", "row", "cells", "way"] (defScope Ve) := ⟨rfl,rfl,rfl,by decide +kernel,rfl,by decide +kernel,by decide +kernel⟩
theorem ZjH : FnScope ["script", "cells", "marks", "ways", "rooms", "room", "length", "many", "far", "number", "row", "way", "spoilt"] ["script"] (defScope XG) := ⟨rfl,rfl,rfl,by decide +kernel,rfl,by decide +kernel,by decide +kernel⟩
structure Adr where
 a_QC : Addr
 d_QC : FuncData
 a_QL : Addr
 d_QL : FuncData
 a_QD : Addr
 d_QD : FuncData
 a_QX : Addr
 d_QX : FuncData
 a_QP : Addr
 d_QP : FuncData
 a_QU : Addr
 d_QU : FuncData
 a_QV : Addr
 d_QV : FuncData
 a_QR : Addr
 d_QR : FuncData
 a_QW : Addr
 d_QW : FuncData
 a_QE : Addr
 d_QE : FuncData
 a_QQ : Addr
 d_QQ : FuncData
 a_QO : Addr
 d_QO : FuncData
 a_QF : Addr
 d_QF : FuncData
 a_QH : Addr
 d_QH : FuncData
 a_QN : Addr
 d_QN : FuncData
 a_QJ : Addr
 d_QJ : FuncData
 a_QS : Addr
 d_QS : FuncData
 a_QM : Addr
 d_QM : FuncData
 a_QB : Addr
 d_QB : FuncData
 a_QA : Addr
 d_QA : FuncData
 a_QT : Addr
 d_QT : FuncData
 a_QI : Addr
 d_QI : FuncData
 a_QG : Addr
 d_QG : FuncData
 a_QK : Addr
 d_QK : FuncData
 a_QY : Addr
 d_QY : FuncData
 c_GrooveError : Addr
 c_BadMarks : Addr
 c_BadRule : Addr
 c_BadMark : Addr
 c_TooLarge : Addr
 c_Nothing : Addr
 c_NoRow : Addr
 c_BadSign : Addr
 c_Unread : Addr
 c_BadRow : Addr
 c_BadTable : Addr
 c_Rooms : Addr
def Adr.c (t : Adr) : String -> Addr := fun c => if c = "Rooms" then t.c_Rooms else if c = "BadMark" then t.c_BadMark else if c = "BadMarks" then t.c_BadMarks else if c = "BadRow" then t.c_BadRow else if c = "BadRule" then t.c_BadRule else if c = "BadSign" then t.c_BadSign else if c = "BadTable" then t.c_BadTable else if c = "GrooveError" then t.c_GrooveError else if c = "NoRow" then t.c_NoRow else if c = "Nothing" then t.c_Nothing else if c = "TooLarge" then t.c_TooLarge else if c = "Unread" then t.c_Unread else 0
structure Txt (K : PySem.W.Frag) (mg : Str -> Option Value) (t : Adr) : Prop where
 f_QC : FunX K "counts_longer" "counts_longer" X6 t.a_QC t.d_QC
 b_QC : Binds K t.d_QC ["rooms", "counts"] []
 g_QC : mg "counts_longer" = some (.ref t.a_QC)
 k_QC : keepIn K (.ref t.a_QC) = true
 f_QL : FunX K "many" "Rooms.many" Vv t.a_QL t.d_QL
 b_QL : Binds K t.d_QL ["self"] []
 k_QL : keepIn K (.ref t.a_QL) = true
 f_QD : FunX K "counts_up_to" "counts_up_to" Vw t.a_QD t.d_QD
 b_QD : Binds K t.d_QD ["rooms", "length"] []
 g_QD : mg "counts_up_to" = some (.ref t.a_QD)
 k_QD : keepIn K (.ref t.a_QD) = true
 f_QX : FunX K "count" "count" Vx t.a_QX t.d_QX
 b_QX : Binds K t.d_QX ["rooms", "room", "length"] []
 g_QX : mg "count" = some (.ref t.a_QX)
 k_QX : keepIn K (.ref t.a_QX) = true
 f_QP : FunX K "rows_ahead" "rows_ahead" X7 t.a_QP t.d_QP
 b_QP : Binds K t.d_QP ["rooms", "room", "mark", "counts"] []
 g_QP : mg "rows_ahead" = some (.ref t.a_QP)
 k_QP : keepIn K (.ref t.a_QP) = true
 f_QU : FunX K "mark_at" "mark_at" X8 t.a_QU t.d_QU
 b_QU : Binds K t.d_QU ["rooms", "room", "number", "counts"] []
 g_QU : mg "mark_at" = some (.ref t.a_QU)
 k_QU : keepIn K (.ref t.a_QU) = true
 f_QV : FunX K "is_mark" "is_mark" Vy t.a_QV t.d_QV
 b_QV : Binds K t.d_QV ["marks", "text"] []
 g_QV : mg "is_mark" = some (.ref t.a_QV)
 k_QV : keepIn K (.ref t.a_QV) = true
 f_QR : FunX K "led" "Rooms.led" Vz t.a_QR t.d_QR
 b_QR : Binds K t.d_QR ["self", "room", "mark"] []
 k_QR : keepIn K (.ref t.a_QR) = true
 f_QW : FunX K "row_at" "row_at" VB t.a_QW t.d_QW
 b_QW : Binds K t.d_QW ["rooms", "room", "length", "number"] []
 g_QW : mg "row_at" = some (.ref t.a_QW)
 k_QW : keepIn K (.ref t.a_QW) = true
 f_QE : FunX K "walked" "Rooms.walked" VC t.a_QE t.d_QE
 b_QE : Binds K t.d_QE ["self", "room", "row"] []
 k_QE : keepIn K (.ref t.a_QE) = true
 f_QQ : FunX K "number_of" "number_of" VD t.a_QQ t.d_QQ
 b_QQ : Binds K t.d_QQ ["rooms", "room", "row"] []
 g_QQ : mg "number_of" = some (.ref t.a_QQ)
 k_QQ : keepIn K (.ref t.a_QQ) = true
 f_QO : FunX K "__init__" "Rooms.__init__" X9 t.a_QO t.d_QO
 b_QO : Binds K t.d_QO ["self", "marks", "ways"] []
 k_QO : keepIn K (.ref t.a_QO) = true
 f_QF : FunX K "_law_cell_at" "_law_cell_at" VH t.a_QF t.d_QF
 b_QF : Binds K t.d_QF ["script", "k"] []
 g_QF : mg "_law_cell_at" = some (.ref t.a_QF)
 k_QF : keepIn K (.ref t.a_QF) = true
 f_QH : FunX K "_law_folded" "_law_folded" Va t.a_QH t.d_QH
 b_QH : Binds K t.d_QH ["script", "behind", "many"] []
 g_QH : mg "_law_folded" = some (.ref t.a_QH)
 k_QH : keepIn K (.ref t.a_QH) = true
 f_QN : FunX K "_law_marks" "_law_marks" Vb t.a_QN t.d_QN
 b_QN : Binds K t.d_QN ["cell"] []
 g_QN : mg "_law_marks" = some (.ref t.a_QN)
 k_QN : keepIn K (.ref t.a_QN) = true
 f_QJ : FunX K "_law_led_to" "_law_led_to" VL t.a_QJ t.d_QJ
 b_QJ : Binds K t.d_QJ ["ways", "cells"] []
 g_QJ : mg "_law_led_to" = some (.ref t.a_QJ)
 k_QJ : keepIn K (.ref t.a_QJ) = true
 f_QS : FunX K "_law_ways" "_law_ways" XS t.a_QS t.d_QS
 b_QS : Binds K t.d_QS ["cells", "many", "width"] []
 g_QS : mg "_law_ways" = some (.ref t.a_QS)
 k_QS : keepIn K (.ref t.a_QS) = true
 f_QM : FunX K "_law_other" "_law_other" VN t.a_QM t.d_QM
 b_QM : Binds K t.d_QM ["error"] []
 g_QM : mg "_law_other" = some (.ref t.a_QM)
 k_QM : keepIn K (.ref t.a_QM) = true
 f_QB : FunX K "_law_row_refused" "_law_row_refused" VP t.a_QB t.d_QB
 b_QB : Binds K t.d_QB ["rooms", "room", "length", "number"] []
 g_QB : mg "_law_row_refused" = some (.ref t.a_QB)
 k_QB : keepIn K (.ref t.a_QB) = true
 f_QA : FunX K "_law_number_word" "_law_number_word" VQ t.a_QA t.d_QA
 b_QA : Binds K t.d_QA ["rooms", "room", "row"] []
 g_QA : mg "_law_number_word" = some (.ref t.a_QA)
 k_QA : keepIn K (.ref t.a_QA) = true
 f_QT : FunX K "_law_due" "_law_due" VR t.a_QT t.d_QT
 b_QT : Binds K t.d_QT ["marks", "ways", "room", "row"] []
 g_QT : mg "_law_due" = some (.ref t.a_QT)
 k_QT : keepIn K (.ref t.a_QT) = true
 f_QI : FunX K "_law_walked" "_law_walked" Vc t.a_QI t.d_QI
 b_QI : Binds K t.d_QI ["marks", "ways", "room", "length", "cell"] []
 g_QI : mg "_law_walked" = some (.ref t.a_QI)
 k_QI : keepIn K (.ref t.a_QI) = true
 f_QG : FunX K "_law_strange" "_law_strange" Vd t.a_QG t.d_QG
 b_QG : Binds K t.d_QG ["marks", "cell"] []
 g_QG : mg "_law_strange" = some (.ref t.a_QG)
 k_QG : keepIn K (.ref t.a_QG) = true
 f_QK : FunX K "_law_spoilt" "_law_spoilt" Ve t.a_QK t.d_QK
 b_QK : Binds K t.d_QK ["marks", "ways", "room", "row", "cells", "way"] []
 g_QK : mg "_law_spoilt" = some (.ref t.a_QK)
 k_QK : keepIn K (.ref t.a_QK) = true
 f_QY : FunX K "law" "law" XG t.a_QY t.d_QY
 b_QY : Binds K t.d_QY ["script"] []
 g_QY : mg "law" = some (.ref t.a_QY)
 k_QY : keepIn K (.ref t.a_QY) = true
 n_ValueError : mg "ValueError" = none
 n_enumerate : mg "enumerate" = none
 n_isinstance : mg "isinstance" = none
 n_len : mg "len" = none
 n_range : mg "range" = none
 n_sum : mg "sum" = none
 n_tuple : mg "tuple" = none
 g_Rooms : mg "Rooms" = some (.ref t.c_Rooms)
 cl_Rooms : Cls K t.c_Rooms
 ci_Rooms : ClsI K t.c_Rooms
 mk_Rooms : Mk K t.c_Rooms t.a_QO
 fl_marks : QG K ⟨t.c,K⟩ YC "marks"
 fl_row : QG K ⟨t.c,K⟩ ZfB "row"
 fl_ways : QG K ⟨t.c,K⟩ Xo "ways"
 g_BadMark : mg "BadMark" = some (.ref t.c_BadMark)
 ex_BadMark : ExCls K t.c_BadMark
 g_BadMarks : mg "BadMarks" = some (.ref t.c_BadMarks)
 g_BadRow : mg "BadRow" = some (.ref t.c_BadRow)
 g_BadRule : mg "BadRule" = some (.ref t.c_BadRule)
 g_BadSign : mg "BadSign" = some (.ref t.c_BadSign)
 g_BadTable : mg "BadTable" = some (.ref t.c_BadTable)
 g_GrooveError : mg "GrooveError" = some (.ref t.c_GrooveError)
 g_NoRow : mg "NoRow" = some (.ref t.c_NoRow)
 ex_NoRow : ExCls K t.c_NoRow
 g_Nothing : mg "Nothing" = some (.ref t.c_Nothing)
 g_TooLarge : mg "TooLarge" = some (.ref t.c_TooLarge)
 g_Unread : mg "Unread" = some (.ref t.c_Unread)
 xm_GrooveError : ∀ c ∈ (["BadMark", "NoRow"] : List String),ExCls K (t.c c) /\ PySem.W.exmOne K (.ref (t.c c)) (.ref t.c_GrooveError) = some true
 ie_NoRow : Y9 K ⟨t.c,K⟩ (.ref (t.c "NoRow")) ie_NoRow
 ie_ValueError : Y9 K ⟨t.c,K⟩ (.ty "ValueError") ie_ValueError
 ie_BadMark : Y9 K ⟨t.c,K⟩ (.ref (t.c "BadMark")) ie_BadMark
 ie_BadMarks : Y9 K ⟨t.c,K⟩ (.ref (t.c "BadMarks")) ie_BadMarks
 ie_BadRow : Y9 K ⟨t.c,K⟩ (.ref (t.c "BadRow")) ie_BadRow
 ie_BadRule : Y9 K ⟨t.c,K⟩ (.ref (t.c "BadRule")) ie_BadRule
 ie_BadSign : Y9 K ⟨t.c,K⟩ (.ref (t.c "BadSign")) ie_BadSign
 ie_BadTable : Y9 K ⟨t.c,K⟩ (.ref (t.c "BadTable")) ie_BadTable
 ie_Nothing : Y9 K ⟨t.c,K⟩ (.ref (t.c "Nothing")) ie_Nothing
 ie_TooLarge : Y9 K ⟨t.c,K⟩ (.ref (t.c "TooLarge")) ie_TooLarge
 ie_Unread : Y9 K ⟨t.c,K⟩ (.ref (t.c "Unread")) ie_Unread
 me_Rooms_led : Meth K t.c_Rooms (Str.ofString "led") t.a_QR
 me_Rooms_many : Meth K t.c_Rooms (Str.ofString "many") t.a_QL
 me_Rooms_walked : Meth K t.c_Rooms (Str.ofString "walked") t.a_QE
end K22
namespace K22
open PySem PySem.W L2 HT
def kP : Params -> PySem.W.Frag := fun P =>
 (nat_lit 2,dO .none [] 0) ::
 (nat_lit 3,dO (.type "dict") [de P "__name__" 165 (.str "law_grooveway_k22_no_row" 517),de P "__doc__" 166 .none,de P "__package__" 167 .none,de P "__loader__" 168 (.builtin "__main__.__loader__#opaque"),de P "__spec__" 169 .none,de P "__annotations__" 170 (.ref 6),de P "__builtins__" 171 (.ref 4),de P "__file__" 173 (.str "/claim/cut.py" 172),de P "__cached__" 174 .none,de P "GrooveError" 206 (.ref 24),de P "BadMarks" 222 (.ref 37),de P "BadRule" 238 (.ref 49),de P "BadMark" 254 (.ref 61),de P "TooLarge" 270 (.ref 73),de P "Nothing" 286 (.ref 85),de P "NoRow" 302 (.ref 97),de P "BadSign" 318 (.ref 109),de P "Unread" 334 (.ref 121),de P "BadRow" 359 (.ref 140),de P "BadTable" 384 (.ref 159),de P "counts_longer" 392 (.ref 166),de P "counts_up_to" 402 (.ref 173),de P "count" 411 (.ref 180),de P "rows_ahead" 417 (.ref 185),de P "mark_at" 423 (.ref 190),de P "row_at" 437 (.ref 197),de P "number_of" 450 (.ref 204),de P "is_mark" 460 (.ref 211),de P "Rooms" 516 (.ref 247),de P "_law_cell_at" 526 (.ref 258),de P "_law_folded" 532 (.ref 263),de P "_law_marks" 538 (.ref 268),de P "_law_led_to" 551 (.ref 275),de P "_law_ways" 557 (.ref 280),de P "_law_other" 564 (.ref 287),de P "_law_row_refused" 576 (.ref 294),de P "_law_number_word" 587 (.ref 301),de P "_law_due" 598 (.ref 308),de P "_law_walked" 604 (.ref 313),de P "_law_strange" 610 (.ref 318),de P "_law_spoilt" 616 (.ref 323),de P "law" 635 (.ref 330)] 42) ::
 (nat_lit 23,dO (.type "dict") [de P "__module__" 196 (.str "grooveway.errors" 187),de P "__firstlineno__" 200 (.int 2 199),de P "__static_attributes__" 201 (.ref 22),de P "__weakref__" 203 (.ref 25),de P "__doc__" 204 .none] 3) ::
 (nat_lit 24,⟨(.type "type"),none,.cls ⟨"GrooveError",[(.type "ValueError")],[(.ref 24),(.type "ValueError"),(.type "Exception"),(.type "BaseException"),(.type "object")],23, "GrooveError",true,[],[(.ref 37),(.ref 49),(.ref 61),(.ref 73),(.ref 85),(.ref 97),(.ref 109),(.ref 121),(.ref 140),(.ref 159)],false,none,false⟩,#[some (.ref 15),none,some (.str "GrooveError" 189),some (.str "GrooveError" 197),some (.builtin "ValueError.__new__"),some (.bool true)]⟩) ::
 (nat_lit 25,⟨(.type "getset_descriptor"),none,.fields #[(.str "__weakref__" 202),(.ref 24),(.builtin "ExceptionGroup.__weakref__"),.none],#[]⟩) ::
 (nat_lit 36,x3 P "grooveway.errors" 187 214 218 4 217 219 35 220 2) ::
 (nat_lit 37,k3 "BadMarks" 37 24 36 28 207 215) ::
 (nat_lit 48,x3 P "grooveway.errors" 187 230 234 6 233 235 47 236 2) ::
 (nat_lit 49,k3 "BadRule" 49 24 48 40 223 231) ::
 (nat_lit 60,x3 P "grooveway.errors" 187 246 250 8 249 251 59 252 2) ::
 (nat_lit 61,k3 "BadMark" 61 24 60 52 239 247) ::
 (nat_lit 72,x3 P "grooveway.errors" 187 262 266 10 265 267 71 268 2) ::
 (nat_lit 73,k3 "TooLarge" 73 24 72 64 255 263) ::
 (nat_lit 84,x3 P "grooveway.errors" 187 278 282 12 281 283 83 284 2) ::
 (nat_lit 85,k3 "Nothing" 85 24 84 76 271 279) ::
 (nat_lit 96,x3 P "grooveway.errors" 187 294 298 14 297 299 95 300 2) ::
 (nat_lit 97,k3 "NoRow" 97 24 96 88 287 295) ::
 (nat_lit 108,x3 P "grooveway.errors" 187 310 314 16 313 315 107 316 2) ::
 (nat_lit 109,k3 "BadSign" 109 24 108 100 303 311) ::
 (nat_lit 120,x3 P "grooveway.errors" 187 326 330 18 329 331 119 332 2) ::
 (nat_lit 121,k3 "Unread" 121 24 120 112 319 327) ::
 (nat_lit 136,c3 "__init__" "BadRow.__init__" 347 22 2 3 131 132 (.ref 133) (.ref 134) 135 352 353) ::
 (nat_lit 139,dO (.type "dict") [de P "__module__" 342 (.str "grooveway.errors" 187),de P "__firstlineno__" 346 (.int 20 345),de P "__init__" 354 (.ref 137),de P "__static_attributes__" 356 (.ref 138),de P "__doc__" 357 .none] 2) ::
 (nat_lit 140,k3 "BadRow" 140 24 139 124 335 343) ::
 (nat_lit 155,c3 "__init__" "BadTable.__init__" 372 27 2 3 150 151 (.ref 152) (.ref 153) 154 377 378) ::
 (nat_lit 158,dO (.type "dict") [de P "__module__" 367 (.str "grooveway.errors" 187),de P "__firstlineno__" 371 (.int 25 370),de P "__init__" 379 (.ref 156),de P "__static_attributes__" 381 (.ref 157),de P "__doc__" 382 .none] 2) ::
 (nat_lit 159,k3 "BadTable" 159 24 158 143 360 368) ::
 (nat_lit 165,c3 "counts_longer" "counts_longer" 387 31 2 3 162 163 .none .none 164 390 391) ::
 (nat_lit 166,f3 "counts_longer" "counts_longer" X6 "grooveway.counts" 385 165) ::
 (nat_lit 172,c3 "counts_up_to" "counts_up_to" 393 33 2 3 167 168 (.ref 169) (.ref 170) 171 400 401) ::
 (nat_lit 173,f3 "counts_up_to" "counts_up_to" Vw "grooveway.counts" 385 172) ::
 (nat_lit 179,c3 "count" "count" 403 38 3 3 174 175 (.ref 176) (.ref 177) 178 409 410) ::
 (nat_lit 180,f3 "count" "count" Vx "grooveway.counts" 385 179) ::
 (nat_lit 184,c3 "rows_ahead" "rows_ahead" 412 40 4 3 181 182 .none .none 183 415 416) ::
 (nat_lit 185,f3 "rows_ahead" "rows_ahead" X7 "grooveway.counts" 385 184) ::
 (nat_lit 189,c3 "mark_at" "mark_at" 418 43 4 3 186 187 .none .none 188 421 422) ::
 (nat_lit 190,f3 "mark_at" "mark_at" X8 "grooveway.counts" 385 189) ::
 (nat_lit 196,c3 "row_at" "row_at" 424 45 4 3 191 192 (.ref 193) (.ref 194) 195 435 436) ::
 (nat_lit 197,f3 "row_at" "row_at" VB "grooveway.counts" 385 196) ::
 (nat_lit 203,c3 "number_of" "number_of" 438 56 3 3 198 199 (.ref 200) (.ref 201) 202 448 449) ::
 (nat_lit 204,f3 "number_of" "number_of" VD "grooveway.counts" 385 203) ::
 (nat_lit 210,c3 "is_mark" "is_mark" 453 66 2 3 205 206 (.ref 207) (.ref 208) 209 458 459) ::
 (nat_lit 211,f3 "is_mark" "is_mark" Vy "grooveway.rules" 451 210) ::
 (nat_lit 222,c3 "__init__" "Rooms.__init__" 475 71 3 3 219 220 .none .none 221 478 479) ::
 (nat_lit 223,f3 "__init__" "Rooms.__init__" X9 "grooveway.rooms" 461 222) ::
 (nat_lit 229,c3 "many" "Rooms.many" 481 75 1 3 224 225 (.ref 226) (.ref 227) 228 485 486) ::
 (nat_lit 230,f3 "many" "Rooms.many" Vv "grooveway.rooms" 461 229) ::
 (nat_lit 236,c3 "led" "Rooms.led" 488 78 3 3 231 232 (.ref 233) (.ref 234) 235 494 495) ::
 (nat_lit 237,f3 "led" "Rooms.led" Vz "grooveway.rooms" 461 236) ::
 (nat_lit 243,c3 "walked" "Rooms.walked" 497 83 3 3 238 239 (.ref 240) (.ref 241) 242 504 505) ::
 (nat_lit 244,f3 "walked" "Rooms.walked" VC "grooveway.rooms" 461 243) ::
 (nat_lit 246,dO (.type "dict") [de P "__module__" 470 (.str "grooveway.rooms" 461),de P "__firstlineno__" 474 (.int 69 473),de P "__init__" 480 (.ref 223),de P "many" 487 (.ref 230),de P "led" 496 (.ref 237),de P "walked" 506 (.ref 244),de P "__static_attributes__" 509 (.ref 245),de P "__dict__" 511 (.ref 248),de P "__weakref__" 513 (.ref 249),de P "__doc__" 514 .none] 4) ::
 (nat_lit 247,⟨(.type "type"),none,.cls ⟨"Rooms",[(.type "object")],[(.ref 247),(.type "object")],246, "Rooms",true,[],[],false,none,false⟩,#[none,none,some (.str "Rooms" 463),some (.str "Rooms" 471),some (.builtin "object.__new__"),some (.bool true)]⟩) ::
 (nat_lit 248,⟨(.type "getset_descriptor"),none,.fields #[(.str "__dict__" 510),(.ref 247),(.builtin "function.__dict__"),(.builtin "function.__dict__#set")],#[]⟩) ::
 (nat_lit 249,⟨(.type "getset_descriptor"),none,.fields #[(.str "__weakref__" 512),(.ref 247),(.builtin "ExceptionGroup.__weakref__"),.none],#[]⟩) ::
 (nat_lit 257,c3 "_law_cell_at" "_law_cell_at" 519 90 2 3 252 253 (.ref 254) (.ref 255) 256 524 525) ::
 (nat_lit 258,f3 "_law_cell_at" "_law_cell_at" VH "law_grooveway_k22_no_row" 517 257) ::
 (nat_lit 262,c3 "_law_folded" "_law_folded" 527 94 3 3 259 260 .none .none 261 530 531) ::
 (nat_lit 263,f3 "_law_folded" "_law_folded" Va "law_grooveway_k22_no_row" 517 262) ::
 (nat_lit 267,c3 "_law_marks" "_law_marks" 533 100 1 3 264 265 .none .none 266 536 537) ::
 (nat_lit 268,f3 "_law_marks" "_law_marks" Vb "law_grooveway_k22_no_row" 517 267) ::
 (nat_lit 274,c3 "_law_led_to" "_law_led_to" 539 103 2 3 269 270 (.ref 271) (.ref 272) 273 549 550) ::
 (nat_lit 275,f3 "_law_led_to" "_law_led_to" VL "law_grooveway_k22_no_row" 517 274) ::
 (nat_lit 279,c3 "_law_ways" "_law_ways" 552 113 3 3 276 277 .none .none 278 555 556) ::
 (nat_lit 280,f3 "_law_ways" "_law_ways" XS "law_grooveway_k22_no_row" 517 279) ::
 (nat_lit 286,c3 "_law_other" "_law_other" 558 126 1 3 281 282 (.ref 283) (.ref 284) 285 562 563) ::
 (nat_lit 287,f3 "_law_other" "_law_other" VN "law_grooveway_k22_no_row" 517 286) ::
 (nat_lit 293,c3 "_law_row_refused" "_law_row_refused" 565 128 4 3 288 289 (.ref 290) (.ref 291) 292 574 575) ::
 (nat_lit 294,f3 "_law_row_refused" "_law_row_refused" VP "law_grooveway_k22_no_row" 517 293) ::
 (nat_lit 300,c3 "_law_number_word" "_law_number_word" 577 135 3 3 295 296 (.ref 297) (.ref 298) 299 585 586) ::
 (nat_lit 301,f3 "_law_number_word" "_law_number_word" VQ "law_grooveway_k22_no_row" 517 300) ::
 (nat_lit 307,c3 "_law_due" "_law_due" 588 142 4 3 302 303 (.ref 304) (.ref 305) 306 596 597) ::
 (nat_lit 308,f3 "_law_due" "_law_due" VR "law_grooveway_k22_no_row" 517 307) ::
 (nat_lit 312,c3 "_law_walked" "_law_walked" 599 150 5 3 309 310 .none .none 311 602 603) ::
 (nat_lit 313,f3 "_law_walked" "_law_walked" Vc "law_grooveway_k22_no_row" 517 312) ::
 (nat_lit 317,c3 "_law_strange" "_law_strange" 605 159 2 3 314 315 .none .none 316 608 609) ::
 (nat_lit 318,f3 "_law_strange" "_law_strange" Vd "law_grooveway_k22_no_row" 517 317) ::
 (nat_lit 322,c3 "_law_spoilt" "_law_spoilt" 611 163 6 3 319 320 .none .none 321 614 615) ::
 (nat_lit 323,f3 "_law_spoilt" "_law_spoilt" Ve "law_grooveway_k22_no_row" 517 322) ::
 (nat_lit 329,c3 "law" "law" 617 176 1 3 324 325 (.ref 326) (.ref 327) 328 633 634) ::
 (nat_lit 330,f3 "law" "law" XG "law_grooveway_k22_no_row" 517 329) :: []
set_option maxHeartbeats 0 in
theorem ZjI : met PySem.Challenge.pw_grooveway_k22_no_row = true := by k_qdec
set_option maxHeartbeats 0 in
theorem ZjJ : met kP = true := by k_qdec
set_option maxHeartbeats 0 in
theorem left : LeftO PySem.Challenge.pw_grooveway_k22_no_row (view PySem.Challenge.pw_grooveway_k22_no_row [1,2,3,4,5,6,7,8,9,10,11,13,14,15,16,17,18,19,21,23,25,26,27,28,29,30,31,32,33,34,35,36,37]) [] (fun s => xlAt (view PySem.Challenge.pw_grooveway_k22_no_row [1,2,3,4,5,6,7,8,9,10,11,13,14,15,16,17,18,19,21,23,25,26,27,28,29,30,31,32,33,34,35,36,37]) [] s && recOk PySem.Challenge.rw_grooveway_k22_no_row.row.toRowW.records s) (fun s => ([2,3,23,24,25,36,37,48,49,60,61,72,73,84,85,96,97,108,109,120,121,136,139,140,155,158,159,165,166,172,173,179,180,184,185,189,190,196,197,203,204,210,211,222,223,229,230,236,237,243,244,246,247,248,249,257,258,262,263,267,268,274,275,279,280,286,287,293,294,300,301,307,308,312,313,317,318,322,323,329,330] : List Addr).map s.heap.get?) (fun w => (kP w.params).map fun p => some p.2) 6876 :=
 HT.left_of rfl rfl (fun _ => rfl) fun w => by
  have _ := ZjI;have _ := ZjJ;rewrite [PySem.W.Fast.te3745267016873783765,PySem.W.Fast.te1899948944801758632,PySem.W.Fast.te5923862056798008813,PySem.W.Fast.te4187177175401517315,PySem.W.Fast.te6613529449190102663,PySem.W.Fast.te10156331382660048174,PySem.W.Fast.te11892475500146522536,PySem.W.Fast.te14364793385576792824]
  kernel_rfl
theorem kP_as : ∀ P,([2,3,23,24,25,36,37,48,49,60,61,72,73,84,85,96,97,108,109,120,121,136,139,140,155,158,159,165,166,172,173,179,180,184,185,189,190,196,197,203,204,210,211,222,223,229,230,236,237,243,244,246,247,248,249,257,258,262,263,267,268,274,275,279,280,286,287,293,294,300,301,307,308,312,313,317,318,322,323,329,330] : List Addr) = (kP P).map (·.1) := fun _ => by kernel_rfl
end K22
namespace K22
open PySem PySem.Spec PyProof.Rows L2 DL
theorem nd0 : List.Nodup (["own", "counts"] : List Str) := by decide +kernel
theorem nd1 : List.Nodup (["to", "counts"] : List Str) := by decide +kernel
theorem nd2 : List.Nodup (["rooms", "length", "counts", "place"] : List Str) := by decide +kernel
theorem nd3 : List.Nodup (["rooms", "room", "mark", "counts", "own"] : List Str) := by decide +kernel
theorem nd4 : List.Nodup (["mark", "rooms", "room", "counts", "number"] : List Str) := by decide +kernel
theorem nd5 : List.Nodup (["rooms", "room", "length", "number", "counts", "row", "rest", "mark"] : List Str) := by decide +kernel
theorem nd6 : List.Nodup (["self", "room", "row", "mark"] : List Str) := by decide +kernel
theorem nd7 : List.Nodup (["rooms", "room", "row", "counts", "number", "place", "mark"] : List Str) := by decide +kernel
theorem nd8 : List.Nodup (["own"] : List Str) := by decide +kernel
theorem nd9 : List.Nodup (["script", "behind", "many", "found", "k", "at"] : List Str) := by decide +kernel
theorem ZkU : List.Nodup (["k"] : List Str) := by decide +kernel
theorem ZkV : List.Nodup (["cell", "some"] : List Str) := by decide +kernel
theorem ZkW : List.Nodup (["k", "some", "cell"] : List Str) := by decide +kernel
theorem Qd : List.Nodup (["ways", "cells", "taken", "room", "spot", "step", "number"] : List Str) := by decide +kernel
theorem Qe : List.Nodup (["cells", "many", "width", "ways", "room", "row", "k", "cell"] : List Str) := by decide +kernel
theorem ZkX : List.Nodup (["there"] : List Str) := by decide +kernel
theorem ZkY : List.Nodup (["row"] : List Str) := by decide +kernel
theorem ZiU : List.Nodup (["rooms", "room", "length", "number", "kinds", "e"] : List Str) := by decide +kernel
theorem ZiV : List.Nodup (["rooms", "room", "row", "kinds", "e"] : List Str) := by decide +kernel
theorem ZkI : List.Nodup (["marks", "ways", "room", "row", "sign"] : List Str) := by decide +kernel
theorem UD : List.Nodup (["marks", "ways", "room", "length", "cell", "row", "step", "open_marks", "k"] : List Str) := by decide +kernel
theorem ZkZ : List.Nodup (["k", "ways", "room"] : List Str) := by decide +kernel
theorem ZkJ : List.Nodup (["marks", "cell", "some", "left"] : List Str) := by decide +kernel
theorem Zk0 : List.Nodup (["sign", "marks"] : List Str) := by decide +kernel
theorem VU : List.Nodup (["marks", "ways", "room", "row", "cells", "way", "at", "here", "sign", "shut", "strange", "place"] : List Str) := by decide +kernel
theorem Zk1 : List.Nodup (["k", "marks", "ways", "here"] : List Str) := by decide +kernel
theorem XH : List.Nodup (["script", "cells", "marks", "ways", "rooms", "room", "length", "many", "far", "number", "row", "way", "spoilt"] : List Str) := by decide +kernel
section
variable {P : Program} {w : World} {K : PySem.W.Frag} {mg : Str -> Option Value} {base : Heap} {t : Adr}
theorem ZjK (T : Txt K mg t) : FnOk P w K mg base CX0 1 t.a_QC t.d_QC ["rooms", "counts"] (spD ⟨t.c,K⟩ 2 Jy) := by
 refine YA (φ:=f_QC) T.f_QC Zjj (by conv => lhs; whnf) (by conv => lhs; whnf) (fun cdv A outer s H E hr => ?_) rfl rfl;refine ⟨_,(ZA (ZQ (VZ (by rfl) (CompSc.mk' (tn:=["own"]) (cn:=["counts"]) (js:=[1]) (osc:=defScope X6) (oN:=["rooms", "counts"]) (by rfl) (by rfl) (by rfl) (by decide +kernel)) (Xs (K:=K) (V1 (K:=K) (pv 0))) (fun C s₂ H₂ fp => ZZ (i:=0) nd0) (fun C s₂ H₂ fp => Qx) (fun C s₂ H₂ fp => (ZP (Zfo (K:=K)) (by rfl) T.n_sum boot_sum (Ze (VZ (by rfl) (CompSc.mk5 (tn:=["to"]) (cn:=["counts"]) (js:=[1]) (by rfl) (by decide +kernel)) (Xs (K:=K) (pv 0)) (fun C s₂ H₂ fp => ZZ (i:=0) nd1) (fun C s₂ H₂ fp => (Ul (XT (QY (pv 0))))) (fun C s₂ H₂ fp => (ZB (ZD (K:=K)) (pv 1) (pv 0) (fun _ _ => rfl)))) Zk)))))),[],?_⟩
 unfold f_QC;exact (ZS (VF.cl (Xx (by rfl) (Y8 (XY T.fl_ways (Zc 0 (by rfl)))) (Z5 0 (by rfl) (by rfl)) QB (ZX Zdt (Zd (VF.cl (Xx (by rfl) (Y8 (Zc 0 (by rfl))) (Z5 0 (by rfl) (by rfl)) (Yx (Jc (Zc 0 (by rfl)))) (Zg Zz (Zc 1 (by rfl)) (Zc 0 (by rfl))))) Zi)))))
theorem ZjL (T : Txt K mg t) : FnOk P w K mg base CX0 1 t.a_QL t.d_QL ["self"] (spD ⟨t.c,K⟩ 1 ZiR) := by
 refine YA (φ:=f_QL) T.f_QL Zjk (by conv => lhs; whnf) (by conv => lhs; whnf) (fun cdv A outer s H E hr => ?_) rfl rfl;refine ⟨_,(ZA (ZQ (ZP (Ye (K:=K)) (by rfl) T.n_len boot_len (Ze (V1 (K:=K) (pv 0)) Zk)))),[],?_⟩;unfold f_QL;exact (ZS (ZX Z3 (Zd (XY T.fl_ways (Zc 0 (by rfl))) Zi)))
theorem ZfY (T : Txt K mg t) : FnOk P w K mg base CX0 2 t.a_QD t.d_QD ["rooms", "length"] (spD ⟨t.c,K⟩ 2 XF) := by
 have G_QL := (ZjL (P:=P) (w:=w) (base:=base) T).mono (k:=1) (by decide);have G_QC := (ZjK (P:=P) (w:=w) (base:=base) T).mono (k:=1) (by decide);refine YA (φ:=f_QD) T.f_QD Zjl (by conv => lhs; whnf) (by conv => lhs; whnf) (fun cdv A outer s H E hr => ?_) rfl rfl;refine ⟨_,(Zq (ZF (i:=2) nd2 (by rfl) (by first | exact Or.inl rfl | exact Or.inr rfl) (YJ (Ze (Zu (X2 (K:=K)) (YJ (Ze Zx Zk)) (Zee (cA:=⟨t.c,K⟩) (tab:=QL) (m:="many") ⟨⟨t.a_QL,t.d_QL,["self"],T.cl_Rooms,T.me_Rooms_many,G_QL,T.b_QL⟩,trivial⟩ hr (pv 0))) Zk)))
 (Zq ((YS PassesOwn.never (by rfl) (XI (by rfl) T.n_range (Ze (pv 1) Zk)) (ZZ (i:=3) nd2) (ZA (Qm (XW (K:=K) PySem.F.plainAttrs_list PySem.F.slot_list_append PySem.F.type_list_append Q4 (pv 2) (Ze (Z0 (G_QC) hr (by rfl) T.g_QC T.k_QC T.b_QC .nil Z1 (Ze (pv 0) (Ze (ZB (ZD (K:=K)) (pv 2) (pv 3) (fun _ _ => rfl)) Zk))) Zk))))))
 (ZA (ZQ (pv 2))))),[],?_⟩
 unfold f_QD;exact (Zs (show VS _ _ [2] _ _ _ _ from (QD 2 (Y5 (Zd (VF.cl (Zh9 (VF.cl (Y5 (Zd (Zm (d:=(.int 1)) (by rfl) (by rfl)) Zi))) (Zgl (Zc 0 (by rfl)) Zi))) Zi)) (by rfl) (by rfl) (by rfl) (by rfl)))
 (Zs (Y7 (V2 (Zd (Zc 1 (by rfl)) Zi) Xw) (Z5 3 (by rfl) (by rfl)) (QF 2 (by rfl) (ZL [] (by rfl) (Zd (Zc 0 (by rfl)) (Zd (Zg Zz (ZcX 2 (by rfl)) (Zc 3 (by rfl))) Zi)))))
 (VS.frz (ow1:=[]) 2 (ZS (Zc 2 (by rfl))) (by rfl) (by rfl) (by rfl) (by rfl))))
theorem ZjM (T : Txt K mg t) : FnOk P w K mg base CX0 3 t.a_QX t.d_QX ["rooms", "room", "length"] (spD ⟨t.c,K⟩ 3 Jz) := by
 have G_QD := (ZfY (P:=P) (w:=w) (base:=base) T).mono (k:=2) (by decide);refine YA (φ:=f_QX) T.f_QX Zjm (by conv => lhs; whnf) (by conv => lhs; whnf) (fun cdv A outer s H E hr => ?_) rfl rfl;refine ⟨_,(ZA (ZQ (ZB (ZD (K:=K)) (ZB (ZD (K:=K)) (Z0 (G_QD) hr (by rfl) T.g_QD T.k_QD T.b_QD .nil Z1 (Ze (pv 0) (Ze (pv 2) Zk))) (pv 2) (fun _ _ => rfl)) (pv 1) (fun _ _ => rfl)))),[],?_⟩;unfold f_QX
 exact (ZS (Zg Zz (Zg Zz (ZL [] (by rfl) (Zd (Zc 0 (by rfl)) (Zd (Zc 2 (by rfl)) Zi))) (Zc 2 (by rfl))) (Zc 1 (by rfl))))
theorem ZfZ (T : Txt K mg t) : FnOk P w K mg base CX0 1 t.a_QP t.d_QP ["rooms", "room", "mark", "counts"] (spD ⟨t.c,K⟩ 4 Xb) := by
 refine YA (φ:=f_QP) T.f_QP Zjn (by conv => lhs; whnf) (by conv => lhs; whnf) (fun cdv A outer s H E hr => ?_) rfl rfl;refine ⟨_,(Zq (ZF (i:=4) nd3 (by rfl) (by first | exact Or.inl rfl | exact Or.inr rfl) (Ui (Um (K:=K)) (ZB (ZD (K:=K)) (V1 (K:=K) (pv 0)) (pv 1) (fun _ _ => rfl)) UN (VW (XW (K:=K) PySem.F.plainAttrs_str PySem.F.slot_str_index PySem.F.type_str_index Jh (V1 (K:=K) (pv 0)) (Ze (pv 2) Zk)))))
 (ZA (ZQ (ZP (Zfo (K:=K)) (by rfl) T.n_sum boot_sum (Ze (VZ (by rfl) (CompSc.mk' (tn:=["to"]) (cn:=["counts"]) (js:=[3]) (osc:=defScope X7) (oN:=["rooms", "room", "mark", "counts", "own"]) (by rfl) (by rfl) (by rfl) (by decide +kernel)) (Xs (K:=K) (pv 4)) (fun C s₂ H₂ fp => ZZ (i:=0) nd1) (fun C s₂ H₂ fp => (Ul (XT (QY (pv 0))))) (fun C s₂ H₂ fp => (ZB (ZD (K:=K)) (pv 1) (pv 0) (fun _ _ => rfl)))) Zk))))),[],?_⟩
 unfold f_QP;exact (Zs (show VS _ _ [] _ _ _ _ from (Zw 4 (Ur (Or.inl rfl) (Zg Zz (XY T.fl_ways (Zc 0 (by rfl))) (Zc 1 (by rfl))) UW (V3 (UX Ji (XY T.fl_marks (Zc 0 (by rfl))) (Zd (Zc 2 (by rfl)) Zi)))) (by rfl) (by rfl) (by rfl) (by rfl)))
 (ZS (ZX Zdt (Zd (VF.cl (Xx (by rfl) (Y8 (Zc 4 (by rfl))) (Z5 0 (by rfl) (by rfl)) (Yx (Jc (Zc 0 (by rfl)))) (Zg Zz (Zc 1 (by rfl)) (Zc 0 (by rfl))))) Zi))))
theorem ZjN (T : Txt K mg t) : FnOk P w K mg base CX0 2 t.a_QU t.d_QU ["rooms", "room", "number", "counts"] (spD ⟨t.c,K⟩ 4 UA) := by
 have G_QP := (ZfZ (P:=P) (w:=w) (base:=base) T).mono (k:=1) (by decide);refine YA (φ:=f_QU) T.f_QU Zjo (by conv => lhs; whnf) (by conv => lhs; whnf) (fun cdv A outer s H E hr => ?_) rfl rfl;refine ⟨_,(ZA (ZQ (ZB (ZD (K:=K)) (VZ (by rfl) (CompSc.mk' (tn:=["mark"]) (cn:=["rooms", "room", "counts", "number"]) (js:=[0,1,3,2]) (osc:=defScope X8) (oN:=["rooms", "room", "number", "counts"]) (by rfl) (by rfl) (by rfl) (by decide +kernel)) (Xs (K:=K) (V1 (K:=K) (pv 0))) (fun C s₂ H₂ fp => ZZ (i:=0) nd4) (fun C s₂ H₂ fp => (Ul (Xg Zi1 (Z0 (G_QP) hr (by rfl) T.g_QP T.k_QP T.b_QP .nil Z1 (Ze (pv 1) (Ze (pv 2) (Ze (pv 0) (Ze (pv 3) Zk))))) (pv 4) (Xf _)))) (fun C s₂ H₂ fp => (pv 0))) (Qp Qs Zx) (fun _ _ => rfl)))),[],?_⟩
 unfold f_QU;exact (ZS (Zg Zz (VF.cl (Xx (by rfl) (Y8 (XY T.fl_marks (Zc 0 (by rfl)))) (Z5 0 (by rfl) (by rfl)) (YD (Zg Vk (ZL [] (by rfl) (Zd (Zc 1 (by rfl)) (Zd (Zc 2 (by rfl)) (Zd (Zc 0 (by rfl)) (Zd (Zc 3 (by rfl)) Zi))))) (Zc 4 (by rfl)))) (Zc 0 (by rfl)))) (Vm (Zm (d:=(.int 1)) (by rfl) (by rfl)))))
theorem ZjO (T : Txt K mg t) : FnOk P w K mg base CX0 1 t.a_QV t.d_QV ["marks", "text"] (spD ⟨t.c,K⟩ 2 Ub) := by
 refine YA (φ:=f_QV) T.f_QV Zjp (by conv => lhs; whnf) (by conv => lhs; whnf) (fun cdv A outer s H E hr => ?_) rfl rfl;refine ⟨_,(ZA (ZQ (ZhM (Zbu (Qz (cA:=⟨t.c,K⟩) (hr.units)) (ZP (Ye (K:=K)) (by rfl) T.n_len boot_len (Ze (pv 1) Zk)) Zx (Xf _)) (ZhL (Zbu (Zi8 (K:=K)) (pv 1) (pv 0) (by rfl)))))),[],?_⟩;unfold f_QV;exact (ZS (Zh2 (Zg QA (ZX Z3 (Zd (Zc 1 (by rfl)) Zi)) (Zm (d:=(.int 1)) (by rfl) (by rfl))) (Zg ZfT (Zc 1 (by rfl)) (Zc 0 (by rfl)))))
theorem Zf0 (T : Txt K mg t) : FnOk P w K mg base (CX1 P w) 2 t.a_QR t.d_QR ["self", "room", "mark"] (spX ⟨t.c,K⟩ 3 ZiT QM) := by
 have G_QV := (ZjO (P:=P) (w:=w) (base:=base) T).mono (k:=1) (by decide);refine Jo (φ:=f_QR) (χ:=ZiS) T.f_QR Zjq (by conv => lhs; whnf) (by conv => lhs; whnf) (fun cdv A outer s H E hr => ?_) rfl rfl rfl;refine ⟨_,(Zq (YR (Zfd (Zfb (Z0 (G_QV) hr (by rfl) T.g_QV T.k_QV T.b_QV .nil Z1 (Ze (V1 (K:=K) (pv 0)) (Ze (pv 2) Zk))))) (ZA (ZaP (by rfl) T.g_BadMark (T.ex_BadMark).ex Zac (Ze (Zgu (.cons (Zgt (pv 2)) (.cons (V0 [32,105,115,32,110,111,32,109,97,114,107] (by decide +kernel)) .nil))) Zk))) YQ)
 (ZA (ZQ (ZB (ZD (K:=K)) (ZB (ZD (K:=K)) (V1 (K:=K) (pv 0)) (pv 1) (fun _ _ => rfl)) (XW (K:=K) PySem.F.plainAttrs_str PySem.F.slot_str_index PySem.F.type_str_index Jh (V1 (K:=K) (pv 0)) (Ze (pv 2) Zk)) (fun _ _ => rfl))))),[],?_,?_⟩
 · unfold f_QR
   exact (Zs (Yz (Jb (Yx (ZL [] (by rfl) (Zd (XY T.fl_marks (Zc 0 (by rfl))) (Zd (Zc 2 (by rfl)) Zi))))) UU Yy)
 (ZS (Zg Zz (Zg Zz (XY T.fl_ways (Zc 0 (by rfl))) (Zc 1 (by rfl))) (UX Ji (XY T.fl_marks (Zc 0 (by rfl))) (Zd (Zc 2 (by rfl)) Zi)))))
 · unfold ZiS
   exact (YW (owB:=[]) (owC:=[]) (ZfX (Jb (Yx (ZL [] (by rfl) (Zd (XY T.fl_marks (Zc 0 (by rfl))) (Zd (Zc 2 (by rfl)) Zi))))) (ZaQ "BadMark" (by rfl) (Zd (Zgw (.cons (Zgv (Zc 2 (by rfl))) (.cons (Zm (d:=(.str [32,105,115,32,110,111,32,109,97,114,107])) (by rfl) (by rfl)) .nil))) Zi)) YN) (Yz (Jb (Yx (ZL [] (by rfl) (Zd (XY T.fl_marks (Zc 0 (by rfl))) (Zd (Zc 2 (by rfl)) Zi))))) UU Yy)
 YN)
theorem Zht (T : Txt K mg t) : FnOk P w K mg base (CX1 P w) 3 t.a_QW t.d_QW ["rooms", "room", "length", "number"] (spX ⟨t.c,K⟩ 4 Qb JA) := by
 have G_QR := (Zf0 (P:=P) (w:=w) (base:=base) T).mono (k:=2) (by decide);have G_QD := (ZfY (P:=P) (w:=w) (base:=base) T).mono (k:=2) (by decide);have G_QU := (ZjN (P:=P) (w:=w) (base:=base) T).mono (k:=2) (by decide);have G_QP := (ZfZ (P:=P) (w:=w) (base:=base) T).mono (k:=2) (by decide);refine Jo (φ:=f_QW) (χ:=g_QW) T.f_QW Zjr (by conv => lhs; whnf) (by conv => lhs; whnf) (fun cdv A outer s H E hr => ?_) rfl rfl rfl
 refine ⟨_,(Zq (ZF (i:=4) nd5 (by rfl) (by first | exact Or.inl rfl | exact Or.inr rfl) (Z0 (G_QD) hr (by rfl) T.g_QD T.k_QD T.b_QD .nil Z1 (Ze (pv 0) (Ze (pv 2) Zk))))
 (Zq (YR (PW.pt (ZiY (Xg Zg8 (pv 3) Zx (Xf _)) (ZhK (Xg Zi3 (pv 3) (ZB (ZD (K:=K)) (ZB (ZD (K:=K)) (pv 4) (pv 2) (fun _ _ => rfl)) (pv 1) (fun _ _ => rfl)) (Xf _))))) (ZA (ZaP (by rfl) T.g_NoRow (T.ex_NoRow).ex Zac (Ze (V0 [116,104,101,114,101,32,105,115,32,110,111,32,114,111,119,32,111,102,32,116,104,97,116,32,110,117,109,98,101,114] (by decide +kernel)) Zk))) YQ)
 (Zq (ZF (i:=5) nd5 (by rfl) (by first | exact Or.inl rfl | exact Or.inr rfl) (YJ Zk))
 (Zq (YS PassesOwn.leaving (by rfl) (Zd8 (by rfl) T.n_range (Ze (Zu Qr (pv 2) Zx) (Ze (Qp Qs Zx) (Ze (Qp Qs Zx) Zk)))) (ZZ (i:=6) nd5) (Zq (ZF (i:=7) nd5 (by rfl) (by first | exact Or.inl rfl | exact Or.inr rfl) (Z0 (G_QU) hr (by rfl) T.g_QU T.k_QU T.b_QU .nil Z1 (Ze (pv 0) (Ze (pv 1) (Ze (pv 3) (Ze (ZB (ZD (K:=K)) (pv 4) (pv 6) (fun _ _ => rfl)) Zk))))))
 (Zq (ZF (i:=3) nd5 (by rfl) (by first | exact Or.inl rfl | exact Or.inr rfl) (Zu Qr (pv 3) (Z0 (G_QP) hr (by rfl) T.g_QP T.k_QP T.b_QP .nil Z1 (Ze (pv 0) (Ze (pv 1) (Ze (pv 7) (Ze (ZB (ZD (K:=K)) (pv 4) (pv 6) (fun _ _ => rfl)) Zk)))))))
 (Zq (ZF (i:=1) nd5 (by rfl) (by first | exact Or.inl rfl | exact Or.inr rfl) (Jr (cA:=⟨t.c,K⟩) (tab:=Yd) (m:="led") ⟨⟨t.a_QR,t.d_QR,["self", "room", "mark"],T.cl_Rooms,T.me_Rooms_led,G_QR,T.b_QR⟩,trivial⟩ hr Jl (pv 0) (Ze (pv 1) (Ze (pv 7) Zk))))
 (ZA (Qm (XW (K:=K) PySem.F.plainAttrs_list PySem.F.slot_list_append PySem.F.type_list_append Q4 (pv 5) (Ze (pv 7) Zk))))))))
 (ZA (ZQ (XW (K:=K) PySem.F.plainAttrs_str PySem.F.slot_str_join PySem.F.type_str_join (Zdp (K:=K)) (V0 [] (by decide +kernel)) (Ze (pv 5) Zk)))))))),[],?_,?_⟩
 · unfold f_QW
   exact (Zs (show VS _ _ [] _ _ _ _ from (Zw 4 (ZL [] (by rfl) (Zd (Zc 0 (by rfl)) (Zd (Zc 2 (by rfl)) Zi))) (by rfl) (by rfl) (by rfl) (by rfl)))
 (Zs (Yz (ZfU (YD (Zg Vk (Zc 3 (by rfl)) (Zm (d:=(.int 0)) (by rfl) (by rfl)))) (YD (Zg Vk (Zc 3 (by rfl)) (Zg Zz (Zg Zz (Zc 4 (by rfl)) (Zc 2 (by rfl))) (Zc 1 (by rfl)))))) UU Yy)
 (Zs (show VS _ _ [5] _ _ _ _ from (QD 5 (Y5 Zi) (by rfl) (by rfl) (by rfl) (by rfl)))
 (Zs (Y7 (Zbz (Zd (Zg Xk (Zc 2 (by rfl)) (Zm (d:=(.int 1)) (by rfl) (by rfl))) (Zd (Vm (Zm (d:=(.int 1)) (by rfl) (by rfl))) (Zd (Vm (Zm (d:=(.int 1)) (by rfl) (by rfl))) Zi))) ZiN) (Z5 6 (by rfl) (by rfl)) (Zs (show VS _ _ [5] _ _ _ _ from (Zw 7 (ZL [] (by rfl) (Zd (Zc 0 (by rfl)) (Zd (Zc 1 (by rfl)) (Zd (Zc 3 (by rfl)) (Zd (Zg Zz (Zc 4 (by rfl)) (Zc 6 (by rfl))) Zi))))) (by rfl) (by rfl) (by rfl) (by rfl)))
 (Zs (show VS _ _ [5] _ _ _ _ from (Zw 3 (Zg Xk (Zc 3 (by rfl)) (ZL [] (by rfl) (Zd (Zc 0 (by rfl)) (Zd (Zc 1 (by rfl)) (Zd (Zc 7 (by rfl)) (Zd (Zg Zz (Zc 4 (by rfl)) (Zc 6 (by rfl))) Zi)))))) (by rfl) (by rfl) (by rfl) (by rfl)))
 (Zs (show VS _ _ [5] _ _ _ _ from (Zw 1 (Xa (Zc 0 (by rfl)) (Zd (Zc 1 (by rfl)) (Zd (Zc 7 (by rfl)) Zi))) (by rfl) (by rfl) (by rfl) (by rfl)))
 (QF 5 (by rfl) (Zc 7 (by rfl)))))))
 (VS.frz (ow1:=[]) 5 (ZS (UX Zdr (Zm (d:=(.str [])) (by rfl) (by rfl)) (Zd (Zc 5 (by rfl)) Zi))) (by rfl) (by rfl) (by rfl) (by rfl))))))
 · unfold g_QW
   exact (YW (owB:=[]) (owC:=[]) YN (show VS _ _ [] _ _ _ _ from (Zw 4 (ZL [] (by rfl) (Zd (Zc 0 (by rfl)) (Zd (Zc 2 (by rfl)) Zi))) (by rfl) (by rfl) (by rfl) (by rfl)))
 (YW (owB:=[]) (owC:=[]) (ZfX (ZfU (YD (Zg Vk (Zc 3 (by rfl)) (Zm (d:=(.int 0)) (by rfl) (by rfl)))) (YD (Zg Vk (Zc 3 (by rfl)) (Zg Zz (Zg Zz (Zc 4 (by rfl)) (Zc 2 (by rfl))) (Zc 1 (by rfl)))))) (ZaQ "NoRow" (by rfl) (Zd (Zm (d:=(.str [116,104,101,114,101,32,105,115,32,110,111,32,114,111,119,32,111,102,32,116,104,97,116,32,110,117,109,98,101,114])) (by rfl) (by rfl)) Zi)) YN) (Yz (ZfU (YD (Zg Vk (Zc 3 (by rfl)) (Zm (d:=(.int 0)) (by rfl) (by rfl)))) (YD (Zg Vk (Zc 3 (by rfl)) (Zg Zz (Zg Zz (Zc 4 (by rfl)) (Zc 2 (by rfl))) (Zc 1 (by rfl)))))) UU Yy)
 (YW (owB:=[]) (owC:=[]) YN (show VS _ _ [5] _ _ _ _ from (QD 5 (Y5 Zi) (by rfl) (by rfl) (by rfl) (by rfl)))
 (YW (owB:=[]) (owC:=[]) (Zc1 (Zbz (Zd (Zg Xk (Zc 2 (by rfl)) (Zm (d:=(.int 1)) (by rfl) (by rfl))) (Zd (Vm (Zm (d:=(.int 1)) (by rfl) (by rfl))) (Zd (Vm (Zm (d:=(.int 1)) (by rfl) (by rfl))) Zi))) ZiN) (Z5 6 (by rfl) (by rfl)) (Zs (show VS _ _ [5] _ _ _ _ from (Zw 7 (ZL [] (by rfl) (Zd (Zc 0 (by rfl)) (Zd (Zc 1 (by rfl)) (Zd (Zc 3 (by rfl)) (Zd (Zg Zz (Zc 4 (by rfl)) (Zc 6 (by rfl))) Zi))))) (by rfl) (by rfl) (by rfl) (by rfl)))
 (Zs (show VS _ _ [5] _ _ _ _ from (Zw 3 (Zg Xk (Zc 3 (by rfl)) (ZL [] (by rfl) (Zd (Zc 0 (by rfl)) (Zd (Zc 1 (by rfl)) (Zd (Zc 7 (by rfl)) (Zd (Zg Zz (Zc 4 (by rfl)) (Zc 6 (by rfl))) Zi)))))) (by rfl) (by rfl) (by rfl) (by rfl)))
 (Zs (show VS _ _ [5] _ _ _ _ from (Zw 1 (Xa (Zc 0 (by rfl)) (Zd (Zc 1 (by rfl)) (Zd (Zc 7 (by rfl)) Zi))) (by rfl) (by rfl) (by rfl) (by rfl)))
 (QF 5 (by rfl) (Zc 7 (by rfl)))))) (YW (owB:=[]) (owC:=[]) YN (show VS _ _ [5] _ _ _ _ from (Zw 7 (ZL [] (by rfl) (Zd (Zc 0 (by rfl)) (Zd (Zc 1 (by rfl)) (Zd (Zc 3 (by rfl)) (Zd (Zg Zz (Zc 4 (by rfl)) (Zc 6 (by rfl))) Zi))))) (by rfl) (by rfl) (by rfl) (by rfl)))
 (YW (owB:=[]) (owC:=[]) YN (show VS _ _ [5] _ _ _ _ from (Zw 3 (Zg Xk (Zc 3 (by rfl)) (ZL [] (by rfl) (Zd (Zc 0 (by rfl)) (Zd (Zc 1 (by rfl)) (Zd (Zc 7 (by rfl)) (Zd (Zg Zz (Zc 4 (by rfl)) (Zc 6 (by rfl))) Zi)))))) (by rfl) (by rfl) (by rfl) (by rfl)))
 (YW (owB:=[]) (owC:=[]) (VXs.vx (ZbA (Js (Zc 0 (by rfl)) (Zd (Zc 1 (by rfl)) (Zd (Zc 7 (by rfl)) Zi))))) (show VS _ _ [5] _ _ _ _ from (Zw 1 (Xa (Zc 0 (by rfl)) (Zd (Zc 1 (by rfl)) (Zd (Zc 7 (by rfl)) Zi))) (by rfl) (by rfl) (by rfl) (by rfl)))
 YN)))) (Y7 (Zbz (Zd (Zg Xk (Zc 2 (by rfl)) (Zm (d:=(.int 1)) (by rfl) (by rfl))) (Zd (Vm (Zm (d:=(.int 1)) (by rfl) (by rfl))) (Zd (Vm (Zm (d:=(.int 1)) (by rfl) (by rfl))) Zi))) ZiN) (Z5 6 (by rfl) (by rfl)) (Zs (show VS _ _ [5] _ _ _ _ from (Zw 7 (ZL [] (by rfl) (Zd (Zc 0 (by rfl)) (Zd (Zc 1 (by rfl)) (Zd (Zc 3 (by rfl)) (Zd (Zg Zz (Zc 4 (by rfl)) (Zc 6 (by rfl))) Zi))))) (by rfl) (by rfl) (by rfl) (by rfl)))
 (Zs (show VS _ _ [5] _ _ _ _ from (Zw 3 (Zg Xk (Zc 3 (by rfl)) (ZL [] (by rfl) (Zd (Zc 0 (by rfl)) (Zd (Zc 1 (by rfl)) (Zd (Zc 7 (by rfl)) (Zd (Zg Zz (Zc 4 (by rfl)) (Zc 6 (by rfl))) Zi)))))) (by rfl) (by rfl) (by rfl) (by rfl)))
 (Zs (show VS _ _ [5] _ _ _ _ from (Zw 1 (Xa (Zc 0 (by rfl)) (Zd (Zc 1 (by rfl)) (Zd (Zc 7 (by rfl)) Zi))) (by rfl) (by rfl) (by rfl) (by rfl)))
 (QF 5 (by rfl) (Zc 7 (by rfl)))))))
 YN))))
theorem ZjP (T : Txt K mg t) : FnOk P w K mg base (CX1 P w) 3 t.a_QE t.d_QE ["self", "room", "row"] (spX ⟨t.c,K⟩ 3 QO JB) := by
 have G_QR := (Zf0 (P:=P) (w:=w) (base:=base) T).mono (k:=2) (by decide);refine Jo (φ:=f_QE) (χ:=QN) T.f_QE Zjs (by conv => lhs; whnf) (by conv => lhs; whnf) (fun cdv A outer s H E hr => ?_) rfl rfl rfl;refine ⟨_,(Zq (YS PassesOwn.leaving (by rfl) (Xs (K:=K) (pv 2)) (ZZ (i:=3) nd6) (Zq (ZF (i:=1) nd6 (by rfl) (by first | exact Or.inl rfl | exact Or.inr rfl) (Jr (cA:=⟨t.c,K⟩) (tab:=Yd) (m:="led") ⟨⟨t.a_QR,t.d_QR,["self", "room", "mark"],T.cl_Rooms,T.me_Rooms_led,G_QR,T.b_QR⟩,trivial⟩ hr Jl (pv 0) (Ze (pv 1) (Ze (pv 3) Zk))))
 (ZA (YR (XT (Qj (pv 1))) (ZA (ZQ J5)) YQ))))
 (ZA (ZQ (pv 1)))),[],?_,?_⟩
 · unfold f_QE
   exact (Zs (Y7 (Y8 (Zc 2 (by rfl))) (Z5 3 (by rfl) (by rfl)) (Zs (show VS _ _ [] _ _ _ _ from (Zw 1 (Xa (Zc 0 (by rfl)) (Zd (Zc 1 (by rfl)) (Zd (Zc 3 (by rfl)) Zi))) (by rfl) (by rfl) (by rfl) (by rfl)))
 (Yz (Yx (Vl (Zc 1 (by rfl)))) (ZS (Zm (d:=.non) (by rfl) (by rfl))) Yy)))
 (ZS (Zc 1 (by rfl))))
 · unfold QN
   exact (YW (owB:=[]) (owC:=[]) (Zc1 (Y8 (Zc 2 (by rfl))) (Z5 3 (by rfl) (by rfl)) (Zs (show VS _ _ [] _ _ _ _ from (Zw 1 (Xa (Zc 0 (by rfl)) (Zd (Zc 1 (by rfl)) (Zd (Zc 3 (by rfl)) Zi))) (by rfl) (by rfl) (by rfl) (by rfl)))
 (Yz (Yx (Vl (Zc 1 (by rfl)))) (ZS (Zm (d:=.non) (by rfl) (by rfl))) Yy)) (YW (owB:=[]) (owC:=[]) (VXs.vx (ZbA (Js (Zc 0 (by rfl)) (Zd (Zc 1 (by rfl)) (Zd (Zc 3 (by rfl)) Zi))))) (show VS _ _ [] _ _ _ _ from (Zw 1 (Xa (Zc 0 (by rfl)) (Zd (Zc 1 (by rfl)) (Zd (Zc 3 (by rfl)) Zi))) (by rfl) (by rfl) (by rfl) (by rfl)))
 YN)) (Y7 (Y8 (Zc 2 (by rfl))) (Z5 3 (by rfl) (by rfl)) (Zs (show VS _ _ [] _ _ _ _ from (Zw 1 (Xa (Zc 0 (by rfl)) (Zd (Zc 1 (by rfl)) (Zd (Zc 3 (by rfl)) Zi))) (by rfl) (by rfl) (by rfl) (by rfl)))
 (Yz (Yx (Vl (Zc 1 (by rfl)))) (ZS (Zm (d:=.non) (by rfl) (by rfl))) Yy)))
 YN)
theorem Zhu (T : Txt K mg t) : FnOk P w K mg base (CX1 P w) 4 t.a_QQ t.d_QQ ["rooms", "room", "row"] (spX ⟨t.c,K⟩ 3 UC Qc) := by
 have G_QR := (Zf0 (P:=P) (w:=w) (base:=base) T).mono (k:=3) (by decide);have G_QE := (ZjP (P:=P) (w:=w) (base:=base) T).mono (k:=3) (by decide);have G_QD := (ZfY (P:=P) (w:=w) (base:=base) T).mono (k:=3) (by decide);have G_QP := (ZfZ (P:=P) (w:=w) (base:=base) T).mono (k:=3) (by decide);refine Jo (φ:=f_QQ) (χ:=g_QQ) T.f_QQ Zjt (by conv => lhs; whnf) (by conv => lhs; whnf) (fun cdv A outer s H E hr => ?_) rfl rfl rfl
 refine ⟨_,(Zq (YR (XT (Qj (Jr (cA:=⟨t.c,K⟩) (tab:=UB) (m:="walked") ⟨⟨t.a_QE,t.d_QE,["self", "room", "row"],T.cl_Rooms,T.me_Rooms_walked,G_QE,T.b_QE⟩,trivial⟩ hr Jl (pv 0) (Ze (pv 1) (Ze (pv 2) Zk))))) (ZA (ZaP (by rfl) T.g_NoRow (T.ex_NoRow).ex Zac (Ze (V0 [116,104,101,32,114,111,119,32,99,97,110,39,116,32,98,101,32,119,97,108,107,101,100] (by decide +kernel)) Zk))) YQ)
 (Zq (ZF (i:=3) nd7 (by rfl) (by first | exact Or.inl rfl | exact Or.inr rfl) (Z0 (G_QD) hr (by rfl) T.g_QD T.k_QD T.b_QD .nil Z1 (Ze (pv 0) (Ze (ZP (Ye (K:=K)) (by rfl) T.n_len boot_len (Ze (pv 2) Zk)) Zk))))
 (Zq (ZF (i:=4) nd7 (by rfl) (by first | exact Or.inl rfl | exact Or.inr rfl) Zx)
 (Zq (YS PassesOwn.leaving (by rfl) (Zeh (K:=K) (by rfl) T.n_enumerate (pv 2)) (Zi9 (K:=K) (n:=2) (ZbS (ZZ (i:=5) nd7) (ZbS (ZZ (i:=6) nd7) Zf5))) (Zq (ZF (i:=4) nd7 (by rfl) (by first | exact Or.inl rfl | exact Or.inr rfl) (Zu (Yr (K:=K)) (pv 4) (Z0 (G_QP) hr (by rfl) T.g_QP T.k_QP T.b_QP .nil Z1 (Ze (pv 0) (Ze (pv 1) (Ze (pv 6) (Ze (ZB (ZD (K:=K)) (pv 3) (Zu Qr (ZP (Ye (K:=K)) (by rfl) T.n_len boot_len (Ze (pv 2) Zk)) (pv 5)) (fun _ _ => rfl)) Zk)))))))
 (ZA (ZF (i:=1) nd7 (by rfl) (by first | exact Or.inl rfl | exact Or.inr rfl) (Jr (cA:=⟨t.c,K⟩) (tab:=Yd) (m:="led") ⟨⟨t.a_QR,t.d_QR,["self", "room", "mark"],T.cl_Rooms,T.me_Rooms_led,G_QR,T.b_QR⟩,trivial⟩ hr Jl (pv 0) (Ze (pv 1) (Ze (pv 6) Zk)))))))
 (ZA (ZQ (pv 4))))))),[],?_,?_⟩
 · unfold f_QQ
   exact (Zs (Yz (Yx (Vl (Xa (Zc 0 (by rfl)) (Zd (Zc 1 (by rfl)) (Zd (Zc 2 (by rfl)) Zi))))) UU Yy)
 (Zs (show VS _ _ [] _ _ _ _ from (Zw 3 (ZL [] (by rfl) (Zd (Zc 0 (by rfl)) (Zd (ZX Z3 (Zd (Zc 2 (by rfl)) Zi)) Zi))) (by rfl) (by rfl) (by rfl) (by rfl)))
 (Zs (show VS _ _ [] _ _ _ _ from (Zw 4 (Zm (d:=(.int 0)) (by rfl) (by rfl)) (by rfl) (by rfl) (by rfl) (by rfl)))
 (Zs (Y7 (Zar (Zc 2 (by rfl))) (ZcZ (UV 5 (by rfl) (by rfl) (UV 6 (by rfl) (by rfl) Zby))) (Zs (show VS _ _ [] _ _ _ _ from (Zw 4 (Zg Yh (Zc 4 (by rfl)) (ZL [] (by rfl) (Zd (Zc 0 (by rfl)) (Zd (Zc 1 (by rfl)) (Zd (Zc 6 (by rfl)) (Zd (Zg Zz (Zc 3 (by rfl)) (Zg Xk (ZX Z3 (Zd (Zc 2 (by rfl)) Zi)) (Zc 5 (by rfl)))) Zi)))))) (by rfl) (by rfl) (by rfl) (by rfl)))
 (show VS _ _ [] _ _ _ _ from (Zw 1 (Xa (Zc 0 (by rfl)) (Zd (Zc 1 (by rfl)) (Zd (Zc 6 (by rfl)) Zi))) (by rfl) (by rfl) (by rfl) (by rfl)))))
 (ZS (Zc 4 (by rfl)))))))
 · unfold g_QQ
   exact (YW (owB:=[]) (owC:=[]) (Zh5 (Zjg (Zgy (Js (Zc 0 (by rfl)) (Zd (Zc 1 (by rfl)) (Zd (Zc 2 (by rfl)) Zi))))) (Yx (Vl (Xa (Zc 0 (by rfl)) (Zd (Zc 1 (by rfl)) (Zd (Zc 2 (by rfl)) Zi))))) (ZaQ "NoRow" (by rfl) (Zd (Zm (d:=(.str [116,104,101,32,114,111,119,32,99,97,110,39,116,32,98,101,32,119,97,108,107,101,100])) (by rfl) (by rfl)) Zi)) YN) (Yz (Yx (Vl (Xa (Zc 0 (by rfl)) (Zd (Zc 1 (by rfl)) (Zd (Zc 2 (by rfl)) Zi))))) UU Yy)
 (YW (owB:=[]) (owC:=[]) YN (show VS _ _ [] _ _ _ _ from (Zw 3 (ZL [] (by rfl) (Zd (Zc 0 (by rfl)) (Zd (ZX Z3 (Zd (Zc 2 (by rfl)) Zi)) Zi))) (by rfl) (by rfl) (by rfl) (by rfl)))
 (YW (owB:=[]) (owC:=[]) YN (show VS _ _ [] _ _ _ _ from (Zw 4 (Zm (d:=(.int 0)) (by rfl) (by rfl)) (by rfl) (by rfl) (by rfl) (by rfl)))
 (YW (owB:=[]) (owC:=[]) (Zc1 (Zar (Zc 2 (by rfl))) (ZcZ (UV 5 (by rfl) (by rfl) (UV 6 (by rfl) (by rfl) Zby))) (Zs (show VS _ _ [] _ _ _ _ from (Zw 4 (Zg Yh (Zc 4 (by rfl)) (ZL [] (by rfl) (Zd (Zc 0 (by rfl)) (Zd (Zc 1 (by rfl)) (Zd (Zc 6 (by rfl)) (Zd (Zg Zz (Zc 3 (by rfl)) (Zg Xk (ZX Z3 (Zd (Zc 2 (by rfl)) Zi)) (Zc 5 (by rfl)))) Zi)))))) (by rfl) (by rfl) (by rfl) (by rfl)))
 (show VS _ _ [] _ _ _ _ from (Zw 1 (Xa (Zc 0 (by rfl)) (Zd (Zc 1 (by rfl)) (Zd (Zc 6 (by rfl)) Zi))) (by rfl) (by rfl) (by rfl) (by rfl)))) (YW (owB:=[]) (owC:=[]) YN (show VS _ _ [] _ _ _ _ from (Zw 4 (Zg Yh (Zc 4 (by rfl)) (ZL [] (by rfl) (Zd (Zc 0 (by rfl)) (Zd (Zc 1 (by rfl)) (Zd (Zc 6 (by rfl)) (Zd (Zg Zz (Zc 3 (by rfl)) (Zg Xk (ZX Z3 (Zd (Zc 2 (by rfl)) Zi)) (Zc 5 (by rfl)))) Zi)))))) (by rfl) (by rfl) (by rfl) (by rfl)))
 (VXs.vx (ZbA (Js (Zc 0 (by rfl)) (Zd (Zc 1 (by rfl)) (Zd (Zc 6 (by rfl)) Zi))))))) (Y7 (Zar (Zc 2 (by rfl))) (ZcZ (UV 5 (by rfl) (by rfl) (UV 6 (by rfl) (by rfl) Zby))) (Zs (show VS _ _ [] _ _ _ _ from (Zw 4 (Zg Yh (Zc 4 (by rfl)) (ZL [] (by rfl) (Zd (Zc 0 (by rfl)) (Zd (Zc 1 (by rfl)) (Zd (Zc 6 (by rfl)) (Zd (Zg Zz (Zc 3 (by rfl)) (Zg Xk (ZX Z3 (Zd (Zc 2 (by rfl)) Zi)) (Zc 5 (by rfl)))) Zi)))))) (by rfl) (by rfl) (by rfl) (by rfl)))
 (show VS _ _ [] _ _ _ _ from (Zw 1 (Xa (Zc 0 (by rfl)) (Zd (Zc 1 (by rfl)) (Zd (Zc 6 (by rfl)) Zi))) (by rfl) (by rfl) (by rfl) (by rfl)))))
 YN))))
theorem ZjQ (T : Txt K mg t) : FnOk P w K mg base CX0 1 t.a_QO t.d_QO ["self", "marks", "ways"] (spI ⟨t.c,K⟩ 3 JC) := by
 refine Zje (φ:=f_QO) T.f_QO Zju (by conv => lhs; whnf) (by conv => lhs; whnf) (fun cdv A outer s H E self hr => ?_) rfl rfl;refine ⟨_,(Zq (Zff (pv 0) (pv 1) (by rfl))
 (ZA (Zff (pv 0) (Q3 (Q9 (K:=K)) (by rfl) T.n_tuple boot_tuple (Ze (VZ (by rfl) (CompSc.mk' (tn:=["own"]) (cn:=[]) (js:=[]) (osc:=defScope X9) (oN:=["self", "marks", "ways"]) (by rfl) (by rfl) (by rfl) (by decide +kernel)) (Xs (K:=K) (pv 2)) (fun C s₂ H₂ fp => ZZ (i:=0) nd8) (fun C s₂ H₂ fp => Qx) (fun C s₂ H₂ fp => (Q3 (Q9 (K:=K)) (by rfl) T.n_tuple boot_tuple (Ze (pv 0) Zk)))) Zk)) (by rfl)))),?_⟩
 unfold f_QO;exact (Zs (Zfm 0 (by rfl) T.fl_marks (Zc 1 (by rfl)))
 (Zfm 0 (by rfl) T.fl_ways (Jd (Zd (VF.cl (Xx (by rfl) (Y8 (Zc 2 (by rfl))) (Z5 0 (by rfl) (by rfl)) QB (Jd (Zd (Zc 0 (by rfl)) Zi)))) Zi))))
theorem ZjR (T : Txt K mg t) : FnOk P w K mg base CX0 1 t.a_QF t.d_QF ["script", "k"] (spD ⟨t.c,K⟩ 2 X5) := by
 refine YA (φ:=f_QF) T.f_QF Zjv (by conv => lhs; whnf) (by conv => lhs; whnf) (fun cdv A outer s H E hr => ?_) rfl rfl;refine ⟨_,(Zq (YR (Xg Zg8 (pv 1) (ZP (Ye (K:=K)) (by rfl) T.n_len boot_len (Ze (pv 0) Zk)) (Xf _)) (ZA (ZQ (ZB (ZD (K:=K)) (pv 0) (pv 1) (fun _ _ => rfl)))) YQ)
 (ZA (ZQ Zx))),[],?_⟩
 unfold f_QF;exact (Zs (Yz (YD (Zg Vk (Zc 1 (by rfl)) (ZX Z3 (Zd (Zc 0 (by rfl)) Zi)))) (ZS (Zg Zz (Zc 0 (by rfl)) (Zc 1 (by rfl)))) Yy)
 (ZS (Zm (d:=(.int 0)) (by rfl) (by rfl))))
theorem ZjS (T : Txt K mg t) : FnOk P w K mg base CX0 1 t.a_QH t.d_QH ["script", "behind", "many"] (spD ⟨t.c,K⟩ 3 JD) := by
 refine YA (φ:=f_QH) T.f_QH Zjw (by conv => lhs; whnf) (by conv => lhs; whnf) (fun cdv A outer s H E hr => ?_) rfl rfl;refine ⟨_,(Zq (Jk (i:=3) nd9 (by rfl) (by rfl) (by rfl) (CompSc.mk' (tn:=["k"]) (cn:=[]) (js:=[]) (osc:=defScope Va) (oN:=["script", "behind", "many", "found", "k", "at"]) (by rfl) (by rfl) (by rfl) (by decide +kernel)) (XI (by rfl) T.n_range (Ze (pv 2) Zk)) (fun C s₂ H₂ fp => ZZ (i:=0) ZkU) (fun C s₂ H₂ fp => Qx) (fun C s₂ H₂ fp => (Zu (Yr (K:=K)) (Zu (X2 (K:=K)) (pv 0) (pv 0)) (pv 0))))
 (Zq ((YS PassesOwn.never (by rfl) (ZaZ (by rfl) T.n_range (Ze (pv 1) (Ze (ZP (Ye (K:=K)) (by rfl) T.n_len boot_len (Ze (pv 0) Zk)) Zk))) (ZZ (i:=4) nd9) (Zq (ZF (i:=5) nd9 (by rfl) (by first | exact Or.inl rfl | exact Or.inr rfl) (Zu Z9 (Zu Qr (pv 4) (pv 1)) (pv 2)))
 (ZA (ZcR (Zu Z9 (Zu (Yr (K:=K)) (Zu (X2 (K:=K)) (ZB (ZD (K:=K)) (pv 3) (pv 5) (fun _ _ => rfl)) Zx) (ZB (ZD (K:=K)) (pv 0) (pv 4) (fun _ _ => rfl))) Zx) (J9 (pv 3) (pv 5) ZaH))))))
 (ZA (ZQ (pv 3))))),[],?_⟩
 unfold f_QH;exact (Zs (show VS _ _ [3] _ _ _ _ from (QD 3 (Xx (by rfl) (V2 (Zd (Zc 2 (by rfl)) Zi) Xw) (Z5 0 (by rfl) (by rfl)) QB (Zg Yh (Zg Vs (Zc 0 (by rfl)) (Zc 0 (by rfl))) (Zc 0 (by rfl)))) (by rfl) (by rfl) (by rfl) (by rfl)))
 (Zs (Y7 (Zgi (Zd (Zc 1 (by rfl)) (Zd (ZX Z3 (Zd (Zc 0 (by rfl)) Zi)) Zi)) ZiM) (Z5 4 (by rfl) (by rfl)) (Zs (show VS _ _ [3] _ _ _ _ from (Zw 5 (Zg Yb (Zg Xk (Zc 4 (by rfl)) (Zc 1 (by rfl))) (Zc 2 (by rfl))) (by rfl) (by rfl) (by rfl) (by rfl)))
 (Zgs 3 (by rfl) (Zg Yb (Zg Yh (Zg Vs (Zg Zz (ZcX 3 (by rfl)) (Zc 5 (by rfl))) (Zm (d:=(.int 31)) (by rfl) (by rfl))) (Zg Zz (Zc 0 (by rfl)) (Zc 4 (by rfl)))) (Zm (d:=(.int 1000000000039)) (by rfl) (by rfl))) (Zc 5 (by rfl)))))
 (VS.frz (ow1:=[]) 3 (ZS (Zc 3 (by rfl))) (by rfl) (by rfl) (by rfl) (by rfl))))
theorem ZjT (T : Txt K mg t) : FnOk P w K mg base CX0 1 t.a_QN t.d_QN ["cell"] (spD ⟨t.c,K⟩ 1 JE) := by
 refine YA (φ:=f_QN) T.f_QN Zjx (by conv => lhs; whnf) (by conv => lhs; whnf) (fun cdv A outer s H E hr => ?_) rfl rfl;refine ⟨_,(Zq (ZF (i:=1) ZkV (by rfl) (by first | exact Or.inl rfl | exact Or.inr rfl) (V0 [97,98,99,100,101,102,103,104,105,106,107,108,109,110,111,112,113,114,115,116,117,118,119,120,121,122,48,49,50,51,52,53,54,55,56,57] (by decide +kernel)))
 (ZA (ZQ (XW (K:=K) PySem.F.plainAttrs_str PySem.F.slot_str_join PySem.F.type_str_join (Zdp (K:=K)) (V0 [] (by decide +kernel)) (Ze (VZ (by rfl) (CompSc.mk' (tn:=["k"]) (cn:=["some", "cell"]) (js:=[1,0]) (osc:=defScope Vb) (oN:=["cell", "some"]) (by rfl) (by rfl) (by rfl) (by decide +kernel)) (XI (by rfl) T.n_range (Ze (Zu (Yr (K:=K)) Zx (Zu Z9 (pv 0) Zx)) Zk)) (fun C s₂ H₂ fp => ZZ (i:=0) ZkW) (fun C s₂ H₂ fp => Qx) (fun C s₂ H₂ fp => (ZB (ZD (K:=K)) (pv 1) (Zu Z9 (Zu (Yr (K:=K)) (Zu V5 (pv 2) Zx) (Zu (X2 (K:=K)) Zx (pv 0))) (ZP (Ye (K:=K)) (by rfl) T.n_len boot_len (Ze (pv 1) Zk))) (fun _ _ => rfl)))) Zk))))),[],?_⟩
 unfold f_QN;exact (Zs (show VS _ _ [] _ _ _ _ from (Zw 1 (Zm (d:=(.str [97,98,99,100,101,102,103,104,105,106,107,108,109,110,111,112,113,114,115,116,117,118,119,120,121,122,48,49,50,51,52,53,54,55,56,57])) (by rfl) (by rfl)) (by rfl) (by rfl) (by rfl) (by rfl)))
 (ZS (UX Zdr (Zm (d:=(.str [])) (by rfl) (by rfl)) (Zd (VF.cl (Xx (by rfl) (V2 (Zd (Zg Yh (Zm (d:=(.int 2)) (by rfl) (by rfl)) (Zg Yb (Zc 0 (by rfl)) (Zm (d:=(.int 3)) (by rfl) (by rfl)))) Zi) Xw) (Z5 0 (by rfl) (by rfl)) QB (Zg Zz (Zc 1 (by rfl)) (Zg Yb (Zg Yh (Zg V6 (Zc 2 (by rfl)) (Zm (d:=(.int 3)) (by rfl) (by rfl))) (Zg Vs (Zm (d:=(.int 5)) (by rfl) (by rfl)) (Zc 0 (by rfl)))) (ZX Z3 (Zd (Zc 1 (by rfl)) Zi)))))) Zi))))
theorem ZjU (T : Txt K mg t) : FnOk P w K mg base CX0 1 t.a_QJ t.d_QJ ["ways", "cells"] (spU ⟨t.c,K⟩ 2 QP) := by
 refine Zjh (φ:=f_QJ) T.f_QJ Zjy (by conv => lhs; whnf) (by conv => lhs; whnf) (fun cdv A outer s H E a0 hr => ?_) rfl rfl;refine ⟨_,(Zq (ZF (i:=2) Qd (by rfl) (by first | exact Or.inl rfl | exact Or.inr rfl) ZeM)
 (ZA (YS PassesOwn.never (by rfl) (ZaZ (by rfl) T.n_range (Ze Zx (Ze (ZP (Ye (K:=K)) (by rfl) T.n_len boot_len (Ze (pv 0) Zk)) Zk))) (ZZ (i:=3) Qd) (Zq (ZF (i:=4) Qd (by rfl) (by first | exact Or.inl rfl | exact Or.inr rfl) J5)
 (Zq (YS PassesOwn.never (by rfl) (XI (by rfl) T.n_range (Ze (Zu (X2 (K:=K)) (pv 3) (ZP (Ye (K:=K)) (by rfl) T.n_len boot_len (Ze (ZB (ZD (K:=K)) (pv 0) Zx (fun _ _ => rfl)) Zk))) Zk)) (ZZ (i:=5) Qd) (Zq (ZF (i:=6) Qd (by rfl) (by first | exact Or.inl rfl | exact Or.inr rfl) (Zu Z9 (Zu (Yr (K:=K)) (ZB (ZD (K:=K)) (pv 1) (Zu (Yr (K:=K)) Zx (pv 3)) (fun _ _ => rfl)) (pv 5)) (Zu (X2 (K:=K)) (pv 3) (ZP (Ye (K:=K)) (by rfl) T.n_len boot_len (Ze (ZB (ZD (K:=K)) (pv 0) Zx (fun _ _ => rfl)) Zk)))))
 (ZA (YR (PW.pt (Zfc (XT (Qj (pv 4))) (Zdb (XT (Zea (Zfw hr.units) (pv 6) (pv 2)))))) (ZA (ZF (i:=4) Qd (by rfl) (by first | exact Or.inl rfl | exact Or.inr rfl) (pv 6))) YQ))))
 (Zq (Zgg (Zfw hr.units) (pv 2) (pv 4) ZV (by rfl))
 (ZA (ZcR (pv 3) (J9 (ZB (ZD (K:=K)) (pv 0) (Zu V5 (pv 4) (ZP (Ye (K:=K)) (by rfl) T.n_len boot_len (Ze (ZB (ZD (K:=K)) (pv 0) Zx (fun _ _ => rfl)) Zk))) (fun _ _ => rfl)) (Zu Z9 (pv 4) (ZP (Ye (K:=K)) (by rfl) T.n_len boot_len (Ze (ZB (ZD (K:=K)) (pv 0) Zx (fun _ _ => rfl)) Zk))) ZaH))))))))),[2],?_⟩
 unfold f_QJ;exact (X3 (show VM _ _ [2] _ _ _ _ _ from U5 (fun _ => (show VS _ _ [2] _ _ _ _ from ZgH 2 ZgG (by rfl) (by rfl) (by rfl) (by rfl))) (by rfl))
 (Ju 3 (by decide) (by rfl) (by rfl) (ZeQ (Zd (Zm (d:=(.int 1)) (by rfl) (by rfl)) (Zd (ZX Z3 (Zd (Zc 0 (by rfl)) Zi)) Zi)) ZiM) (X3 (show VM _ _ [2] _ _ _ _ _ from U5 (fun _ => (show VS _ _ [2] _ _ _ _ from (Zw 4 (Zm (d:=.non) (by rfl) (by rfl)) (by rfl) (by rfl) (by rfl) (by rfl)))) (by rfl))
 (X3 (Ju 5 (by decide) (by rfl) (by rfl) (ZaR (Zd (Zg Vs (Zc 3 (by rfl)) (ZX Z3 (Zd (Zg Zz (Zc 0 (by rfl)) (Zm (d:=(.int 0)) (by rfl) (by rfl))) Zi))) Zi) Xw) (X3 (show VM _ _ [2] _ _ _ _ _ from Zh7 6 (by decide) (Zg Yb (Zg Yh (Zg Zz (Zc 1 (by rfl)) (Zg Yh (Zm (d:=(.int 24)) (by rfl) (by rfl)) (Zc 3 (by rfl)))) (Zc 5 (by rfl))) (Zg Vs (Zc 3 (by rfl)) (ZX Z3 (Zd (Zg Zz (Zc 0 (by rfl)) (Zm (d:=(.int 0)) (by rfl) (by rfl))) Zi)))) (by rfl) (by rfl) (by rfl) (by rfl))
 (Zhs (Zfk (Yx (Vl (Zc 4 (by rfl)))) (Yx (Zem (Zc 6 (by rfl)) (ZcX 2 (by rfl))))) (show VM _ _ [2] _ _ _ _ _ from U5 (fun _ => (show VS _ _ [2] _ _ _ _ from (Zw 4 (Zc 6 (by rfl)) (by rfl) (by rfl) (by rfl) (by rfl)))) (by rfl)) Zdz)))
 (X3 (show VM _ _ [2] _ _ _ _ _ from U5 (fun _ => (ZgI 2 (by rfl) (Zm (d:=(.bl true)) (by rfl) (by rfl)) (Zc 4 (by rfl)))) (by rfl))
 (ZdC (Zc 3 (by rfl)) (Zg V6 (Zc 4 (by rfl)) (ZX Z3 (Zd (Zg Zz (Zc 0 (by rfl)) (Zm (d:=(.int 0)) (by rfl) (by rfl))) Zi))) (Zg Yb (Zc 4 (by rfl)) (ZX Z3 (Zd (Zg Zz (Zc 0 (by rfl)) (Zm (d:=(.int 0)) (by rfl) (by rfl))) Zi)))))))))
theorem ZjV (T : Txt K mg t) : FnOk P w K mg base CX0 2 t.a_QS t.d_QS ["cells", "many", "width"] (spD ⟨t.c,K⟩ 3 JF) := by
 have G_QJ := (ZjU (P:=P) (w:=w) (base:=base) T).mono (k:=1) (by decide);refine YA (φ:=f_QS) T.f_QS Zjz (by conv => lhs; whnf) (by conv => lhs; whnf) (fun cdv A outer s H E hr => ?_) rfl rfl;refine ⟨_,(Zq (ZF (i:=3) Qe (by rfl) (by first | exact Or.inl rfl | exact Or.inr rfl) (YJ Zk))
 (Zq (YS PassesOwn.never (by rfl) (XI (by rfl) T.n_range (Ze (pv 1) Zk)) (ZZ (i:=4) Qe) (Zq (ZF (i:=5) Qe (by rfl) (by first | exact Or.inl rfl | exact Or.inr rfl) (YJ Zk))
 (Zq ((YS PassesOwn.never (by rfl) (XI (by rfl) T.n_range (Ze (pv 2) Zk)) (ZZ (i:=6) Qe) (Zq (ZF (i:=7) Qe (by rfl) (by first | exact Or.inl rfl | exact Or.inr rfl) (ZB (ZD (K:=K)) (pv 0) (Zu (Yr (K:=K)) (Zu (X2 (K:=K)) (pv 4) (pv 2)) (pv 6)) (fun _ _ => rfl)))
 (ZA (Qm (XW (K:=K) PySem.F.plainAttrs_list PySem.F.slot_list_append PySem.F.type_list_append Q4 (pv 5) (Ze (ZB (ZD (K:=K)) (YJ (Ze J5 (Ze (Zu Z9 (Zu V5 (pv 7) Zx) (pv 1)) (Ze (Zu Z9 (Zu V5 (pv 7) Zx) (pv 1)) Zk)))) (Zu Z9 (pv 7) Zx) (fun _ _ => rfl)) Zk)))))))
 (ZA (Qm (XW (K:=K) PySem.F.plainAttrs_list PySem.F.slot_list_append PySem.F.type_list_append Q4 (pv 3) (Ze (pv 5) Zk)))))))
 (Zq (Qm (Z0 (G_QJ) hr (by rfl) T.g_QJ T.k_QJ T.b_QJ .nil Z1 (Ze (pv 3) (Ze (pv 0) Zk))))
 (Zq (YS PassesOwn.never (by rfl) (XI (by rfl) T.n_range (Ze (pv 1) Zk)) (ZZ (i:=4) Qe) (ZA (YR (Xg (Qz (cA:=⟨t.c,K⟩) (hr.units)) (ZP (Ye (K:=K)) (by rfl) T.n_len boot_len (Ze (VZ (by rfl) (CompSc.mk' (tn:=["there"]) (cn:=[]) (js:=[]) (osc:=defScope XS) (oN:=["cells", "many", "width", "ways", "room", "row", "k", "cell"]) (by rfl) (by rfl) (by rfl) (by decide +kernel)) (Xs (K:=K) (ZB (ZD (K:=K)) (pv 3) (pv 4) (fun _ _ => rfl))) (fun C s₂ H₂ fp => ZZ (i:=0) ZkX) (fun C s₂ H₂ fp => (Ul (XT (QY (pv 0))))) (fun C s₂ H₂ fp => (pv 0))) Zk)) Zx (Xf _)) (ZA (ZcR (Zu Z9 (Zu V5 (ZB (ZD (K:=K)) (pv 0) (pv 4) (fun _ _ => rfl)) Zx) (pv 1)) (J9 (ZB (ZD (K:=K)) (pv 3) (pv 4) (fun _ _ => rfl)) (Zu Z9 (Zu V5 (ZB (ZD (K:=K)) (pv 0) (pv 4) (fun _ _ => rfl)) Zx) (pv 2)) ZaH))) YQ)))
 (ZA (ZQ (Q3 (Q9 (K:=K)) (by rfl) T.n_tuple boot_tuple (Ze (VZ (by rfl) (CompSc.mk' (tn:=["row"]) (cn:=[]) (js:=[]) (osc:=defScope XS) (oN:=["cells", "many", "width", "ways", "room", "row", "k", "cell"]) (by rfl) (by rfl) (by rfl) (by decide +kernel)) (Xs (K:=K) (pv 3)) (fun C s₂ H₂ fp => ZZ (i:=0) ZkY) (fun C s₂ H₂ fp => Qx) (fun C s₂ H₂ fp => (Q3 (Q9 (K:=K)) (by rfl) T.n_tuple boot_tuple (Ze (pv 0) Zk)))) Zk)))))))),[],?_⟩
 unfold f_QS;exact (Zh8 3 (by rfl) (by rfl) ZgD
 (X3 (Ju 4 (by decide) (by rfl) (by rfl) (ZaR (Zd (Zc 1 (by rfl)) Zi) Xw) (X3 (show VM _ _ [5] _ _ _ _ _ from U5 (fun _ => (show VS _ _ [5] _ _ _ _ from (QD 5 (Y5 Zi) (by rfl) (by rfl) (by rfl) (by rfl)))) (by rfl))
 (X3 (show VM _ _ [5] _ _ _ _ _ from U5 (fun _ => (Y7 (V2 (Zd (Zc 2 (by rfl)) Zi) Xw) (Z5 6 (by rfl) (by rfl)) (Zs (show VS _ _ [5] _ _ _ _ from (Zw 7 (Zg Zz (Zc 0 (by rfl)) (Zg Yh (Zg Vs (Zc 4 (by rfl)) (Zc 2 (by rfl))) (Zc 6 (by rfl)))) (by rfl) (by rfl) (by rfl) (by rfl)))
 (QF 5 (by rfl) (Zg Zz (VF.cl (Y5 (Zd (Zm (d:=.non) (by rfl) (by rfl)) (Zd (Zg Yb (Zg V6 (Zc 7 (by rfl)) (Zm (d:=(.int 3)) (by rfl) (by rfl))) (Zc 1 (by rfl))) (Zd (Zg Yb (Zg V6 (Zc 7 (by rfl)) (Zm (d:=(.int 3)) (by rfl) (by rfl))) (Zc 1 (by rfl))) Zi))))) (Zg Yb (Zc 7 (by rfl)) (Zm (d:=(.int 3)) (by rfl) (by rfl)))))))) (by rfl))
 (show VM _ _ [] _ _ _ _ _ from ZgC 5 (by decide) (by rfl) (by rfl) (by rfl) (by rfl) (by rfl)))))
 (X3 (ZeU (fun _ => (Zd (Zc 0 (by rfl)) Zi)))
 (X3 (Ju 4 (by decide) (by rfl) (by rfl) (ZaR (Zd (Zc 1 (by rfl)) Zi) Xw) (Zhs (YD (Zg QA (ZX Z3 (Zd (VF.cl (Xx (by rfl) (Y8 (Zg Zz (Zc 3 (by rfl)) (Zc 4 (by rfl)))) (Z5 0 (by rfl) (by rfl)) (Yx (Jc (Zc 0 (by rfl)))) (Zc 0 (by rfl)))) Zi)) (Zm (d:=(.int 0)) (by rfl) (by rfl)))) (ZdC (Zg Yb (Zg V6 (Zg Zz (Zc 0 (by rfl)) (Zc 4 (by rfl))) (Zm (d:=(.int 35)) (by rfl) (by rfl))) (Zc 1 (by rfl))) (Zc 4 (by rfl)) (Zg Yb (Zg V6 (Zg Zz (Zc 0 (by rfl)) (Zc 4 (by rfl))) (Zm (d:=(.int 7)) (by rfl) (by rfl))) (Zc 2 (by rfl)))) Zdz))
 (Zh6 (Jd (Zd (VF.cl (Xx (by rfl) (Y8 (Zc 3 (by rfl))) (Z5 0 (by rfl) (by rfl)) QB (Jd (Zd (Zc 0 (by rfl)) Zi)))) Zi)))))))
theorem Zhv (T : Txt K mg t) : FnOkE P w K mg base 1 t.a_QM t.d_QM ["error"] (spT K ⟨t.c,K⟩ QQ) :=
 ZkT (vs:=[(.ref (t.c "BadMarks")),(.ref (t.c "BadRow")),(.ref (t.c "BadRule")),(.ref (t.c "BadSign")),(.ref (t.c "BadTable")),(.ref (t.c "Nothing")),(.ref (t.c "TooLarge")),(.ref (t.c "Unread"))]) T.f_QM ZjA (by conv => lhs; whnf) (by conv => lhs; whnf) (.cons T.ie_BadMarks (.cons T.ie_BadRow (.cons T.ie_BadRule (.cons T.ie_BadSign (.cons T.ie_BadTable (.cons T.ie_Nothing (.cons T.ie_TooLarge (.cons T.ie_Unread .nil)))))))) (Nat.le_of_ble_eq_true rfl) rfl (fun cdv A outer s H => ZA (ZQ (ZP (Zh4 (K:=K)) (by rfl) T.n_isinstance boot_isinstance (Ze (pv 0) (Ze (ZhR (Ze (Xq (v:=.ref (t.c "BadMarks")) (by rfl) T.g_BadMarks (by rfl)) (Ze (Xq (v:=.ref (t.c "BadRow")) (by rfl) T.g_BadRow (by rfl)) (Ze (Xq (v:=.ref (t.c "BadRule")) (by rfl) T.g_BadRule (by rfl)) (Ze (Xq (v:=.ref (t.c "BadSign")) (by rfl) T.g_BadSign (by rfl)) (Ze (Xq (v:=.ref (t.c "BadTable")) (by rfl) T.g_BadTable (by rfl)) (Ze (Xq (v:=.ref (t.c "Nothing")) (by rfl) T.g_Nothing (by rfl)) (Ze (Xq (v:=.ref (t.c "TooLarge")) (by rfl) T.g_TooLarge (by rfl)) (Ze (Xq (v:=.ref (t.c "Unread")) (by rfl) T.g_Unread (by rfl)) Zk))))))))) Zk)))))
theorem ZjW (T : Txt K mg t) : FnOk P w K mg base CX0 4 t.a_QB t.d_QB ["rooms", "room", "length", "number"] (spD ⟨t.c,K⟩ 4 JH) := by
 have G_QM := (Zhv (P:=P) (w:=w) (base:=base) T).mono (k:=3) (by decide);have G_QW := (Zht (P:=P) (w:=w) (base:=base) T).mono (k:=3) (by decide);refine YA (φ:=f_QB) T.f_QB ZjB (by conv => lhs; whnf) (by conv => lhs; whnf) (fun cdv A outer s H E hr => ?_) rfl rfl;refine ⟨_,(Zq (ZF (i:=4) ZiU (by rfl) (by first | exact Or.inl rfl | exact Or.inr rfl) (YJ Zk))
 (Zq (Zfr (i:=5) (n:="e") (ts:=fun C ea => YY (UL (QJ [Xn K 5 (.ref (t.c "NoRow")),Xn K 5 (.ty "ValueError"),Xn K 5 (.ref (t.c "BadMark")),QK K ⟨t.c,K⟩ 5 QQ] C ea)) (YX 4)) ZiU (by rfl) (by rfl) ⟨rfl,rfl⟩ (by rfl) T.g_GrooveError (fun E => (Zb7 (Zb6 (G_QW) hr (by rfl) T.g_QW T.k_QW T.b_QW .nil (fun _ _ z => z) (Ze (pv 0) (Ze (pv 1) (Ze (pv 2) (Ze (pv 3) Zk))))))) (fun C ea TC => ZA (ZF (i:=4) ZiU (by rfl) (by first | exact Or.inl rfl | exact Or.inr rfl) (YJ (Ze (ZP (U0 (K:=K) TC) (by rfl) T.n_isinstance boot_isinstance (Ze (pv 5) (Ze (Xq (v:=.ref (t.c "NoRow")) (by rfl) T.g_NoRow (by rfl)) Zk))) (Ze (ZP (U0 (K:=K) TC) (by rfl) T.n_isinstance boot_isinstance (Ze (pv 5) (Ze (Zda (v:=.ty "ValueError") (by rfl) T.n_ValueError PyProof.Rows.Boot.«ValueError» rfl) Zk))) (Ze (ZP (U0 (K:=K) TC) (by rfl) T.n_isinstance boot_isinstance (Ze (pv 5) (Ze (Xq (v:=.ref (t.c "BadMark")) (by rfl) T.g_BadMark (by rfl)) Zk))) (Ze (Zcc G_QM hr.suite (by rfl) T.g_QM T.k_QM T.b_QM (Ze (pv 5) Zk)) Zk))))))))
 (ZA (ZQ (Zbu (Qz (cA:=⟨t.c,K⟩) (hr.units)) (pv 4) (YJ (Ze ZV (Ze ZV (Ze ZV (Ze ZV Zk))))) (Xf _)))))),[],?_⟩
 unfold f_QB;exact (Zs (show VS _ _ [] _ _ _ _ from (Zw 4 (VF.cl (Y5 Zi)) (by rfl) (by rfl) (by rfl) (by rfl)))
 (Zs (Zdy (ms:=[Xn K 5 (.ref (t.c "NoRow")),Xn K 5 (.ty "ValueError"),Xn K 5 (.ref (t.c "BadMark")),QK K ⟨t.c,K⟩ 5 QQ]) ["BadMark", "NoRow"] 5 4 (by rfl) (by rfl) (by rfl) (by rfl) T.xm_GrooveError (.cons (U4 T.ie_NoRow) (.cons (U4 T.ie_ValueError) (.cons (U4 T.ie_BadMark) (.cons (Zcd (by decide +kernel)) .nil)))) (fun E => (Zdn (Jn [] (by rfl) (Zd (Zc 0 (by rfl)) (Zd (Zc 1 (by rfl)) (Zd (Zc 2 (by rfl)) (Zd (Zc 3 (by rfl)) Zi))))))) (fun E => (Zb8 (Zb9 [] (by rfl) (Zd (Zc 0 (by rfl)) (Zd (Zc 1 (by rfl)) (Zd (Zc 2 (by rfl)) (Zd (Zc 3 (by rfl)) Zi))))))))
 (ZS (Zg QA (Zc 4 (by rfl)) (VF.cl (Y5 (Zd (Zm (d:=(.bl true)) (by rfl) (by rfl)) (Zd (Zm (d:=(.bl true)) (by rfl) (by rfl)) (Zd (Zm (d:=(.bl false)) (by rfl) (by rfl)) (Zd (Zm (d:=(.bl false)) (by rfl) (by rfl)) Zi))))))))))
theorem ZjX (T : Txt K mg t) : FnOk P w K mg base CX0 5 t.a_QA t.d_QA ["rooms", "room", "row"] (spD ⟨t.c,K⟩ 3 Uc) := by
 have G_QM := (Zhv (P:=P) (w:=w) (base:=base) T).mono (k:=4) (by decide);have G_QQ := (Zhu (P:=P) (w:=w) (base:=base) T).mono (k:=4) (by decide);refine YA (φ:=f_QA) T.f_QA ZjC (by conv => lhs; whnf) (by conv => lhs; whnf) (fun cdv A outer s H E hr => ?_) rfl rfl;refine ⟨_,(Zq (ZF (i:=3) ZiV (by rfl) (by first | exact Or.inl rfl | exact Or.inr rfl) (YJ (Ze ZV (Ze ZV (Ze ZV (Ze ZV Zk))))))
 (Zq (Zfr (i:=4) (n:="e") (ts:=fun C ea => YY (UL (QJ [Xn K 4 (.ref (t.c "NoRow")),Xn K 4 (.ref (t.c "BadMark")),Xn K 4 (.ty "ValueError"),QK K ⟨t.c,K⟩ 4 QQ] C ea)) (YX 3)) ZiV (by rfl) (by rfl) ⟨rfl,rfl⟩ (by rfl) T.g_GrooveError (fun E => (Zb7 (Zb6 (G_QQ) hr (by rfl) T.g_QQ T.k_QQ T.b_QQ .nil (fun _ _ z => z) (Ze (pv 0) (Ze (pv 1) (Ze (pv 2) Zk)))))) (fun C ea TC => ZA (ZF (i:=3) ZiV (by rfl) (by first | exact Or.inl rfl | exact Or.inr rfl) (YJ (Ze (ZP (U0 (K:=K) TC) (by rfl) T.n_isinstance boot_isinstance (Ze (pv 4) (Ze (Xq (v:=.ref (t.c "NoRow")) (by rfl) T.g_NoRow (by rfl)) Zk))) (Ze (ZP (U0 (K:=K) TC) (by rfl) T.n_isinstance boot_isinstance (Ze (pv 4) (Ze (Xq (v:=.ref (t.c "BadMark")) (by rfl) T.g_BadMark (by rfl)) Zk))) (Ze (ZP (U0 (K:=K) TC) (by rfl) T.n_isinstance boot_isinstance (Ze (pv 4) (Ze (Zda (v:=.ty "ValueError") (by rfl) T.n_ValueError PyProof.Rows.Boot.«ValueError» rfl) Zk))) (Ze (Zcc G_QM hr.suite (by rfl) T.g_QM T.k_QM T.b_QM (Ze (pv 4) Zk)) Zk))))))))
 (ZA (ZQ (pv 3))))),[],?_⟩
 unfold f_QA;exact (Zs (show VS _ _ [] _ _ _ _ from (Zw 3 (VF.cl (Y5 (Zd (Zm (d:=(.bl false)) (by rfl) (by rfl)) (Zd (Zm (d:=(.bl false)) (by rfl) (by rfl)) (Zd (Zm (d:=(.bl true)) (by rfl) (by rfl)) (Zd (Zm (d:=(.bl false)) (by rfl) (by rfl)) Zi)))))) (by rfl) (by rfl) (by rfl) (by rfl)))
 (Zs (Zdy (ms:=[Xn K 4 (.ref (t.c "NoRow")),Xn K 4 (.ref (t.c "BadMark")),Xn K 4 (.ty "ValueError"),QK K ⟨t.c,K⟩ 4 QQ]) ["BadMark", "NoRow"] 4 3 (by rfl) (by rfl) (by rfl) (by rfl) T.xm_GrooveError (.cons (U4 T.ie_NoRow) (.cons (U4 T.ie_BadMark) (.cons (U4 T.ie_ValueError) (.cons (Zcd (by decide +kernel)) .nil)))) (fun E => (Zdn (Jn [] (by rfl) (Zd (Zc 0 (by rfl)) (Zd (Zc 1 (by rfl)) (Zd (Zc 2 (by rfl)) Zi)))))) (fun E => (Zb8 (Zb9 [] (by rfl) (Zd (Zc 0 (by rfl)) (Zd (Zc 1 (by rfl)) (Zd (Zc 2 (by rfl)) Zi)))))))
 (ZS (Zc 3 (by rfl)))))
theorem ZjY (T : Txt K mg t) : FnOk P w K mg base CX0 1 t.a_QT t.d_QT ["marks", "ways", "room", "row"] (spD ⟨t.c,K⟩ 4 JI) := by
 refine YA (φ:=f_QT) T.f_QT ZjD (by conv => lhs; whnf) (by conv => lhs; whnf) (fun cdv A outer s H E hr => ?_) rfl rfl;refine ⟨_,(Zq ((YS PassesOwn.never (by rfl) (Xs (K:=K) (pv 3)) (ZZ (i:=4) ZkI) (Zq (YR (Xg (ZbY (K:=K)) (pv 4) (pv 0) (by rfl)) (ZA (ZQ (YJ (Ze ZV (Ze ZV (Ze ZV (Ze ZV Zk))))))) YQ)
 (Zq (ZF (i:=2) ZkI (by rfl) (by first | exact Or.inl rfl | exact Or.inr rfl) (ZB (ZD (K:=K)) (ZB (ZD (K:=K)) (pv 1) (pv 2) (fun _ _ => rfl)) (XW (K:=K) PySem.F.plainAttrs_str PySem.F.slot_str_index PySem.F.type_str_index Jh (pv 0) (Ze (pv 4) Zk)) (fun _ _ => rfl)))
 (ZA (YR (XT (Qj (pv 2))) (ZA (ZQ (YJ (Ze ZV (Ze ZV (Ze ZV (Ze ZV Zk))))))) YQ))))))
 (ZA (ZQ (YJ (Ze ZV (Ze ZV (Ze ZV (Ze ZV Zk)))))))),[],?_⟩
 unfold f_QT;exact (Zs (Y7 (Y8 (Zc 3 (by rfl))) (Z5 4 (by rfl) (by rfl)) (Zs (Yz (YD (Zg ZfT (Zc 4 (by rfl)) (Zc 0 (by rfl)))) (ZS (VF.cl (Y5 (Zd (Zm (d:=(.bl false)) (by rfl) (by rfl)) (Zd (Zm (d:=(.bl true)) (by rfl) (by rfl)) (Zd (Zm (d:=(.bl true)) (by rfl) (by rfl)) (Zd (Zm (d:=(.bl false)) (by rfl) (by rfl)) Zi))))))) Yy)
 (Zs (show VS _ _ [] _ _ _ _ from (Zw 2 (Zg Zz (Zg Zz (Zc 1 (by rfl)) (Zc 2 (by rfl))) (UX Ji (Zc 0 (by rfl)) (Zd (Zc 4 (by rfl)) Zi))) (by rfl) (by rfl) (by rfl) (by rfl)))
 (Yz (Yx (Vl (Zc 2 (by rfl)))) (ZS (VF.cl (Y5 (Zd (Zm (d:=(.bl true)) (by rfl) (by rfl)) (Zd (Zm (d:=(.bl false)) (by rfl) (by rfl)) (Zd (Zm (d:=(.bl true)) (by rfl) (by rfl)) (Zd (Zm (d:=(.bl false)) (by rfl) (by rfl)) Zi))))))) Yy))))
 (ZS (VF.cl (Y5 (Zd (Zm (d:=(.bl false)) (by rfl) (by rfl)) (Zd (Zm (d:=(.bl false)) (by rfl) (by rfl)) (Zd (Zm (d:=(.bl true)) (by rfl) (by rfl)) (Zd (Zm (d:=(.bl false)) (by rfl) (by rfl)) Zi))))))))
theorem ZjZ (T : Txt K mg t) : FnOk P w K mg base CX0 1 t.a_QI t.d_QI ["marks", "ways", "room", "length", "cell"] (spD ⟨t.c,K⟩ 5 JJ) := by
 refine YA (φ:=f_QI) T.f_QI ZjE (by conv => lhs; whnf) (by conv => lhs; whnf) (fun cdv A outer s H E hr => ?_) rfl rfl;refine ⟨_,(Zq (ZF (i:=5) UD (by rfl) (by first | exact Or.inl rfl | exact Or.inr rfl) (V0 [] (by decide +kernel)))
 (Zq ((YS PassesOwn.never (by rfl) (XI (by rfl) T.n_range (Ze (pv 3) Zk)) (ZZ (i:=6) UD) (Zq (Jk (i:=7) UD (by rfl) (by rfl) (by rfl) (CompSc.mk' (tn:=["k"]) (cn:=["ways", "room"]) (js:=[1,2]) (osc:=defScope Vc) (oN:=["marks", "ways", "room", "length", "cell", "row", "step", "open_marks", "k"]) (by rfl) (by rfl) (by rfl) (by decide +kernel)) (XI (by rfl) T.n_range (Ze (ZP (Ye (K:=K)) (by rfl) T.n_len boot_len (Ze (pv 0) Zk)) Zk)) (fun C s₂ H₂ fp => ZZ (i:=0) ZkZ) (fun C s₂ H₂ fp => (Ul (XT (QY (ZB (ZD (K:=K)) (ZB (ZD (K:=K)) (pv 1) (pv 2) (fun _ _ => rfl)) (pv 0) (fun _ _ => rfl)))))) (fun C s₂ H₂ fp => (pv 0)))
 (Zq (ZF (i:=4) UD (by rfl) (by first | exact Or.inl rfl | exact Or.inr rfl) (Zu Z9 (Zu (Yr (K:=K)) (Zu (X2 (K:=K)) (pv 4) Zx) (pv 6)) Zx))
 (Zq (ZF (i:=8) UD (by rfl) (by first | exact Or.inl rfl | exact Or.inr rfl) (ZB (ZD (K:=K)) (pv 7) (Zu Z9 (Zu V5 (pv 4) Zx) (ZP (Ye (K:=K)) (by rfl) T.n_len boot_len (Ze (pv 7) Zk))) (fun _ _ => rfl)))
 (Zq (ZF (i:=5) UD (by rfl) (by first | exact Or.inl rfl | exact Or.inr rfl) (Zu (Yr (K:=K)) (pv 5) (ZB (ZD (K:=K)) (pv 0) (pv 8) (fun _ _ => rfl))))
 (ZA (ZF (i:=2) UD (by rfl) (by first | exact Or.inl rfl | exact Or.inr rfl) (ZB (ZD (K:=K)) (ZB (ZD (K:=K)) (pv 1) (pv 2) (fun _ _ => rfl)) (pv 8) (fun _ _ => rfl))))))))))
 (ZA (ZQ (pv 5))))),[],?_⟩
 unfold f_QI;exact (Zs (show VS _ _ [] _ _ _ _ from (Zw 5 (Zm (d:=(.str [])) (by rfl) (by rfl)) (by rfl) (by rfl) (by rfl) (by rfl)))
 (Zs (Y7 (V2 (Zd (Zc 3 (by rfl)) Zi) Xw) (Z5 6 (by rfl) (by rfl)) (Zs (show VS _ _ [] _ _ _ _ from (Zw 7 (VF.cl (Xx (by rfl) (V2 (Zd (ZX Z3 (Zd (Zc 0 (by rfl)) Zi)) Zi) Xw) (Z5 0 (by rfl) (by rfl)) (Yx (Jc (Zg Zz (Zg Zz (Zc 1 (by rfl)) (Zc 2 (by rfl))) (Zc 0 (by rfl))))) (Zc 0 (by rfl)))) (by rfl) (by rfl) (by rfl) (by rfl)))
 (Zs (show VS _ _ [] _ _ _ _ from (Zw 4 (Zg Yb (Zg Yh (Zg Vs (Zc 4 (by rfl)) (Zm (d:=(.int 48271)) (by rfl) (by rfl))) (Zc 6 (by rfl))) (Zm (d:=(.int 2147483647)) (by rfl) (by rfl))) (by rfl) (by rfl) (by rfl) (by rfl)))
 (Zs (show VS _ _ [] _ _ _ _ from (Zw 8 (Zg Zz (Zc 7 (by rfl)) (Zg Yb (Zg V6 (Zc 4 (by rfl)) (Zm (d:=(.int 7)) (by rfl) (by rfl))) (ZX Z3 (Zd (Zc 7 (by rfl)) Zi)))) (by rfl) (by rfl) (by rfl) (by rfl)))
 (Zs (show VS _ _ [] _ _ _ _ from (Zw 5 (Zg Yh (Zc 5 (by rfl)) (Zg Zz (Zc 0 (by rfl)) (Zc 8 (by rfl)))) (by rfl) (by rfl) (by rfl) (by rfl)))
 (show VS _ _ [] _ _ _ _ from (Zw 2 (Zg Zz (Zg Zz (Zc 1 (by rfl)) (Zc 2 (by rfl))) (Zc 8 (by rfl))) (by rfl) (by rfl) (by rfl) (by rfl))))))))
 (ZS (Zc 5 (by rfl)))))
theorem Zj0 (T : Txt K mg t) : FnOk P w K mg base CX0 1 t.a_QG t.d_QG ["marks", "cell"] (spD ⟨t.c,K⟩ 2 JK) := by
 refine YA (φ:=f_QG) T.f_QG ZjF (by conv => lhs; whnf) (by conv => lhs; whnf) (fun cdv A outer s H E hr => ?_) rfl rfl;refine ⟨_,(Zq (ZF (i:=2) ZkJ (by rfl) (by first | exact Or.inl rfl | exact Or.inr rfl) (V0 [32,33,35,36,38,40,41,42,43,44,45,46,47,58,59,60,61,62,63,64,65,66,67,68,69,70,71,72,73,74,75,76,77,78,79,80,81,82,83,84,85,86,87,88,89,90,91,93,94,95,123,124,125,126,97,98,99,100,101,102,103,104,105,106,107,108,109,110,111,112,113,114,115,116,117,118,119,120,121,122,48,49,50,51,52,53,54,55,56,57] (by decide +kernel)))
 (Zq (Jk (i:=3) ZkJ (by rfl) (by rfl) (by rfl) (CompSc.mk' (tn:=["sign"]) (cn:=["marks"]) (js:=[0]) (osc:=defScope Vd) (oN:=["marks", "cell", "some", "left"]) (by rfl) (by rfl) (by rfl) (by decide +kernel)) (Xs (K:=K) (pv 2)) (fun C s₂ H₂ fp => ZZ (i:=0) Zk0) (fun C s₂ H₂ fp => (Ul (Xg (ZbY (K:=K)) (pv 0) (pv 1) (by rfl)))) (fun C s₂ H₂ fp => (pv 0)))
 (ZA (ZQ (ZB (ZD (K:=K)) (pv 3) (Zu Z9 (pv 1) (ZP (Ye (K:=K)) (by rfl) T.n_len boot_len (Ze (pv 3) Zk))) (fun _ _ => rfl)))))),[],?_⟩
 unfold f_QG;exact (Zs (show VS _ _ [] _ _ _ _ from (Zw 2 (Zm (d:=(.str [32,33,35,36,38,40,41,42,43,44,45,46,47,58,59,60,61,62,63,64,65,66,67,68,69,70,71,72,73,74,75,76,77,78,79,80,81,82,83,84,85,86,87,88,89,90,91,93,94,95,123,124,125,126,97,98,99,100,101,102,103,104,105,106,107,108,109,110,111,112,113,114,115,116,117,118,119,120,121,122,48,49,50,51,52,53,54,55,56,57])) (by rfl) (by rfl)) (by rfl) (by rfl) (by rfl) (by rfl)))
 (Zs (show VS _ _ [] _ _ _ _ from (Zw 3 (VF.cl (Xx (by rfl) (Y8 (Zc 2 (by rfl))) (Z5 0 (by rfl) (by rfl)) (YD (Zg ZfT (Zc 0 (by rfl)) (Zc 1 (by rfl)))) (Zc 0 (by rfl)))) (by rfl) (by rfl) (by rfl) (by rfl)))
 (ZS (Zg Zz (Zc 3 (by rfl)) (Zg Yb (Zc 1 (by rfl)) (ZX Z3 (Zd (Zc 3 (by rfl)) Zi)))))))
theorem Zj1 (T : Txt K mg t) : FnOk P w K mg base CX0 2 t.a_QK t.d_QK ["marks", "ways", "room", "row", "cells", "way"] (spD ⟨t.c,K⟩ 6 QR) := by
 have G_QG := (Zj0 (P:=P) (w:=w) (base:=base) T).mono (k:=1) (by decide);refine YA (φ:=f_QK) T.f_QK ZjG (by conv => lhs; whnf) (by conv => lhs; whnf) (fun cdv A outer s H E hr => ?_) rfl rfl;refine ⟨_,(Zq (ZF (i:=6) VU (by rfl) (by first | exact Or.inl rfl | exact Or.inr rfl) (Zu Z9 (ZB (ZD (K:=K)) (pv 4) Zx (fun _ _ => rfl)) (Zu (Yr (K:=K)) (ZP (Ye (K:=K)) (by rfl) T.n_len boot_len (Ze (pv 3) Zk)) Zx)))
 (Zq (ZF (i:=7) VU (by rfl) (by first | exact Or.inl rfl | exact Or.inr rfl) (pv 2))
 (Zq ((YS PassesOwn.never (by rfl) (Xs (K:=K) (Ui (Um (K:=K)) (pv 3) UN (VW (pv 6)))) (ZZ (i:=8) VU) (ZA (ZF (i:=7) VU (by rfl) (by first | exact Or.inl rfl | exact Or.inr rfl) (ZB (ZD (K:=K)) (ZB (ZD (K:=K)) (pv 1) (pv 7) (fun _ _ => rfl)) (XW (K:=K) PySem.F.plainAttrs_str PySem.F.slot_str_index PySem.F.type_str_index Jh (pv 0) (Ze (pv 8) Zk)) (fun _ _ => rfl))))))
 (Zq (Jk (i:=9) VU (by rfl) (by rfl) (by rfl) (CompSc.mk' (tn:=["k"]) (cn:=["marks", "ways", "here"]) (js:=[0,1,7]) (osc:=defScope Ve) (oN:=["marks", "ways", "room", "row", "cells", "way", "at", "here", "sign", "shut", "strange", "place"]) (by rfl) (by rfl) (by rfl) (by decide +kernel)) (XI (by rfl) T.n_range (Ze (ZP (Ye (K:=K)) (by rfl) T.n_len boot_len (Ze (pv 0) Zk)) Zk)) (fun C s₂ H₂ fp => ZZ (i:=0) Zk1) (fun C s₂ H₂ fp => (Ul (XT (Qj (ZB (ZD (K:=K)) (ZB (ZD (K:=K)) (pv 2) (pv 3) (fun _ _ => rfl)) (pv 0) (fun _ _ => rfl)))))) (fun C s₂ H₂ fp => (ZB (ZD (K:=K)) (pv 1) (pv 0) (fun _ _ => rfl))))
 (Zq (ZF (i:=10) VU (by rfl) (by first | exact Or.inl rfl | exact Or.inr rfl) (Z0 (G_QG) hr (by rfl) T.g_QG T.k_QG T.b_QG .nil Z1 (Ze (pv 0) (Ze (ZB (ZD (K:=K)) (pv 4) Zx (fun _ _ => rfl)) Zk))))
 (Zq (YR (PW.pt (Zfc (Xg (Qz (cA:=⟨t.c,K⟩) (hr.units)) (Zu Z9 (pv 5) Zx) Zx (Xf _)) (Zdb (Xg Zi2 (ZP (Ye (K:=K)) (by rfl) T.n_len boot_len (Ze (pv 9) Zk)) Zx (Xf _))))) (ZA (ZF (i:=3) VU (by rfl) (by first | exact Or.inl rfl | exact Or.inr rfl) (Zu (Yr (K:=K)) (Zu (Yr (K:=K)) (Ui (Um (K:=K)) (pv 3) UN (VW (pv 6))) (ZB (ZD (K:=K)) (pv 9) (Zu Z9 (ZB (ZD (K:=K)) (pv 4) Zx (fun _ _ => rfl)) (ZP (Ye (K:=K)) (by rfl) T.n_len boot_len (Ze (pv 9) Zk))) (fun _ _ => rfl))) (Ui (Um (K:=K)) (pv 3) (VW (pv 6)) UN)))) YQ)
 (Zq (YR (Xg (Qz (cA:=⟨t.c,K⟩) (hr.units)) (Zu Z9 (Zu V5 (pv 5) Zx) Zx) Zx (Xf _)) (Zq (ZF (i:=11) VU (by rfl) (by first | exact Or.inl rfl | exact Or.inr rfl) (Zu Z9 (ZB (ZD (K:=K)) (pv 4) Zx (fun _ _ => rfl)) (Zu (Yr (K:=K)) (ZP (Ye (K:=K)) (by rfl) T.n_len boot_len (Ze (pv 3) Zk)) Zx)))
 (ZA (ZF (i:=3) VU (by rfl) (by first | exact Or.inl rfl | exact Or.inr rfl) (Zu (Yr (K:=K)) (Zu (Yr (K:=K)) (Ui (Um (K:=K)) (pv 3) UN (VW (pv 11))) (pv 10)) (Ui (Um (K:=K)) (pv 3) (VW (pv 11)) UN))))) YQ)
 (ZA (ZQ (pv 3)))))))))),[],?_⟩
 unfold f_QK;exact (Zs (show VS _ _ [] _ _ _ _ from (Zw 6 (Zg Yb (Zg Zz (Zc 4 (by rfl)) (Zm (d:=(.int 0)) (by rfl) (by rfl))) (Zg Yh (ZX Z3 (Zd (Zc 3 (by rfl)) Zi)) (Zm (d:=(.int 1)) (by rfl) (by rfl)))) (by rfl) (by rfl) (by rfl) (by rfl)))
 (Zs (show VS _ _ [] _ _ _ _ from (Zw 7 (Zc 2 (by rfl)) (by rfl) (by rfl) (by rfl) (by rfl)))
 (Zs (Y7 (Y8 (Ur (Or.inl rfl) (Zc 3 (by rfl)) UW (V3 (Zc 6 (by rfl))))) (Z5 8 (by rfl) (by rfl)) (show VS _ _ [] _ _ _ _ from (Zw 7 (Zg Zz (Zg Zz (Zc 1 (by rfl)) (Zc 7 (by rfl))) (UX Ji (Zc 0 (by rfl)) (Zd (Zc 8 (by rfl)) Zi))) (by rfl) (by rfl) (by rfl) (by rfl))))
 (Zs (show VS _ _ [] _ _ _ _ from (Zw 9 (VF.cl (Xx (by rfl) (V2 (Zd (ZX Z3 (Zd (Zc 0 (by rfl)) Zi)) Zi) Xw) (Z5 0 (by rfl) (by rfl)) (Yx (Vl (Zg Zz (Zg Zz (Zc 2 (by rfl)) (Zc 3 (by rfl))) (Zc 0 (by rfl))))) (Zg Zz (Zc 1 (by rfl)) (Zc 0 (by rfl))))) (by rfl) (by rfl) (by rfl) (by rfl)))
 (Zs (show VS _ _ [] _ _ _ _ from (Zw 10 (ZL [] (by rfl) (Zd (Zc 0 (by rfl)) (Zd (Zg Zz (Zc 4 (by rfl)) (Zm (d:=(.int 1)) (by rfl) (by rfl))) Zi))) (by rfl) (by rfl) (by rfl) (by rfl)))
 (Zs (Yz (Zfk (YD (Zg QA (Zg Yb (Zc 5 (by rfl)) (Zm (d:=(.int 2)) (by rfl) (by rfl))) (Zm (d:=(.int 1)) (by rfl) (by rfl)))) (YD (Zg Vk (ZX Z3 (Zd (Zc 9 (by rfl)) Zi)) (Zm (d:=(.int 0)) (by rfl) (by rfl))))) (show VS _ _ [] _ _ _ _ from (Zw 3 (Zg Yh (Zg Yh (Ur (Or.inl rfl) (Zc 3 (by rfl)) UW (V3 (Zc 6 (by rfl)))) (Zg Zz (Zc 9 (by rfl)) (Zg Yb (Zg Zz (Zc 4 (by rfl)) (Zm (d:=(.int 2)) (by rfl) (by rfl))) (ZX Z3 (Zd (Zc 9 (by rfl)) Zi))))) (Ur (Or.inl rfl) (Zc 3 (by rfl)) (V3 (Zc 6 (by rfl))) UW)) (by rfl) (by rfl) (by rfl) (by rfl))) Yy)
 (Zs (Yz (YD (Zg QA (Zg Yb (Zg V6 (Zc 5 (by rfl)) (Zm (d:=(.int 2)) (by rfl) (by rfl))) (Zm (d:=(.int 2)) (by rfl) (by rfl))) (Zm (d:=(.int 1)) (by rfl) (by rfl)))) (Zs (show VS _ _ [] _ _ _ _ from (Zw 11 (Zg Yb (Zg Zz (Zc 4 (by rfl)) (Zm (d:=(.int 3)) (by rfl) (by rfl))) (Zg Yh (ZX Z3 (Zd (Zc 3 (by rfl)) Zi)) (Zm (d:=(.int 1)) (by rfl) (by rfl)))) (by rfl) (by rfl) (by rfl) (by rfl)))
 (show VS _ _ [] _ _ _ _ from (Zw 3 (Zg Yh (Zg Yh (Ur (Or.inl rfl) (Zc 3 (by rfl)) UW (V3 (Zc 11 (by rfl)))) (Zc 10 (by rfl))) (Ur (Or.inl rfl) (Zc 3 (by rfl)) (V3 (Zc 11 (by rfl))) UW)) (by rfl) (by rfl) (by rfl) (by rfl)))) Yy)
 (ZS (Zc 3 (by rfl))))))))))
theorem Zj2 (T : Txt K mg t) : FnOk P w K mg base CX0 6 t.a_QY t.d_QY ["script"] (spD ⟨t.c,K⟩ 1 JL) := by
 have GM_QO := (ZjQ (P:=P) (w:=w) (base:=base) T).mono (k:=4) (by decide);have G_QF := (ZjR (P:=P) (w:=w) (base:=base) T).mono (k:=5) (by decide);have G_QT := (ZjY (P:=P) (w:=w) (base:=base) T).mono (k:=5) (by decide);have G_QH := (ZjS (P:=P) (w:=w) (base:=base) T).mono (k:=5) (by decide);have G_QN := (ZjT (P:=P) (w:=w) (base:=base) T).mono (k:=5) (by decide)
 have G_QA := (ZjX (P:=P) (w:=w) (base:=base) T).mono (k:=5) (by decide);have G_QB := (ZjW (P:=P) (w:=w) (base:=base) T).mono (k:=5) (by decide);have G_QK := (Zj1 (P:=P) (w:=w) (base:=base) T).mono (k:=5) (by decide);have G_QI := (ZjZ (P:=P) (w:=w) (base:=base) T).mono (k:=5) (by decide);have G_QS := (ZjV (P:=P) (w:=w) (base:=base) T).mono (k:=5) (by decide)
 have G_QX := (ZjM (P:=P) (w:=w) (base:=base) T).mono (k:=5) (by decide);have G_QQ := (Zhu (P:=P) (w:=w) (base:=base) T).mono (k:=5) (by decide);have G_QW := (Zht (P:=P) (w:=w) (base:=base) T).mono (k:=5) (by decide);refine YA (φ:=f_QY) T.f_QY ZjH (by conv => lhs; whnf) (by conv => lhs; whnf) (fun cdv A outer s H E hr => ?_) rfl rfl;refine ⟨_,(Zq (ZF (i:=1) XH (by rfl) (by first | exact Or.inl rfl | exact Or.inr rfl) (Z0 (G_QH) hr (by rfl) T.g_QH T.k_QH T.b_QH .nil Z1 (Ze (pv 0) (Ze Zx (Ze Zx Zk)))))
 (Zq (ZF (i:=2) XH (by rfl) (by first | exact Or.inl rfl | exact Or.inr rfl) (Z0 (G_QN) hr (by rfl) T.g_QN T.k_QN T.b_QN .nil Z1 (Ze (Z0 (G_QF) hr (by rfl) T.g_QF T.k_QF T.b_QF .nil Z1 (Ze (pv 0) (Ze Zx Zk))) Zk)))
 (Zq (ZF (i:=3) XH (by rfl) (by first | exact Or.inl rfl | exact Or.inr rfl) (Z0 (G_QS) hr (by rfl) T.g_QS T.k_QS T.b_QS .nil Z1 (Ze (pv 1) (Ze (Zu (Yr (K:=K)) Zx (Zu Z9 (Z0 (G_QF) hr (by rfl) T.g_QF T.k_QF T.b_QF .nil Z1 (Ze (pv 0) (Ze Zx Zk))) Zx)) (Ze (ZP (Ye (K:=K)) (by rfl) T.n_len boot_len (Ze (pv 2) Zk)) Zk)))))
 (Zq (ZF (i:=4) XH (by rfl) (by first | exact Or.inl rfl | exact Or.inr rfl) (Zf9 T.mk_Rooms (GM_QO) hr (by rfl) T.g_Rooms T.b_QO .nil Z1 (Ze (pv 2) (Ze (pv 3) Zk))))
 (Zq (ZF (i:=5) XH (by rfl) (by first | exact Or.inl rfl | exact Or.inr rfl) (Zu Z9 (Z0 (G_QF) hr (by rfl) T.g_QF T.k_QF T.b_QF .nil Z1 (Ze (pv 0) (Ze Zx Zk))) (ZP (Ye (K:=K)) (by rfl) T.n_len boot_len (Ze (pv 3) Zk))))
 (Zq (ZF (i:=6) XH (by rfl) (by first | exact Or.inl rfl | exact Or.inr rfl) (Zu Z9 (Z0 (G_QF) hr (by rfl) T.g_QF T.k_QF T.b_QF .nil Z1 (Ze (pv 0) (Ze Zx Zk))) Zx))
 (Zq (ZF (i:=7) XH (by rfl) (by first | exact Or.inl rfl | exact Or.inr rfl) (Z0 (G_QX) hr (by rfl) T.g_QX T.k_QX T.b_QX .nil Z1 (Ze (pv 4) (Ze (pv 5) (Ze (pv 6) Zk)))))
 (Zq (ZF (i:=8) XH (by rfl) (by first | exact Or.inl rfl | exact Or.inr rfl) (Zu Z9 (Z0 (G_QF) hr (by rfl) T.g_QF T.k_QF T.b_QF .nil Z1 (Ze (pv 0) (Ze Zx Zk))) (Zu ZhP Zx Zx)))
 (Zq ((YS PassesOwn.never (by rfl) (Xs (K:=K) (YJ (Ze (Qp Qs Zx) (Ze (pv 7) (Ze (Zu (Yr (K:=K)) (pv 7) (pv 8)) (Ze (Zu Qr (Qp Qs Zx) (pv 8)) Zk)))))) (ZZ (i:=9) XH) (Zq (YR (Zfd (Zfb (Z0 (G_QB) hr (by rfl) T.g_QB T.k_QB T.b_QB .nil Z1 (Ze (pv 4) (Ze (pv 5) (Ze (pv 6) (Ze (pv 9) Zk))))))) (ZA (ZQ ZV)) YQ)
 (ZA (YR (Xg (ZcY (cA:=⟨t.c,K⟩) (hr.units)) (Z0 (G_QQ) hr (by rfl) T.g_QQ T.k_QQ T.b_QQ .nil Zfs (Ze (pv 4) (Ze (pv 5) (Ze (Z0 (G_QW) hr (by rfl) T.g_QW T.k_QW T.b_QW .nil Zfs (Ze (pv 4) (Ze (pv 5) (Ze (pv 6) (Ze (Zu Z9 (pv 8) (pv 7)) Zk))))) Zk)))) (Zu Z9 (pv 8) (pv 7)) (Xf _)) (ZA (ZQ ZV)) YQ)))))
 (Zq (ZF (i:=10) XH (by rfl) (by first | exact Or.inl rfl | exact Or.inr rfl) (Z0 (G_QI) hr (by rfl) T.g_QI T.k_QI T.b_QI .nil Z1 (Ze (pv 2) (Ze (pv 3) (Ze (pv 5) (Ze (pv 6) (Ze (ZB (ZD (K:=K)) (pv 1) Zx (fun _ _ => rfl)) Zk)))))))
 (Zq ((YS PassesOwn.never (by rfl) (XI (by rfl) T.n_range (Ze Zx Zk)) (ZZ (i:=11) XH) (Zq (ZF (i:=12) XH (by rfl) (by first | exact Or.inl rfl | exact Or.inr rfl) (Z0 (G_QK) hr (by rfl) T.g_QK T.k_QK T.b_QK .nil Z1 (Ze (pv 2) (Ze (pv 3) (Ze (pv 5) (Ze (pv 10) (Ze (Ui (Um (K:=K)) (pv 1) (VW (Zu (Yr (K:=K)) Zx (Zu (X2 (K:=K)) Zx (pv 11)))) (VW (Zu (Yr (K:=K)) Zx (Zu (X2 (K:=K)) Zx (pv 11))))) (Ze (pv 11) Zk))))))))
 (Zq (YR (Xg (ZcY (cA:=⟨t.c,K⟩) (hr.units)) (Z0 (G_QA) hr (by rfl) T.g_QA T.k_QA T.b_QA .nil Z1 (Ze (pv 4) (Ze (pv 5) (Ze (pv 12) Zk)))) (Z0 (G_QT) hr (by rfl) T.g_QT T.k_QT T.b_QT .nil Z1 (Ze (pv 2) (Ze (pv 3) (Ze (pv 5) (Ze (pv 12) Zk))))) (Xf _)) (ZA (ZQ ZV)) YQ)
 (ZA (YR (Xg (ZcY (cA:=⟨t.c,K⟩) (hr.units)) (Z0 (G_QA) hr (by rfl) T.g_QA T.k_QA T.b_QA .nil Z1 (Ze (pv 4) (Ze (pv 5) (Ze (pv 10) Zk)))) (YJ (Ze ZV (Ze ZV (Ze ZV (Ze ZV Zk))))) (Xf _)) (ZA (ZQ ZV)) YQ))))))
 (ZA (ZQ ZV))))))))))))),[],?_⟩
 unfold f_QY;exact (Zs (show VS _ _ [] _ _ _ _ from (Zw 1 (ZL [] (by rfl) (Zd (Zc 0 (by rfl)) (Zd (Zm (d:=(.int 5)) (by rfl) (by rfl)) (Zd (Zm (d:=(.int 30)) (by rfl) (by rfl)) Zi)))) (by rfl) (by rfl) (by rfl) (by rfl)))
 (Zs (show VS _ _ [] _ _ _ _ from (Zw 2 (ZL [] (by rfl) (Zd (ZL [] (by rfl) (Zd (Zc 0 (by rfl)) (Zd (Zm (d:=(.int 0)) (by rfl) (by rfl)) Zi))) Zi)) (by rfl) (by rfl) (by rfl) (by rfl)))
 (Zs (show VS _ _ [] _ _ _ _ from (Zw 3 (ZL [] (by rfl) (Zd (Zc 1 (by rfl)) (Zd (Zg Yh (Zm (d:=(.int 1)) (by rfl) (by rfl)) (Zg Yb (ZL [] (by rfl) (Zd (Zc 0 (by rfl)) (Zd (Zm (d:=(.int 1)) (by rfl) (by rfl)) Zi))) (Zm (d:=(.int 6)) (by rfl) (by rfl)))) (Zd (ZX Z3 (Zd (Zc 2 (by rfl)) Zi)) Zi)))) (by rfl) (by rfl) (by rfl) (by rfl)))
 (Zs (show VS _ _ [] _ _ _ _ from (Zw 4 (Zgk (c:="Rooms") [] (by rfl) (Zd (Zc 2 (by rfl)) (Zd (Zc 3 (by rfl)) Zi))) (by rfl) (by rfl) (by rfl) (by rfl)))
 (Zs (show VS _ _ [] _ _ _ _ from (Zw 5 (Zg Yb (ZL [] (by rfl) (Zd (Zc 0 (by rfl)) (Zd (Zm (d:=(.int 2)) (by rfl) (by rfl)) Zi))) (ZX Z3 (Zd (Zc 3 (by rfl)) Zi))) (by rfl) (by rfl) (by rfl) (by rfl)))
 (Zs (show VS _ _ [] _ _ _ _ from (Zw 6 (Zg Yb (ZL [] (by rfl) (Zd (Zc 0 (by rfl)) (Zd (Zm (d:=(.int 3)) (by rfl) (by rfl)) Zi))) (Zm (d:=(.int 13)) (by rfl) (by rfl))) (by rfl) (by rfl) (by rfl) (by rfl)))
 (Zs (show VS _ _ [] _ _ _ _ from (Zw 7 (ZL [] (by rfl) (Zd (Zc 4 (by rfl)) (Zd (Zc 5 (by rfl)) (Zd (Zc 6 (by rfl)) Zi)))) (by rfl) (by rfl) (by rfl) (by rfl)))
 (Zs (show VS _ _ [] _ _ _ _ from (Zw 8 (Zg Yb (ZL [] (by rfl) (Zd (Zc 0 (by rfl)) (Zd (Zm (d:=(.int 4)) (by rfl) (by rfl)) Zi))) (Zg Zgm (Zm (d:=(.int 10)) (by rfl) (by rfl)) (Zm (d:=(.int 17)) (by rfl) (by rfl)))) (by rfl) (by rfl) (by rfl) (by rfl)))
 (Zs (Y7 (Y8 (VF.cl (Y5 (Zd (Vm (Zm (d:=(.int 1)) (by rfl) (by rfl))) (Zd (Zc 7 (by rfl)) (Zd (Zg Yh (Zc 7 (by rfl)) (Zc 8 (by rfl))) (Zd (Zg Xk (Vm (Zm (d:=(.int 1)) (by rfl) (by rfl))) (Zc 8 (by rfl))) Zi))))))) (Z5 9 (by rfl) (by rfl)) (Zs (Yz (Jb (Yx (ZL [] (by rfl) (Zd (Zc 4 (by rfl)) (Zd (Zc 5 (by rfl)) (Zd (Zc 6 (by rfl)) (Zd (Zc 9 (by rfl)) Zi))))))) (ZS (Zm (d:=(.bl false)) (by rfl) (by rfl))) Yy)
 (Yz (YD (Zg ZfS (Jn [] (by rfl) (Zd (Zc 4 (by rfl)) (Zd (Zc 5 (by rfl)) (Zd (Jn [] (by rfl) (Zd (Zc 4 (by rfl)) (Zd (Zc 5 (by rfl)) (Zd (Zc 6 (by rfl)) (Zd (Zg Yb (Zc 8 (by rfl)) (Zc 7 (by rfl))) Zi))))) Zi)))) (Zg Yb (Zc 8 (by rfl)) (Zc 7 (by rfl))))) (ZS (Zm (d:=(.bl false)) (by rfl) (by rfl))) Yy)))
 (Zs (show VS _ _ [] _ _ _ _ from (Zw 10 (ZL [] (by rfl) (Zd (Zc 2 (by rfl)) (Zd (Zc 3 (by rfl)) (Zd (Zc 5 (by rfl)) (Zd (Zc 6 (by rfl)) (Zd (Zg Zz (Zc 1 (by rfl)) (Zm (d:=(.int 5)) (by rfl) (by rfl))) Zi)))))) (by rfl) (by rfl) (by rfl) (by rfl)))
 (Zs (Y7 (V2 (Zd (Zm (d:=(.int 4)) (by rfl) (by rfl)) Zi) Xw) (Z5 11 (by rfl) (by rfl)) (Zs (show VS _ _ [] _ _ _ _ from (Zw 12 (ZL [] (by rfl) (Zd (Zc 2 (by rfl)) (Zd (Zc 3 (by rfl)) (Zd (Zc 5 (by rfl)) (Zd (Zc 10 (by rfl)) (Zd (Ur (Or.inl rfl) (Zc 1 (by rfl)) (V3 (Zg Yh (Zm (d:=(.int 6)) (by rfl) (by rfl)) (Zg Vs (Zm (d:=(.int 4)) (by rfl) (by rfl)) (Zc 11 (by rfl))))) (V3 (Zg Yh (Zm (d:=(.int 10)) (by rfl) (by rfl)) (Zg Vs (Zm (d:=(.int 4)) (by rfl) (by rfl)) (Zc 11 (by rfl)))))) (Zd (Zc 11 (by rfl)) Zi))))))) (by rfl) (by rfl) (by rfl) (by rfl)))
 (Zs (Yz (YD (Zg ZfS (ZL [] (by rfl) (Zd (Zc 4 (by rfl)) (Zd (Zc 5 (by rfl)) (Zd (Zc 12 (by rfl)) Zi)))) (ZL [] (by rfl) (Zd (Zc 2 (by rfl)) (Zd (Zc 3 (by rfl)) (Zd (Zc 5 (by rfl)) (Zd (Zc 12 (by rfl)) Zi))))))) (ZS (Zm (d:=(.bl false)) (by rfl) (by rfl))) Yy)
 (Yz (YD (Zg ZfS (ZL [] (by rfl) (Zd (Zc 4 (by rfl)) (Zd (Zc 5 (by rfl)) (Zd (Zc 10 (by rfl)) Zi)))) (VF.cl (Y5 (Zd (Zm (d:=(.bl false)) (by rfl) (by rfl)) (Zd (Zm (d:=(.bl false)) (by rfl) (by rfl)) (Zd (Zm (d:=(.bl true)) (by rfl) (by rfl)) (Zd (Zm (d:=(.bl false)) (by rfl) (by rfl)) Zi)))))))) (ZS (Zm (d:=(.bl false)) (by rfl) (by rfl))) Yy))))
 (ZS (Zm (d:=(.bl true)) (by rfl) (by rfl))))))))))))))
end
end K22
namespace K22
open DL L2
theorem Yk {i j : Int} (h : 0 < j) : modW (.int i) (.int j) = some (.int (i % j)) := (ZgJ (by omega)).trans (by rw [Int.fmod_eq_emod_of_nonneg i (by omega)])
theorem Zk2 {j : Int} (h0 : 0 < j) (h1 : j < 10000000000000000000) : Wd j := by
 unfold Wd;have : j.natAbs < 10000000000000000000 := by omega
 exact Nat.lt_trans this (by decide +kernel)
theorem UF {i j : Int} (h0 : 0 < j) (h1 : j < 10000000000000000000) : fdivW (.int i) (.int j) = some (.int (i / j)) := (ZeX (by omega) (Zk2 h0 h1)).trans (by rw [Int.fdiv_eq_ediv_of_nonneg i (by omega)])
theorem ZgO (ns : List Int) (k : Nat) : X5 [.lst (ns.map D.int),.int k] = some (.int (ns.getD k 0)) := by
 by_cases h : k < ns.length
 · have hz : atI (ns.map D.int) (k : Int) = some (.int (ns.getD k 0)) := by
    refine Qt ?_;rw [List.getElem?_map,List.getElem?_eq_getElem h,List.getD_eq_getElem?_getD,List.getElem?_eq_getElem h];rfl
   simp [X5,f_QF,h,hz,DL.run,DL.runI,Zf,sIf,Zv,Zhk,sNext,Zh,Vn,Vp,Zhl,sNever,xB,bD,Xl,Xu,xOr,Za,eC,eOp,Up,eOr,ZkC,eIf,Z2,YF,Y4,Zfl,eUn,YG,eNil,Zb,ZK,ZkD,eCB,lenD,ZkE,ZkF,Zp,V4,Vq,ZY,eSl,xP,xNoP,addD,subD,ZkA,Zhi,ZkB,Yg,ixD,isD,eBM,ZkG,ZiO,kind,plainKinds,U7,ZbC,ZdE,Zc3,Zc4,Zc5,ZbD,ZdF,Zfx,Zfy,Zfz,List.lookup,Qq,CMul,PySem.sizeLine_eq,List.replicate]
 · have hz : ns.getD k 0 = 0 := by rw [List.getD_eq_getElem?_getD,List.getElem?_eq_none (by omega)]; rfl
   simp [X5,f_QF,h,hz,DL.run,DL.runI,Zf,sIf,Zv,Zhk,sNext,Zh,Vn,Vp,Zhl,sNever,xB,bD,Xl,Xu,xOr,Za,eC,eOp,Up,eOr,ZkC,eIf,Z2,YF,Y4,Zfl,eUn,YG,eNil,Zb,ZK,ZkD,eCB,lenD,ZkE,ZkF,Zp,V4,Vq,ZY,eSl,xP,xNoP,addD,subD,ZkA,Zhi,ZkB,Yg,ixD,isD,eBM,ZkG,ZiO,kind,plainKinds,U7,ZbC,ZdE,Zc3,Zc4,Zc5,ZbD,ZdF,Zfx,Zfy,Zfz,List.lookup,Qq,CMul,PySem.sizeLine_eq,List.replicate]
def SG : List Nat := [97,98,99,100,101,102,103,104,105,106,107,108,109,110,111,112,113,114,115,116,117,118,119,120,121,122,48,49,50,51,52,53,54,55,56,57]
structure Mk (M : List Nat) : Prop where
 lo : 2 <= M.length
 hi : M.length <= 4
 nd : M.Nodup
 cd : Zji M
 sp : 32 ∉ M
 sm : ∀ c ∈ M,c < 128
theorem Zj3 {i : Int} (h0 : 0 <= i) (h1 : i < 36) : atI SG i = some (SG.getD i.toNat 0) := by
 obtain ⟨x,h2,h3⟩ := Zia (xs:=SG) h0 (by rw [show SG.length = 36 from rfl]; exact h1);rw [h2,List.getD_eq_getElem?_getD,h3];rfl
def mk1 (c : Int) (k : Nat) : Nat := SG.getD ((c / 3 + 5 * (k : Int)) % 36).toNat 0
noncomputable def mkE : DL.Env -> Option D := (eOp ixD (Za 1) (eOp modW (eOp addX (eOp fdivW (Za 2) (eC (.int 3))) (eOp mulX (eC (.int 5)) (Za 0))) (eCB lenD (Zb (Za 1) eNil))))
theorem Zic (c : Int) (k : Nat) (hk : k <= 100) : mkE [some (.int k),some (.str SG),some (.int c)] = some (.str [mk1 c k]) := by
 have e2 : eOp fdivW (Za 2) (eC (.int 3)) [some (.int k),some (.str SG),some (.int c)] = some (.int (c / 3)) := (Zn (x:=.int c) (y:=.int 3) rfl rfl).trans (UF (by decide) (by decide));have e3 : eOp mulX (eC (.int 5)) (Za 0) [some (.int k),some (.str SG),some (.int c)] = some (.int (5 * (k : Int))) := (Zn (x:=.int 5) (y:=.int (k : Int)) rfl rfl).trans (Jw (by omega) (by omega));have e4 : eCB lenD (Zb (Za 1) eNil) [some (.int k),some (.str SG),some (.int c)] = some (.int 36) := rfl
 exact (Zn rfl ((Zn ((Zn e2 e3).trans (add_int _ _)) e4).trans (Yk (by decide)))).trans (ZdG (by decide) (Zj3 (by omega) (by omega)))
def mkF (c : Int) : D -> D
 | .int k => .str [mk1 c k.toNat]
 | _ => .non
theorem Zid : ∀ i j : Fin 36,SG.getD i.val 0 = SG.getD j.val 0 -> i = j := by decide
theorem Zj4 (i : Nat) : SG.getD i 0 < 1114112 := by
 by_cases h : i < 36
 · exact (show ∀ i : Fin 36,SG.getD i.val 0 < 1114112 by decide) ⟨i,h⟩
 · rw [List.getD_eq_getElem?_getD,List.getElem?_eq_none (by show 36 <= i; omega)]
   decide
theorem Zie (c : Int) {i j : Nat} (hi : i < 4) (hj : j < 4) (h : mk1 c i = mk1 c j) : i = j := by
 unfold mk1 at h;have := Zid ⟨_,(show ((c / 3 + 5 * (i : Int)) % 36).toNat < 36 by omega)⟩ ⟨_,(show ((c / 3 + 5 * (j : Int)) % 36).toNat < 36 by omega)⟩ h;have e : ((c / 3 + 5 * (i : Int)) % 36).toNat = ((c / 3 + 5 * (j : Int)) % 36).toNat := congrArg Fin.val this;omega
theorem ZeY : f_QN = Zf (Zh 1 (eC (.str SG))) (Zv (eBM joinD (eC (.str [])) (Zb (ZT (ZE (Zb (eOp addX (eC (.int 2)) (eOp modW (Za 0) (eC (.int 3)))) eNil)) (Zo 0) (fun _ => some true) mkE 1 [1,0]) eNil))) := rfl
theorem Zj5 (i : Nat) : SG.getD i 0 ≠ 32 := by
 by_cases h : i < 36
 · exact (show ∀ i : Fin 36,SG.getD i.val 0 ≠ 32 by decide) ⟨i,h⟩
 · rw [List.getD_eq_getElem?_getD,List.getElem?_eq_none (by show 36 <= i; omega)]
   decide
theorem Zj6 (i : Nat) : SG.getD i 0 < 128 := by
 by_cases h : i < 36
 · exact (show ∀ i : Fin 36,SG.getD i.val 0 < 128 by decide) ⟨i,h⟩
 · rw [List.getD_eq_getElem?_getD,List.getElem?_eq_none (by show 36 <= i; omega)]
   decide
theorem ZeZ (c : Int) : ∃ M,Mk M /\ JE [.int c] = some (.str M) := by
 obtain ⟨n,hn⟩ := Zc8 (show 0 <= 2 + c % 3 by omega)
 have hcomp : Z6 (Zo 0) (fun _ => some true) mkE [none,some (.str SG),some (.int c)] (ZG 0 1 n) = some ((List.range n).map fun k => .str [mk1 c k]) := by
  rw [Zbf (mkF c)]
  · unfold ZG
    rw [List.map_map]
    congr 1
    refine List.map_congr_left fun k _ => ?_
    show mkF c (.int (0 + (k : Int) * 1)) = _;rw [show (0 + (k : Int) * 1) = k by omega];rfl
  · intro x hx
    obtain ⟨i,hi,rfl⟩ := ZbF hx;rw [show (0 + (i : Int) * 1) = i by omega];exact ⟨_,rfl,Zic c i (by omega)⟩
 have hj := Zbh (mk1 c) (List.range n) (by rw [List.length_range,PySem.sizeLine_eq]; omega)
 have hr : ZE (Zb (eOp addX (eC (.int 2)) (eOp modW (Za 0) (eC (.int 3)))) eNil) [some (.int c),some (.str SG)] = some (ZG 0 1 n) := by
  refine (XB (j:=(n : Int)) (Zj ?_ nil_of) (by omega) (by omega)).trans (by rw [Int.toNat_natCast]);refine (Zn (x:=.int 2) (y:=.int (c % 3)) rfl ((Zn (x:=.int c) (y:=.int 3) rfl rfl).trans (Yk (by decide)))).trans ?_;rw [add_int,hn]
 have hc : ZT (ZE (Zb (eOp addX (eC (.int 2)) (eOp modW (Za 0) (eC (.int 3)))) eNil)) (Zo 0) (fun _ => some true) mkE 1 [1,0] [some (.int c),some (.str SG)] = some (.lst ((List.range n).map fun k => .str [mk1 c k])) :=
  XC hr rfl hcomp (by rw [List.length_map,List.length_range]; omega)
 refine ⟨(List.range n).map (mk1 c),⟨by simp; omega,by simp; omega,?_,fun x hx => by obtain ⟨k,_,rfl⟩ := List.mem_map.mp hx; exact Zj4 _,fun hx => by obtain ⟨k,_,e⟩ := List.mem_map.mp hx; exact Zj5 _ e,fun c hc => by obtain ⟨k,_,rfl⟩ := List.mem_map.mp hc; exact Zj6 _⟩,?_⟩
 · rw [List.Nodup,List.pairwise_iff_getElem]
   intro i j hi hj hij;simp at hi hj ⊢;intro z;have := Zie c (by omega) (by omega) z;omega
 · have h : f_QN [some (.int c), none] = some (.rt (.str ((List.range n).map (mk1 c)))) := by
    rw [ZeY,Zr (δ' := [some (.int c),some (.str SG)]) rfl];exact Yo ((Qa rfl (Zj hc nil_of)).trans hj)
   exact Yj rfl h
abbrev Wy := List (List (Option Nat))
def oD : Option Nat -> D
 | none => .non
 | some a => .int (a : Int)
def Yl (r : List (Option Nat)) : D := .lst (r.map oD)
def Ym (r : List (Option Nat)) : D := .tup (r.map oD)
structure Ok1 (m n : Nat) (r : List (Option Nat)) : Prop where
 ln : r.length = n
 pl : ∀ a,some a ∈ r -> a < m
structure Ok (m n : Nat) (W : Wy) : Prop where
 m0 : 0 < m
 m6 : m <= 6
 n2 : 2 <= n
 n4 : n <= 4
 ln : W.length = m
 rw : ∀ r ∈ W,Ok1 m n r
def YI (W : Wy) : D := .lst (W.map Yl)
def put (W : Wy) (a k : Nat) (x : Option Nat) : Wy := W.set a ((W.getD a []).set k x)
theorem Ok1.set {m n : Nat} {r : List (Option Nat)} {k : Nat} {x : Nat} (h : Ok1 m n r) (hx : x < m) : Ok1 m n (r.set k (some x)) := ⟨by rw [List.length_set]; exact h.ln,fun a ha => by
 rcases List.mem_or_eq_of_mem_set ha with h1 | h1
 · exact h.pl a h1
 · cases h1; exact hx⟩
theorem Ok.row {m n : Nat} {W : Wy} (h : Ok m n W) {a : Nat} (ha : a < m) : ∃ r,W[a]? = some r /\ W.getD a [] = r /\ Ok1 m n r := by
 have hl : a < W.length := by rw [h.ln]; exact ha
 refine ⟨W[a],List.getElem?_eq_getElem hl,?_,h.rw _ (List.getElem_mem hl)⟩;rw [List.getD_eq_getElem?_getD,List.getElem?_eq_getElem hl];rfl
theorem Ok.put {m n : Nat} {W : Wy} (h : Ok m n W) {a k x : Nat} (ha : a < m) (hx : x < m) : Ok m n (put W a k (some x)) := by
 obtain ⟨r,h1,h2,h3⟩ := h.row ha;refine ⟨h.m0,h.m6,h.n2,h.n4,by unfold K22.put; rw [List.length_set]; exact h.ln,fun r' hr' => ?_⟩;unfold K22.put at hr';rcases List.mem_or_eq_of_mem_set hr' with h4 | h4
 · exact h.rw r' h4
 · rw [h4,h2]; exact h3.set hx
theorem ZdJ {i : Nat} {κ1 κ2 ε : DL.Env -> Option D} {δ : DL.Env} {m n : Nat} {W : Wy} (h : Ok m n W) {a k x : Nat} (ha : a < m) (hk : k < n) (hv : Za i δ = some (YI W)) (h1 : κ1 δ = some (.int (a : Int))) (h2 : κ2 δ = some (.int (k : Int))) (h3 : ε δ = some (.int (x : Int))) : Vu i κ1 κ2 ε δ = some (.nx (δ.set i (some (YI (put W a k (some x)))))) := by
 obtain ⟨r,hr1,hr2,hr3⟩ := h.row ha;have hW := h.ln;have e1 : YV ε δ = some (.int (x : Int)) := by unfold YV; rw [h3]; rfl
 unfold Vu;rw [e1,hv,h1,h2];unfold YI;dsimp only;rw [List.length_map,ZbG (by omega)];dsimp only;rw [List.getElem?_map,hr1]
 show (match ixN (r.map oD).length (k : Int) with
  | some l => some (Out.nx (δ.set i (some (.lst ((W.map Yl).set a (.lst ((r.map oD).set l (.int (x : Int)))))))))
  | none => none) = _
 rw [List.length_map,ZbG (by rw [hr3.ln]; exact hk)];dsimp only;unfold put;rw [hr2,List.map_set];unfold Yl;rw [List.map_set];rfl
theorem ZfC {κ0 κ1 : DL.Env -> Option D} {δ : DL.Env} {m n : Nat} {W : Wy} (h : Ok m n W) {a : Nat} (ha : a < m) (hv : κ0 δ = some (YI W)) (h1 : κ1 δ = some (.int (a : Int))) : eOp ixD κ0 κ1 δ = some (Yl (W.getD a [])) := by
 obtain ⟨r,hr1,hr2,hr3⟩ := h.row ha;rw [hr2];exact (Zn hv h1).trans (XR (by rw [List.getElem?_map,hr1]; rfl))
theorem Zch (x : Option Nat) : Y4 (oD x) = x.isNone := by cases x <;> rfl
theorem Ze0 {ε : DL.Env -> Option D} {δ : DL.Env} {d : D} (h : ε δ = some d) (hs : Zy d = true) : YV ε δ = some d := by unfold YV; rw [h]; exact if_pos hs
theorem ZgP {i : Nat} {φ : DL.Env -> Option Out} {δ δ' : DL.Env} (h : φ (δ.set i none) = some (.nx δ')) (hi : δ'[i]? = some none) : Ys i φ δ = some (.nx (δ'.set i ((δ[i]?).getD none))) := by
 unfold Ys;rw [h];dsimp only;rw [hi]
end K22
namespace K22
open DL L2
abbrev IL (w : List Int) : D := .lst (w.map D.int)
theorem Zif {xs : List Int} {i : Nat} {δ : DL.Env} (h : Za i δ = some (IL xs)) : eCB lenD (Zb (Za i) eNil) δ = some (.int (xs.length : Int)) := by
 refine (Yt (Zj h nil_of)).trans ?_;rw [Jx,List.length_map]
theorem Zeo {γ : D -> DL.Env -> Option DL.Env} {ε : DL.Env -> Option D} {δ0 δ1 : DL.Env} {x y : D} {r ys : List D} (h1 : γ x δ0 = some δ1) (h2 : ε δ1 = some y) (h3 : Z6 γ (fun _ => some true) ε δ0 r = some ys) : Z6 γ (fun _ => some true) ε δ0 (x :: r) = some (y :: ys) := by
 unfold Z6;rw [h1];dsimp only;rw [h2,h3]
theorem JM {α : Type} (emb g : α -> D) {ε : DL.Env -> Option D} {δ0 : DL.Env} : ∀ L : List α,(∀ a ∈ L,ε (δ0.set 0 (some (emb a))) = some (g a)) -> Z6 (Zo 0) (fun _ => some true) ε δ0 (L.map emb) = some (L.map g)
 | [],_ => rfl
 | a :: L,h => by
  rw [List.map_cons,List.map_cons];exact Zeo (δ1:=δ0.set 0 (some (emb a))) rfl (h a List.mem_cons_self) (JM emb g L fun x hx => h x (List.mem_cons_of_mem _ hx))
theorem Ze1 {ε : DL.Env -> Option D} {δ0 : DL.Env} (g : Nat -> D) (m : Nat) (h : ∀ j : Nat,j < m -> ε (δ0.set 0 (some (.int (j : Int)))) = some (g j)) : Z6 (Zo 0) (fun _ => some true) ε δ0 (ZG 0 1 m) = some ((List.range m).map g) := by
 unfold ZG;refine JM (fun k : Nat => D.int (0 + (k : Int) * 1)) g (List.range m) fun j hj => ?_
 show ε (δ0.set 0 (some (.int (0 + (j : Int) * 1)))) = _;rw [show (0 + (j : Int) * 1) = j by omega];exact h j (List.mem_range.mp hj)
theorem ZaT {ε : DL.Env -> Option D} {δ : DL.Env} {xs : List D} (h : ε δ = some (.lst xs)) : ZH ε δ = some xs := by
 unfold ZH;rw [h]
theorem Zep {i : Nat} {κ ε : DL.Env -> Option D} {δ : DL.Env} {xs : List Int} {k : Nat} {x : Int} (hk : k < xs.length) (hv : Za i δ = some (IL xs)) (h1 : κ δ = some (.int (k : Int))) (h2 : ε δ = some (.int x)) : U1 i κ ε δ = some (.nx (δ.set i (some (IL (xs.set k x))))) := by
 unfold U1;rw [h2,hv,h1];dsimp only;rw [List.length_map,ZbG hk];dsimp only;rw [<- List.map_set]
theorem Qf {i : Nat} {φ : DL.Env -> Option Out} {δ δ0 δ' δ'' : DL.Env} (e : δ.set i none = δ0) (h : φ δ0 = some (.nx δ')) (hi : δ'[i]? = some none) (hr : δ'.set i ((δ[i]?).getD none) = δ'') : Ys i φ δ = some (.nx δ'') := by
 subst e hr;exact ZgP h hi
noncomputable def fo1 : DL.Env -> Option Out := (Zh 5 (eOp modW (eOp subD (Za 4) (Za 1)) (Za 2)))
noncomputable def fo2 : DL.Env -> Option Out := (U1 3 (Za 5) (eOp modW (eOp addX (eOp mulX (eOp ixD (Za 3) (Za 5)) (eC (.int 31))) (eOp ixD (Za 0) (Za 4))) (eC (.int 1000000000039))))
theorem Zeq : f_QH = Zf (Zh 3 (ZT (ZE (Zb (Za 2) eNil)) (Zo 0) (fun _ => some true) (eOp addX (eOp mulX (Za 0) (Za 0)) (Za 0)) 1 [])) (Zf (ZJ (ZE (Zb (Za 1) (Zb (eCB lenD (Zb (Za 0) eNil)) eNil))) (Zo 4) (Zf fo1 fo2)) (Zv (Za 3))) := rfl
abbrev FE (ns : List Int) (cs : List Int) (v4 v5 : Option D) (b : Int) : DL.Env := [some (IL ns),some (.int b),some (.int 30),some (IL cs),v4,v5]
theorem Zer (ns : List Int) (b : Nat) (hb : b <= 10) (hl : ns.length <= 63) : ∃ cs : List Int,cs.length = 30 /\ JD [IL ns,.int (b : Int),.int 30] = some (IL cs) := by
 have hc := Ze1 (ε:=eOp addX (eOp mulX (Za 0) (Za 0)) (Za 0)) (δ0:=[none]) (fun k : Nat => D.int ((k : Int) * (k : Int) + (k : Int))) 30 (fun k hk => by
  refine (Zn (x:=.int ((k : Int) * k)) (y:=.int (k : Int)) ((Zn (x:=.int (k : Int)) (y:=.int (k : Int)) rfl rfl).trans (Jw (by omega) (by omega))) rfl).trans (add_int _ _))
 have e0 : ((List.range 30).map fun k : Nat => D.int ((k : Int) * (k : Int) + (k : Int))) = ((List.range 30).map fun k : Nat => (k : Int) * (k : Int) + (k : Int)).map D.int := by rw [List.map_map]; rfl
 rw [e0] at hc;have hlen0 : ((List.range 30).map fun k : Nat => (k : Int) * (k : Int) + (k : Int)).length = 30 := by simp
 generalize ((List.range 30).map fun k : Nat => (k : Int) * (k : Int) + (k : Int)) = c0 at *;have t0 : Zh 3 (ZT (ZE (Zb (Za 2) eNil)) (Zo 0) (fun _ => some true) (eOp addX (eOp mulX (Za 0) (Za 0)) (Za 0)) 1 []) [some (IL ns),some (.int (b : Int)),some (.int 30),none,none,none] = some (.nx (FE ns c0 none none (b : Int))) := ZI (XC (XB (j:=30) rfl (by decide) (by decide)) rfl hc (by rw [List.length_map,hlen0]; decide))
 obtain ⟨δ',h1,cs,v4,v5,e,hcl⟩ := Jv (γ:=Zo 4) (φ:=Zf fo1 fo2) (fun δ => ∃ cs v4 v5,δ = FE ns cs v4 v5 (b : Int) /\ cs.length = 30) (ZG (b : Int) 1 ((ns.length : Int) - b).toNat) (FE ns c0 none none (b : Int)) ⟨_,_,_,rfl,hlen0⟩ (by
  intro x hx δ ⟨cs,v4,v5,e,hcl⟩;subst e;obtain ⟨k,hk,rfl⟩ := ZbF hx;rw [show ((b : Int) + (k : Int) * 1) = ((b + k : Nat) : Int) by omega];obtain ⟨at',ha,ha30⟩ := XE (k : Int) (m:=30) (by decide)
  have t1 : fo1 (FE ns cs (some (.int ((b + k : Nat) : Int))) v5 (b : Int)) = some (.nx (FE ns cs (some (.int ((b + k : Nat) : Int))) (some (.int (at' : Int))) (b : Int))) := by
   unfold fo1;refine ZI ((Zn (x:=.int (k : Int)) (y:=.int 30) ((Zn (x:=.int ((b + k : Nat) : Int)) (y:=.int (b : Int)) rfl rfl).trans ?_) rfl).trans ((Yk (by decide)).trans ?_))
   · show some (D.int (((b + k : Nat) : Int) - (b : Int))) = _
     exact congrArg (fun z => some (D.int z)) (by omega)
   · exact congrArg (fun z => some (D.int z)) ha
  have t2 : fo2 (FE ns cs (some (.int ((b + k : Nat) : Int))) (some (.int (at' : Int))) (b : Int)) = some (.nx (FE ns (cs.set at' ((cs.getD at' 0 * 31 + ns.getD (b + k) 0) % 1000000000039)) (some (.int ((b + k : Nat) : Int))) (some (.int (at' : Int))) (b : Int))) := by
   unfold fo2;refine (Zep (by omega) rfl rfl ((Zn (x:=.int (cs.getD at' 0 * 31 + ns.getD (b + k) 0)) (y:=.int 1000000000039) ((Zn (x:=.int (cs.getD at' 0 * 31)) (y:=.int (ns.getD (b + k) 0)) ((Zn (x:=.int (cs.getD at' 0)) (y:=.int 31) ((Zn (x:=IL cs) (y:=.int (at' : Int)) rfl rfl).trans (XD (by omega))) rfl).trans (Jw (by decide) (by decide))) ((Zn (x:=IL ns) (y:=.int ((b + k : Nat) : Int)) rfl rfl).trans (XD (by omega)))).trans (add_int _ _)) rfl).trans (Yk (by decide)))).trans rfl
  exact ⟨_,rfl,_,(Zr t1).trans t2,_,_,_,rfl,by rw [List.length_set]; exact hcl⟩)
 subst e;refine ⟨cs,hcl,Yj (δ:=[some (IL ns),some (.int (b : Int)),some (.int 30),none,none,none]) rfl ?_⟩;rw [Zeq,Zr t0];refine (Zr (YB (ZfA (i:=(b : Int)) (j:=(ns.length : Int)) (Zj (x:=.int (b : Int)) rfl (Zj (Zif rfl) nil_of)) (by omega) (by omega) (by omega) (by omega)) h1)).trans rfl
abbrev tkK (tk : List Nat) : List Key := tk.map fun t : Nat => (.inl (t : Int) : Key)
def TK (tk : List Nat) : D := .dct (tkK tk) (tk.map fun _ => .bl true)
theorem ZaU (t : Nat) : ∀ tk : List Nat,XA (.inl (t : Int)) (tkK tk) = decide (t ∈ tk)
 | [] => by simp [XA,tkK]
 | u :: tk => by
  show (decide ((.inl (u : Int) : Key) = .inl (t : Int)) || XA (.inl (t : Int)) (tkK tk)) = _;rw [ZaU t tk]
  by_cases h : u = t
  · subst h
    simp
  · have h2 : ¬ t = u := fun z => h z.symm
    have h3 : ¬ ((.inl (u : Int) : Key) = .inl (t : Int)) := fun z => by
     have := Sum.inl.inj z;omega
    simp [h2,h3]
theorem Ze2 (t : Nat) (tk : List Nat) : inK true (.int (t : Int)) (TK tk) = some (.bl (!decide (t ∈ tk))) := by
 show some (D.bl (true != XA (.inl (t : Int)) (tkK tk))) = _;rw [ZaU];cases decide (t ∈ tk) <;> rfl
theorem ZgQ {i : Nat} {κ : DL.Env -> Option D} {δ : DL.Env} {tk : List Nat} {t : Nat} (h1 : Za i δ = some (TK tk)) (h2 : κ δ = some (.int (t : Int))) (hn : t ∉ tk) (hl : tk.length <= 1000) : Ux i κ (eC (.bl true)) δ = some (.nx (δ.set i (some (TK (tk ++ [t]))))) := by
 unfold Ux;rw [h1,h2];show (if (tkK tk).length < PySem.sizeLine then some (Out.nx (δ.set i (some (U6 (tkK tk) (tk.map fun _ => .bl true) (.inl (t : Int)) (.bl true))))) else none) = _;rw [if_pos (by rw [List.length_map,PySem.sizeLine_eq]; omega)];unfold U6;rw [ZaU,decide_eq_false hn,if_neg (by simp)];unfold TK tkK;rw [List.map_append,List.map_append];rfl
theorem pig : ∀ (N : Nat) (tk : List Nat),(∀ p,p < N -> p ∈ tk) -> N <= tk.length
 | 0,_,_ => Nat.zero_le _
 | N + 1,tk,h => by
  have hm := h N (Nat.lt_succ_self N);have ih := pig N (tk.erase N) fun p hp => (List.mem_erase_of_ne (by omega)).mpr (h p (by omega))
  rw [List.length_erase_of_mem hm] at ih;have := List.length_pos_of_mem hm;omega
end K22
namespace K22
open DL L2
theorem JN (a n : Nat) (hn : n <= 100) {i j : DL.Env -> Option D} {δ : DL.Env} (h1 : i δ = some (.int (a : Int))) (h2 : j δ = some (.int (n : Int))) : eOp mulX i j δ = some (.int ((a * n : Nat) : Int)) := by
 refine (Zn h1 h2).trans ((Jw (by omega) (by omega)).trans ?_);rw [Int.natCast_mul]
theorem Zig {i j : DL.Env -> Option D} {δ : DL.Env} {s n : Nat} (h1 : i δ = some (.int (s : Int))) (h2 : j δ = some (.int (n : Int))) (hn : 0 < n) (hn4 : n <= 100) : eOp fdivW i j δ = some (.int ((s / n : Nat) : Int)) := by
 refine (Zn h1 h2).trans ((UF (by omega) (by omega)).trans ?_);rw [Int.natCast_ediv]
theorem Zih {i j : DL.Env -> Option D} {δ : DL.Env} {s n : Nat} (h1 : i δ = some (.int (s : Int))) (h2 : j δ = some (.int (n : Int))) (hn : 0 < n) : eOp modW i j δ = some (.int ((s % n : Nat) : Int)) := by
 refine (Zn h1 h2).trans ((Yk (by omega)).trans ?_);rw [Int.natCast_emod]
noncomputable def lnE : DL.Env -> Option D := (eCB lenD (Zb (eOp ixD (Za 0) (eC (.int 0))) eNil))
noncomputable def nuE : DL.Env -> Option D := (eOp modW (eOp addX (eOp ixD (Za 1) (eOp addX (eC (.int 24)) (Za 3))) (Za 5)) (eOp mulX (Za 3) lnE))
noncomputable def d1 : DL.Env -> Option Out := (Ys 0 (Zh 4 (eC .non)))
noncomputable def ib1 : DL.Env -> Option Out := (Zh 6 (YV nuE))
noncomputable def ib2 : DL.Env -> Option Out := (sIf (Xu (xB (Z2 (Za 4))) (xB (eOp (inK true) (Za 6) (Za 2)))) (Ys 0 (Zh 4 (Za 6))) sNext)
noncomputable def d2 : DL.Env -> Option Out := (ZJ (ZE (Zb (eOp mulX (Za 3) lnE) eNil)) (Zo 5) (Zf ib1 ib2))
noncomputable def d3 : DL.Env -> Option Out := (Ys 0 (Ux 2 (Za 4) (eC (.bl true))))
noncomputable def d4 : DL.Env -> Option Out := (Vu 0 (eOp fdivW (Za 4) lnE) (eOp modW (Za 4) lnE) (Za 3))
theorem Zii : f_QJ = Zf (Ys 0 (Zh 2 (eC (.dct [] [])))) (ZJ (ZE (Zb (eC (.int 1)) (Zb (eCB lenD (Zb (Za 0) eNil)) eNil))) (Zo 3) (Zf d1 (Zf d2 (Zf d3 d4)))) := rfl
abbrev GE (W : Wy) (cs : List Int) (v2 v3 v4 v5 v6 : Option D) : DL.Env := [some (YI W),some (IL cs),v2,v3,v4,v5,v6]
section
variable {m n : Nat} {W : Wy} {cs : List Int}
theorem JO (h : Ok m n W) (v2 v3 v4 v5 v6 : Option D) : lnE (GE W cs v2 v3 v4 v5 v6) = some (.int (n : Int)) := by
 obtain ⟨r,h1,h2,h3⟩ := h.row h.m0;unfold lnE;refine (Yt (Zj (ZfC h (a:=0) h.m0 rfl rfl) nil_of)).trans ?_;rw [h2];show some (D.int ((r.map oD).length : Int)) = _;rw [List.length_map,h3.ln]
theorem Zj7 (h : Ok m n W) (hc : cs.length = 30) (a s : Nat) (ha0 : 0 < a) (ha : a < m) (v2 v4 v6 : Option D) : ∃ q : Nat,q < a * n /\ (q : Int) = (cs.getD (24 + a) 0 + s) % ((a * n : Nat) : Int) /\ nuE (GE W cs v2 (some (.int (a : Int))) v4 (some (.int (s : Int))) v6) = some (.int (q : Int)) := by
 have hm6 := h.m6;have hn2 := h.n2;have hn4 := h.n4;have hN : 0 < a * n := Nat.mul_pos ha0 (by omega);obtain ⟨q,hq,hqN⟩ := XE (cs.getD (24 + a) 0 + s) hN;refine ⟨q,hqN,hq.symm,?_⟩;unfold nuE;refine (Zn (x:=.int (cs.getD (24 + a) 0 + s)) (y:=.int ((a * n : Nat) : Int)) ((Zn (x:=.int (cs.getD (24 + a) 0)) (y:=.int (s : Int)) ((Zn (x:=IL cs) (y:=.int ((24 + a : Nat) : Int)) rfl ((Zn (x:=.int 24) (y:=.int (a : Int)) rfl rfl).trans ?_)).trans (XD (by omega))) rfl).trans (add_int _ _)) (JN a n (by omega) rfl (JO h _ _ _ _ _))).trans ((Yk (by omega)).trans ?_)
 · rw [add_int,Int.natCast_add]
   rfl
 · rw [hq]
theorem Zij (h : Ok m n W) (hc : cs.length = 30) (tk : List Nat) (a s : Nat) (ha0 : 0 < a) (ha : a < m) (x : Option Nat) (v6 : Option D) : ∃ q : Nat,q < a * n /\ (q : Int) = (cs.getD (24 + a) 0 + s) % ((a * n : Nat) : Int) /\ Zf ib1 ib2 (GE W cs (some (TK tk)) (some (.int (a : Int))) (some (oD x)) (some (.int (s : Int))) v6) = some (.nx (GE W cs (some (TK tk)) (some (.int (a : Int))) (some (oD (match x with
 | none => if q ∈ tk then none else some q
 | some p => some p))) (some (.int (s : Int))) (some (.int (q : Int))))) := by
 obtain ⟨q,hq,hq2,hv⟩ := Zj7 h hc a s ha0 ha (some (TK tk)) (some (oD x)) v6;refine ⟨q,hq,hq2,?_⟩
 have t1 : ib1 (GE W cs (some (TK tk)) (some (.int (a : Int))) (some (oD x)) (some (.int (s : Int))) v6) = some (.nx (GE W cs (some (TK tk)) (some (.int (a : Int))) (some (oD x)) (some (.int (s : Int))) (some (.int (q : Int))))) := by
  unfold ib1;exact ZI (Ze0 hv rfl)
 rw [Zr t1];unfold ib2;cases x with
 | some p => exact (YH (ZdH (ZU rfl))).trans rfl
 | none =>
  have e2 : xB (eOp (inK true) (Za 6) (Za 2)) (GE W cs (some (TK tk)) (some (.int (a : Int))) (some (oD none)) (some (.int (s : Int))) (some (.int (q : Int)))) = some (!decide (q ∈ tk)) := ZU ((Zn (x:=.int (q : Int)) (y:=TK tk) rfl rfl).trans (Ze2 q tk));have e3 := ZaS (a:=xB (Z2 (Za 4))) (ZU rfl) e2
  by_cases hm : q ∈ tk
  · rw [YH (by rw [e3,decide_eq_true hm]; rfl)]
    show _ = some (Out.nx (GE W cs (some (TK tk)) (some (.int (a : Int))) (some (oD (if q ∈ tk then none else some q))) (some (.int (s : Int))) (some (.int (q : Int)))));rw [if_pos hm];rfl
  · rw [Uz (by rw [e3,decide_eq_false hm]; rfl)]
    show _ = some (Out.nx (GE W cs (some (TK tk)) (some (.int (a : Int))) (some (oD (if q ∈ tk then none else some q))) (some (.int (s : Int))) (some (.int (q : Int)))));rw [if_neg hm];exact Qf (δ0:=[none,some (IL cs),some (TK tk),some (.int (a : Int)),some (oD none),some (.int (s : Int)),some (.int (q : Int))]) (δ' := [none,some (IL cs),some (TK tk),some (.int (a : Int)),some (.int (q : Int)),some (.int (s : Int)),some (.int (q : Int))]) rfl (ZI rfl) rfl rfl
theorem Zk3 (c : Int) {N : Nat} (hN : 0 < N) {p : Nat} (hp : p < N) : ∃ s : Nat,s < N /\ (c + s) % (N : Int) = (p : Int) := by
 obtain ⟨s,hs,hsN⟩ := XE ((p : Int) - c) hN;refine ⟨s,hsN,?_⟩;rw [<- hs,Int.add_emod_emod,show c + ((p : Int) - c) = (p : Int) by omega];exact Int.emod_eq_of_lt (by omega) (by omega)
theorem Zj8 (h : Ok m n W) (hc : cs.length = 30) (tk : List Nat) (a : Nat) (ha0 : 0 < a) (ha : a < m) (ht : tk.length < a * n) (v5 v6 : Option D) : ∃ p w5 w6,p < a * n /\ p ∉ tk /\ d2 (GE W cs (some (TK tk)) (some (.int (a : Int))) (some .non) v5 v6) = some (.nx (GE W cs (some (TK tk)) (some (.int (a : Int))) (some (.int (p : Nat))) w5 w6)) := by
 have hm6 := h.m6;have hn4 := h.n4;have hn2 := h.n2;have hN : 0 < a * n := Nat.mul_pos ha0 (by omega);have hNb : a * n <= 6 * 4 := Nat.mul_le_mul (by omega) hn4
 obtain ⟨δ',h1,x,w5,w6,e,hx⟩ := Ua (γ:=Zo 5) (φ:=Zf ib1 ib2) (fun j δ => ∃ (x : Option Nat) (v5 v6 : Option D),δ = GE W cs (some (TK tk)) (some (.int (a : Int))) (some (oD x)) v5 v6 /\ ((∃ p,x = some p /\ p < a * n /\ p ∉ tk) \/ (x = none /\ ∀ s : Nat,s < j -> ∃ q : Nat,q ∈ tk /\ (q : Int) = (cs.getD (24 + a) 0 + s) % ((a * n : Nat) : Int)))) (ZG 0 1 (a * n)) 0 (GE W cs (some (TK tk)) (some (.int (a : Int))) (some .non) v5 v6) ⟨none,_,_,rfl,.inr ⟨rfl,fun s hs => absurd hs (by omega)⟩⟩ (by
  intro j y δ hy ⟨x,v5,v6,e,hx⟩;subst e;obtain ⟨hj,rfl⟩ := U8 hy;rw [Nat.zero_add] at hx ⊢;obtain ⟨q,hq,hq2,t⟩ := Zij h hc tk a j ha0 ha x v6;refine ⟨_,rfl,_,t,_,_,_,rfl,?_⟩;rcases hx with ⟨p,rfl,hp1,hp2⟩ | ⟨rfl,hs⟩
  · exact .inl ⟨p,rfl,hp1,hp2⟩
  · by_cases hm : q ∈ tk
    · refine .inr ⟨if_pos hm,fun s hs' => ?_⟩
      by_cases hsj : s = j
      · rw [hsj]; exact ⟨q,hm,hq2⟩
      · exact hs s (by omega)
    · exact .inl ⟨q,if_neg hm,hq,hm⟩)
 subst e;rw [U9,Nat.zero_add] at hx;rcases hx with ⟨p,rfl,hp1,hp2⟩ | ⟨rfl,hs⟩
 · refine ⟨p,w5,w6,hp1,hp2,?_⟩
   unfold d2;exact YB ((XB (j:=((a * n : Nat) : Int)) (Zj (JN a n (by omega) rfl (JO h _ _ _ _ _)) nil_of) (by omega) (by omega)).trans (by rw [Int.toNat_natCast])) h1
 · exfalso
   have := pig (a * n) tk fun p hp => by
    obtain ⟨s,hsN,e⟩ := Zk3 (cs.getD (24 + a) 0) hN hp;obtain ⟨q,hq,e2⟩ := hs s hsN;have : q = p := by omega
    rw [<- this];exact hq
   omega
theorem Zik (h : Ok m n W) (hc : cs.length = 30) (tk : List Nat) (a : Nat) (ha0 : 0 < a) (ha : a < m) (ht : tk.length = a - 1) (v4 v5 v6 : Option D) : ∃ W' p w4 w5 w6,Ok m n W' /\ Zf d1 (Zf d2 (Zf d3 d4)) (GE W cs (some (TK tk)) (some (.int (a : Int))) v4 v5 v6) = some (.nx (GE W' cs (some (TK (tk ++ [p]))) (some (.int (a : Int))) w4 w5 w6)) := by
 have hm6 := h.m6;have hn4 := h.n4;have hn2 := h.n2;have hN : a * 2 <= a * n := Nat.mul_le_mul_left a hn2;obtain ⟨p,w5,w6,hp,hpn,t2⟩ := Zj8 h hc tk a ha0 ha (by omega) v5 v6
 have t1 : d1 (GE W cs (some (TK tk)) (some (.int (a : Int))) v4 v5 v6) = some (.nx (GE W cs (some (TK tk)) (some (.int (a : Int))) (some .non) v5 v6)) := by
  unfold d1;exact Qf (δ0:=[none,some (IL cs),some (TK tk),some (.int (a : Int)),v4,v5,v6]) (δ' := [none,some (IL cs),some (TK tk),some (.int (a : Int)),some .non,v5,v6]) rfl (ZI rfl) rfl rfl
 have t3 : d3 (GE W cs (some (TK tk)) (some (.int (a : Int))) (some (.int (p : Nat))) w5 w6) = some (.nx (GE W cs (some (TK (tk ++ [p]))) (some (.int (a : Int))) (some (.int (p : Nat))) w5 w6)) := by
  unfold d3;exact Qf (δ0:=[none,some (IL cs),some (TK tk),some (.int (a : Int)),some (.int (p : Nat)),w5,w6]) (δ' := [none,some (IL cs),some (TK (tk ++ [p])),some (.int (a : Int)),some (.int (p : Nat)),w5,w6]) rfl (ZgQ rfl rfl hpn (by omega)) rfl rfl
 have hpa : p / n < a := (Nat.div_lt_iff_lt_mul (by omega)).mpr hp;have hpm : p % n < n := Nat.mod_lt _ (by omega);refine ⟨put W (p / n) (p % n) (some a),p,some (.int (p : Nat)),w5,w6,h.put (by omega) ha,?_⟩;rw [Zr t1,Zr t2,Zr t3];unfold d4;exact (ZdJ h (by omega) hpm rfl (Zig (s:=p) (n:=n) rfl (JO h _ _ _ _ _) (by omega) (by omega)) (Zih (s:=p) (n:=n) rfl (JO h _ _ _ _ _) (by omega)) rfl).trans rfl
theorem ZgR {i : Nat} {δ : DL.Env} (h : Ok m n W) (hi : Za i δ = some (YI W)) : eCB lenD (Zb (Za i) eNil) δ = some (.int (m : Int)) := by
 refine (Yt (Zj hi nil_of)).trans ?_;show some (D.int ((W.map Yl).length : Int)) = _;rw [List.length_map,h.ln]
theorem ZdK {n : Nat} {f : DL.Env -> Option Out} {vs : List D} {δ δ' : DL.Env} {d : D} (h1 : (vs.map some ++ List.replicate (n - vs.length) none) = δ) (h2 : f δ = some (.nx δ')) (h3 : Za 0 δ' = some d) : DL.runI n f vs = some d := by
 unfold DL.runI;rw [h1,h2];exact h3
theorem Zil (h : Ok m n W) (hc : cs.length = 30) : ∃ W',Ok m n W' /\ QP [YI W,IL cs] = some (YI W') := by
 have hm6 := h.m6;have hm0 := h.m0;have t0 : Ys 0 (Zh 2 (eC (.dct [] []))) (GE W cs none none none none none) = some (.nx (GE W cs (some (TK [])) none none none none)) := Qf (δ0:=[none,some (IL cs),none,none,none,none,none]) (δ' := [none,some (IL cs),some (TK []),none,none,none,none]) rfl (ZI rfl) rfl rfl
 obtain ⟨δ',h1,W',tk,v3,v4,v5,v6,e,hW,_⟩ := Ua (γ:=Zo 3) (φ:=Zf d1 (Zf d2 (Zf d3 d4))) (fun k δ => ∃ W tk v3 v4 v5 v6,δ = GE W cs (some (TK tk)) v3 v4 v5 v6 /\ Ok m n W /\ tk.length = k) (ZG 1 1 (m - 1)) 0 (GE W cs (some (TK [])) none none none none) ⟨W,[],_,_,_,_,rfl,h,rfl⟩ (by
  intro j x δ hx ⟨W,tk,v3,v4,v5,v6,e,hW,ht⟩;subst e;obtain ⟨hj,rfl⟩ := ZeW hx;rw [show (1 + (j : Int) * 1) = ((j + 1 : Nat) : Int) by omega];obtain ⟨W',p,w4,w5,w6,h2,h3⟩ := Zik hW hc tk (j + 1) (by omega) (by omega) (by omega) v4 v5 v6;exact ⟨_,rfl,_,h3,W',_,_,_,_,_,rfl,h2,by rw [List.length_append,ht]; rfl⟩)
 subst e;refine ⟨W',hW,?_⟩
 have hf : f_QJ (GE W cs none none none none none) = some (.nx (GE W' cs (some (TK tk)) v3 v4 v5 v6)) := by
  rw [Zii,Zr t0];exact YB ((ZfA (i:=1) (j:=(m : Int)) (Zj rfl (Zj (ZgR h rfl) nil_of)) (by omega) (by omega) (by decide) (by decide)).trans (by rw [show ((m : Int) - 1).toNat = m - 1 by omega])) h1
 exact ZdK rfl hf rfl
end
end K22
namespace K22
open DL L2
def el (m : Nat) (c : Int) : Option Nat := if c % 3 = 0 then none else some (c / 3 % (m : Int)).toNat
noncomputable def xE : DL.Env -> Option D := (eOp modW (eOp fdivW (Za 7) (eC (.int 3))) (Za 1))
noncomputable def pE : DL.Env -> Option D := (eOp ixD (ZK (Zb (eC .non) (Zb xE (Zb xE eNil)))) (eOp modW (Za 7) (eC (.int 3))))
noncomputable def g1 : DL.Env -> Option Out := (Ys 3 (Zh 5 (ZK eNil)))
noncomputable def gi1 : DL.Env -> Option Out := (Zh 7 (eOp ixD (Za 0) (eOp addX (eOp mulX (Za 4) (Za 2)) (Za 6))))
noncomputable def gF : DL.Env -> Option Out := (ZJ (ZE (Zb (Za 2) eNil)) (Zo 6) (Zf gi1 (Y6 5 pE)))
noncomputable def fcE : DL.Env -> Option D := (ZT (ZH (eOp ixD (Za 3) (Za 4))) (Zo 0) (xB (YF (Za 0))) (Za 0) 1 [])
noncomputable def c1 : DL.Env -> Option Out := (sIf (xB (eOp eqD (eCB lenD (Zb fcE eNil)) (eC (.int 0)))) (Vu 3 (Za 4) (eOp modW (eOp fdivW (eOp ixD (Za 0) (Za 4)) (eC (.int 7))) (Za 2)) (eOp modW (eOp fdivW (eOp ixD (Za 0) (Za 4)) (eC (.int 35))) (Za 1))) sNext)
def JP : DL.Env -> Option D := (eCB Xv (Zb (Za 0) eNil))
theorem ZgS : f_QS = Zf (Uv 3 (ZK eNil)) (Zf (ZJ (ZE (Zb (Za 1) eNil)) (Zo 4) (Zf g1 (Zf (Ys 3 gF) (Uu 3 5)))) (Zf (Uy 3 2 QP (Zb (Za 0) eNil)) (Zf (ZJ (ZE (Zb (Za 1) eNil)) (Zo 4) c1) (Zv (eCB Xv (Zb (ZT (ZH (Za 3)) (Zo 0) (fun _ => some true) JP 1 []) eNil)))))) := rfl
abbrev HE (cs : List Int) (m n : Nat) (v3 v4 v5 v6 v7 : Option D) : DL.Env := [some (IL cs),some (.int (m : Int)),some (.int (n : Int)),v3,v4,v5,v6,v7]
theorem Zj9 (x : Int) {v : Int} (h0 : 0 <= v) (h1 : v < 3) : ixD (.lst [.non,.int x,.int x]) (.int v) = some (if v = 0 then .non else .int x) := by
 have : v = 0 \/ v = 1 \/ v = 2 := by omega
 rcases this with rfl | rfl | rfl <;> rfl
theorem Zk4 (cs : List Int) (m n : Nat) (hm : 0 < m) (hm6 : m <= 6) (c : Int) (v3 v4 v5 v6 : Option D) : pE (HE cs m n v3 v4 v5 v6 (some (.int c))) = some (oD (el m c)) := by
 have hx : xE (HE cs m n v3 v4 v5 v6 (some (.int c))) = some (.int (c / 3 % (m : Int))) := by
  unfold xE;exact (Zn (x:=.int (c / 3)) (y:=.int (m : Int)) ((Zn (x:=.int c) (y:=.int 3) rfl rfl).trans (UF (by decide) (by decide))) rfl).trans (Yk (by omega))
 unfold pE;refine (Zn (x:=.lst [.non,.int (c / 3 % (m : Int)),.int (c / 3 % (m : Int))]) (y:=.int (c % 3)) (Zc6 (Zj (x:=.non) rfl (Zj hx (Zj hx nil_of))) (by show 3 <= 1000; decide)) ((Zn (x:=.int c) (y:=.int 3) rfl rfl).trans (Yk (by decide)))).trans ((Zj9 _ (by omega) (by omega)).trans ?_);unfold el
 by_cases h : c % 3 = 0
 · rw [if_pos h,if_pos h]
   rfl
 · rw [if_neg h,if_neg h]
   show some (D.int (c / 3 % (m : Int))) = some (D.int (((c / 3 % (m : Int)).toNat : Nat) : Int));rw [Int.toNat_of_nonneg (Int.emod_nonneg _ (by omega))]
theorem Zka {m : Nat} (hm : 0 < m) {c : Int} {t : Nat} (h : el m c = some t) : t < m := by
 unfold el at h
 by_cases hc : c % 3 = 0
 · rw [if_pos hc] at h; cases h
 · rw [if_neg hc] at h
   cases h;have := Int.emod_lt_of_pos (c / 3) (show 0 < (m : Int) by omega);omega
theorem ZgT {i k : Nat} {δ : DL.Env} {xs r : List D} (h1 : Za i δ = some (.lst xs)) (h2 : Za k δ = some (.lst r)) (hl : xs.length <= 1000) (hs : r.all Zy = true) : Uu i k δ = some (.nx ((δ.set k none).set i (some (.lst (xs ++ [.lst r]))))) := by
 unfold Uu;rw [h1,h2];exact if_pos ⟨by rw [PySem.sizeLine_eq]; omega,hs⟩
theorem Zim (r : List (Option Nat)) : (r.map oD).all Zy = true := by
 rw [List.all_map];exact List.all_eq_true.mpr fun x _ => by cases x <;> rfl
theorem Zkb (cs : List Int) (hc : cs.length = 30) (m n : Nat) (hm : 0 < m) (hm6 : m <= 6) (hn4 : n <= 4) (a : Nat) (ha : a < m) (v6 v7 : Option D) : ∃ r w6 w7,Ok1 m n r /\ gF (HE cs m n none (some (.int (a : Int))) (some (.lst [])) v6 v7) = some (.nx (HE cs m n none (some (.int (a : Int))) (some (Yl r)) w6 w7)) := by
 obtain ⟨δ',h1,r,w6,w7,e,hl,hp⟩ := Ua (γ:=Zo 6) (φ:=Zf gi1 (Y6 5 pE)) (fun k δ => ∃ (r : List (Option Nat)) (v6 v7 : Option D),δ = HE cs m n none (some (.int (a : Int))) (some (Yl r)) v6 v7 /\ r.length = k /\ ∀ t,some t ∈ r -> t < m) (ZG 0 1 n) 0 (HE cs m n none (some (.int (a : Int))) (some (.lst [])) v6 v7) ⟨[],_,_,rfl,rfl,fun t z => by cases z⟩ (by
  intro j x δ hx ⟨r,v6,v7,e,hl,hp⟩;subst e;obtain ⟨hj,rfl⟩ := U8 hx;rw [Nat.zero_add] at hl ⊢;have hb : a * n <= 5 * 4 := Nat.mul_le_mul (by omega) hn4
  have t1 : gi1 (HE cs m n none (some (.int (a : Int))) (some (Yl r)) (some (.int (j : Int))) v7) = some (.nx (HE cs m n none (some (.int (a : Int))) (some (Yl r)) (some (.int (j : Int))) (some (.int (cs.getD (a * n + j) 0))))) := by
   unfold gi1;refine ZI ((Zn (x:=IL cs) (y:=.int ((a * n + j : Nat) : Int)) rfl ((Zn (x:=.int ((a * n : Nat) : Int)) (y:=.int (j : Int)) (JN a n (by omega) rfl rfl) rfl).trans ?_)).trans (XD (by omega)));rw [add_int,Int.natCast_add]
  refine ⟨_,rfl,HE cs m n none (some (.int (a : Int))) (some (Yl (r ++ [el m (cs.getD (a * n + j) 0)]))) (some (.int (j : Int))) (some (.int (cs.getD (a * n + j) 0))),(Zr t1).trans ((Zc7 (xs:=r.map oD) rfl (Zk4 cs m n hm hm6 _ _ _ _ _) (by rw [List.length_map]; omega)).trans ?_),_,_,_,rfl,by rw [List.length_append,hl]; rfl,fun t ht => ?_⟩
  · have er : r.map oD ++ [oD (el m (cs.getD (a * n + j) 0))] = (r ++ [el m (cs.getD (a * n + j) 0)]).map oD := by rw [List.map_append]; rfl
    rw [er];rfl
  · rcases List.mem_append.mp ht with z | z
    · exact hp t z
    · exact Zka hm (List.mem_singleton.mp z).symm)
 subst e;rw [U9,Nat.zero_add] at hl;refine ⟨r,w6,w7,⟨hl,hp⟩,?_⟩;unfold gF;exact YB ((XB (j:=(n : Int)) rfl (by omega) (by omega)).trans (by rw [Int.toNat_natCast])) h1
theorem Zin {i : Nat} {ε : DL.Env -> Option D} {δ : DL.Env} {d : D} (h : ε δ = some d) (hi : i < δ.length) : Uv i ε δ = some (.nx (δ.set i (some d))) := by
 unfold Uv;rw [h];exact if_pos hi
theorem Ze3 {i n : Nat} {mm : List D -> Option D} {α : DL.Env -> Option (List D)} {δ : DL.Env} {d d' : D} {ds : List D} (h1 : Za i δ = some d) (h2 : α (δ.set i none) = some ds) (hn : ds.length + 1 = n) (h3 : mm (d :: ds) = some d') : Uy i n mm α δ = some (.nx (δ.set i (some d'))) := by
 unfold Uy;rw [h1,h2];dsimp only;rw [if_pos (by rw [List.length_cons]; exact hn),h3]
def QS (W : Wy) : Prop := ∀ r ∈ W,∃ t,some t ∈ r
theorem Zkc {m n : Nat} {W : Wy} (h : Ok m n W) (cs : List Int) (a : Nat) (ha : a < m) (v5 v6 v7 : Option D) : fcE (HE cs m n (some (YI W)) (some (.int (a : Int))) v5 v6 v7) = some (.lst ((((W.getD a []).map oD).filter fun d => !Y4 d).map id)) := by
 have hn4 := h.n4;obtain ⟨r,h1,h2,h3⟩ := h.row ha;have hx := ZfC h (κ0:=Za 3) (κ1:=Za 4) (δ:=HE cs m n (some (YI W)) (some (.int (a : Int))) v5 v6 v7) ha rfl rfl;unfold fcE;refine XC (ZaT hx) rfl (Zaj (δ0:=[none]) (fun d => !Y4 d) id _ fun x _ => ⟨[some x],rfl,ZU rfl,fun _ => rfl⟩) ?_;rw [List.length_map,h2];have := List.length_filter_le (fun d => !Y4 d) (r.map oD);rw [List.length_map,h3.ln] at this
 omega
theorem Zio {W : Wy} {a k b : Nat} {x : Option Nat} (hb : b ≠ a) : (put W a k x).getD b [] = W.getD b [] := by
 unfold put;rw [List.getD_eq_getElem?_getD,List.getElem?_set_ne (Ne.symm hb),<- List.getD_eq_getElem?_getD]
theorem Ze4 {W : Wy} {a k : Nat} {x : Option Nat} (ha : a < W.length) : (put W a k x).getD a [] = (W.getD a []).set k x := by
 unfold put;rw [List.getD_eq_getElem?_getD,List.getElem?_set_self ha];rfl
theorem Zip {m n : Nat} {W : Wy} (h : Ok m n W) (cs : List Int) (hc : cs.length = 30) (a : Nat) (ha : a < m) (hL : ∀ b,b < a -> ∃ t,some t ∈ W.getD b []) (v5 v6 v7 : Option D) : ∃ W',Ok m n W' /\ (∀ b,b < a + 1 -> ∃ t,some t ∈ W'.getD b []) /\ c1 (HE cs m n (some (YI W)) (some (.int (a : Int))) v5 v6 v7) = some (.nx (HE cs m n (some (YI W')) (some (.int (a : Int))) v5 v6 v7)) := by
 have hm6 := h.m6;have hn2 := h.n2;have hn4 := h.n4;obtain ⟨r,h1,h2,h3⟩ := h.row ha
 have e0 : xB (eOp eqD (eCB lenD (Zb fcE eNil)) (eC (.int 0))) (HE cs m n (some (YI W)) (some (.int (a : Int))) v5 v6 v7) = some (decide (((((r.map oD).filter fun d => !Y4 d).map id).length : Int) = 0)) := by
  have := Zkc h cs a ha v5 v6 v7;rw [h2] at this;exact ZU ((Zn (x:=.int ((((r.map oD).filter fun d => !Y4 d).map id).length : Int)) (y:=.int 0) ((Yt (Zj this nil_of)).trans rfl) rfl).trans (U7 _ _))
 unfold c1
 by_cases hz : ((((r.map oD).filter fun d => !Y4 d).map id).length : Int) = 0
 · obtain ⟨k,hk,hkn⟩ := XE (cs.getD a 0 / 7) (show 0 < n by omega)
   obtain ⟨t,ht,htm⟩ := XE (cs.getD a 0 / 35) (show 0 < m by omega);have hca : ∀ v,eOp ixD (Za 0) (Za 4) (HE cs m n v (some (.int (a : Int))) v5 v6 v7) = some (.int (cs.getD a 0)) := fun v => (Zn (x:=IL cs) (y:=.int (a : Int)) rfl rfl).trans (XD (by omega))
   refine ⟨put W a k (some t),h.put ha htm,fun b hb => ?_,?_⟩
   · by_cases hba : b = a
     · subst hba
       rw [Ze4 (by rw [h.ln]; exact ha),h2];exact ⟨t,List.mem_iff_getElem.mpr ⟨k,by rw [List.length_set,h3.ln]; exact hkn,List.getElem_set_self _⟩⟩
     · rw [Zio hba]
       exact hL b (by omega)
   · rw [Uz (by rw [e0,decide_eq_true hz])]
     exact (ZdJ h ha hkn rfl rfl ((Zn (x:=.int (cs.getD a 0 / 7)) (y:=.int (n : Int)) ((Zn (y:=.int 7) (hca _) rfl).trans (UF (by decide) (by decide))) rfl).trans ((Yk (by omega)).trans (by rw [hk]))) ((Zn (x:=.int (cs.getD a 0 / 35)) (y:=.int (m : Int)) ((Zn (y:=.int 35) (hca _) rfl).trans (UF (by decide) (by decide))) rfl).trans ((Yk (by omega)).trans (by rw [ht])))).trans rfl
 · refine ⟨W,h,fun b hb => ?_,(YH (by rw [e0,decide_eq_false hz])).trans rfl⟩
   by_cases hba : b = a
   · subst hba
     rw [h2];apply Classical.byContradiction;intro hne;apply hz
     have : (r.map oD).filter (fun d => !Y4 d) = [] := by
      rw [List.filter_eq_nil_iff];intro d hd;obtain ⟨x,hx,rfl⟩ := List.mem_map.mp hd;cases x with
      | none => simp [oD,Y4]
      | some t => exact absurd ⟨t,hx⟩ hne
     rw [this];rfl
   · exact hL b (by omega)
theorem Zci (f : List (Option Nat) -> D) (hf : ∀ r,Xv [f r] = some (Ym r)) (W : Wy) : Z6 (Zo 0) (fun _ => some true) JP [none] (W.map f) = some (W.map Ym) := JM f Ym W fun r _ => (Yt (Zj (x:=f r) rfl nil_of)).trans (hf r)
theorem ZgU (cs : List Int) (hc : cs.length = 30) (m n : Nat) (hm0 : 0 < m) (hm6 : m <= 6) (hn2 : 2 <= n) (hn4 : n <= 4) : ∃ W,Ok m n W /\ QS W /\ JF [IL cs,.int (m : Int),.int (n : Int)] = some (.tup (W.map Ym)) := by
 have t0 : Uv 3 (ZK eNil) (HE cs m n none none none none none) = some (.nx (HE cs m n (some (.lst (([] : Wy).map Yl))) none none none none)) := Zin rfl (by show 3 < 8; decide)
 obtain ⟨δ1,l1,W1,v4,v5,v6,v7,e1,hl1,hw1⟩ := Ua (γ:=Zo 4) (φ:=Zf g1 (Zf (Ys 3 gF) (Uu 3 5))) (fun k δ => ∃ (W : Wy) (v4 v5 v6 v7 : Option D),δ = HE cs m n (some (.lst (W.map Yl))) v4 v5 v6 v7 /\ W.length = k /\ ∀ r ∈ W,Ok1 m n r) (ZG 0 1 m) 0 (HE cs m n (some (.lst (([] : Wy).map Yl))) none none none none) ⟨[],_,_,_,_,rfl,rfl,fun r z => by cases z⟩ (by
  intro j x δ hx ⟨W,v4,v5,v6,v7,e,hl,hw⟩;subst e;obtain ⟨hj,rfl⟩ := U8 hx;rw [Nat.zero_add] at hl ⊢;obtain ⟨r,w6,w7,hr,t2⟩ := Zkb cs hc m n hm0 hm6 hn4 j hj v6 v7
  have t1 : g1 (HE cs m n (some (.lst (W.map Yl))) (some (.int (j : Int))) v5 v6 v7) = some (.nx (HE cs m n (some (.lst (W.map Yl))) (some (.int (j : Int))) (some (.lst [])) v6 v7)) := by
   unfold g1;exact Qf (δ0:=HE cs m n none (some (.int (j : Int))) v5 v6 v7) (δ' := HE cs m n none (some (.int (j : Int))) (some (.lst [])) v6 v7) rfl (ZI rfl) rfl rfl
  have t3 : Ys 3 gF (HE cs m n (some (.lst (W.map Yl))) (some (.int (j : Int))) (some (.lst [])) v6 v7) = some (.nx (HE cs m n (some (.lst (W.map Yl))) (some (.int (j : Int))) (some (Yl r)) w6 w7)) := Qf (δ0:=HE cs m n none (some (.int (j : Int))) (some (.lst [])) v6 v7) (δ' := HE cs m n none (some (.int (j : Int))) (some (Yl r)) w6 w7) rfl t2 rfl rfl;refine ⟨_,rfl,HE cs m n (some (.lst ((W ++ [r]).map Yl))) (some (.int (j : Int))) none w6 w7,(Zr t1).trans ((Zr t3).trans ((ZgT (xs:=W.map Yl) (r:=r.map oD) rfl rfl (by rw [List.length_map]; omega) (Zim r)).trans ?_)),W ++ [r],_,_,_,_,rfl,by rw [List.length_append,hl]; rfl,fun r' hr' => ?_⟩
  · rw [List.map_append]
    rfl
  · rcases List.mem_append.mp hr' with z | z
    · exact hw r' z
    · rw [List.mem_singleton.mp z]; exact hr)
 subst e1;rw [U9,Nat.zero_add] at hl1;have hW1 : Ok m n W1 := ⟨hm0,hm6,hn2,hn4,hl1,hw1⟩
 obtain ⟨W2,hW2,t2⟩ := Zil hW1 hc;have t3 : Uy 3 2 QP (Zb (Za 0) eNil) (HE cs m n (some (YI W1)) v4 v5 v6 v7) = some (.nx (HE cs m n (some (YI W2)) v4 v5 v6 v7)) := Ze3 (ds:=[IL cs]) rfl rfl rfl t2
 obtain ⟨δ3,l3,W3,u4,e3,hW3,hL3⟩ := Ua (γ:=Zo 4) (φ:=c1) (fun k δ => ∃ (W : Wy) (v4 : Option D),δ = HE cs m n (some (YI W)) v4 v5 v6 v7 /\ Ok m n W /\ ∀ b,b < k -> ∃ t,some t ∈ W.getD b []) (ZG 0 1 m) 0 (HE cs m n (some (YI W2)) v4 v5 v6 v7) ⟨W2,_,rfl,hW2,fun b hb => absurd hb (by omega)⟩ (by
  intro j x δ hx ⟨W,v4,e,hW,hL⟩;subst e;obtain ⟨hj,rfl⟩ := U8 hx;rw [Nat.zero_add] at hL ⊢;obtain ⟨W',h1,h2,h3⟩ := Zip hW cs hc j hj hL v5 v6 v7;exact ⟨_,rfl,_,h3,W',_,rfl,h1,h2⟩)
 subst e3;rw [U9,Nat.zero_add] at hL3;refine ⟨W3,hW3,fun r hr => ?_,?_⟩
 · obtain ⟨b,hb,e⟩ := List.mem_iff_getElem.mp hr
   have := hL3 b (by rw [<- hW3.ln]; exact hb);rw [List.getD_eq_getElem?_getD,List.getElem?_eq_getElem hb,e] at this;exact this
 · have hr : ∀ v4,ZE (Zb (Za 1) eNil) (HE cs m n v4 none none none none) = some (ZG 0 1 m) := fun v4 => (XB (j:=(m : Int)) rfl (by omega) (by omega)).trans (by rw [Int.toNat_natCast])
   refine Yj (δ:=HE cs m n none none none none none) rfl ?_;rw [ZgS,Zr t0];refine (Zr (YB ((XB (j:=(m : Int)) rfl (by omega) (by omega)).trans (by rw [Int.toNat_natCast])) l1)).trans ?_;refine (Zr t3).trans ?_;refine (Zr (YB ((XB (j:=(m : Int)) rfl (by omega) (by omega)).trans (by rw [Int.toNat_natCast])) l3)).trans (Yo ?_);exact (Yt (Zj (XC (ZaT (xs:=W3.map Yl) rfl) rfl (Zci Yl (fun r => rfl) W3) (by rw [List.length_map,hW3.ln]; omega)) nil_of)).trans rfl
end K22
namespace K22
open DL L2
def Zl (M : List Nat) (W : Wy) : DL.D := .obj "Rooms" ["marks", "ways"] [.str M,.tup (W.map Ym)]
theorem JQ {ε : DL.Env -> Option D} {δ : DL.Env} {xs : List D} (h : ε δ = some (.tup xs)) : ZH ε δ = some xs := by
 unfold ZH;rw [h]
theorem JR {M : List Nat} {W : Wy} {i : Nat} {δ : DL.Env} (h : Za i δ = some (Zl M W)) : ZY Xo "ways" (Za i) δ = some (.tup (W.map Ym)) := by unfold ZY; rw [h]; rfl
theorem ZgV (M : List Nat) (W : Wy) (hl : W.length <= 100) : JC [.obj "Rooms" [] [],.str M,.tup (W.map Ym)] = some (Zl M W) := by
 have hc := Zci Ym (fun r => rfl) W;have he : ∀ x0,eCB Xv (Zb (ZT (ZH (Za 2)) (Zo 0) (fun _ => some true) JP 1 []) eNil) [x0,some (.str M),some (.tup (W.map Ym))] = some (.tup (W.map Ym)) := fun x0 => (Yt (Zj (XC (JQ (xs:=W.map Ym) rfl) rfl hc (by rw [List.length_map]; omega)) nil_of)).trans rfl
 have hf : f_QO [some (.obj "Rooms" [] []),some (.str M),some (.tup (W.map Ym))] = some (.nx [some (Zl M W),some (.str M),some (.tup (W.map Ym))]) := by
  show Zf (Vp 0 YC "marks" (Za 1)) (Vp 0 Xo "ways" (eCB Xv (Zb (ZT (ZH (Za 2)) (Zo 0) (fun _ => some true) JP 1 []) eNil))) _ = _;rw [Zr (δ' := [some (.obj "Rooms" ["marks"] [.str M]),some (.str M),some (.tup (W.map Ym))]) rfl];unfold Vp;rw [he];rfl
 exact ZdK rfl hf rfl
theorem ZgW (M : List Nat) (W : Wy) : ZiR [Zl M W] = some (.int (W.length : Int)) := by
 refine Yj (δ:=[some (Zl M W)]) rfl (Yo ((Yt (Zj (JR rfl) nil_of)).trans ?_));show some (D.int ((W.map Ym).length : Int)) = _;rw [List.length_map]
theorem Zes {M : List Nat} {W : Wy} {i : Nat} {δ : DL.Env} (h : Za i δ = some (Zl M W)) : Vq "many" QL (Za i) eNil δ = some (.int (W.length : Int)) := by
 unfold Vq;rw [h];exact ZgW M W
def nxt (W : Wy) (c : List Int) : List Int := W.map fun r => ((r.filterMap id).map fun t => c.getD t 0).sum
def cv (W : Wy) : Nat -> List Int
 | 0 => List.replicate W.length 1
 | k + 1 => nxt W (cv W k)
theorem UG (W : Wy) : ∀ k,(cv W k).length = W.length
 | 0 => List.length_replicate
 | k + 1 => by show (nxt W (cv W k)).length = _; unfold nxt; rw [List.length_map]
theorem intsD_map : ∀ ns : List Int,XZ (ns.map D.int) = some ns
 | [] => rfl
 | n :: ns => by
  rw [List.map_cons,XZ,intsD_map ns]
theorem Zcj (ns : List Int) : sumLD [.lst (ns.map D.int)] = some (.int ns.sum) := by
 unfold sumLD;dsimp only;rw [intsD_map]
theorem JS {ε : DL.Env -> Option D} {rest : DL.Env} (g : Nat -> D) : ∀ r : List (Option Nat),(∀ t,some t ∈ r -> ε (some (.int (t : Int)) :: rest) = some (g t)) -> Z6 (Zo 0) (xB (YF (Za 0))) ε (none :: rest) (r.map oD) = some ((r.filterMap id).map g)
 | [],_ => rfl
 | none :: r,h => by
  have ih := JS g r fun t ht => h t (List.mem_cons_of_mem _ ht)
  rw [List.map_cons];unfold Z6;have e1 : Zo 0 (oD none) (none :: rest) = some (some .non :: rest) := rfl;have e2 : xB (YF (Za 0)) (some .non :: rest) = some false := ZU rfl;rw [e1];dsimp only;rw [e2];dsimp only;rw [ih];rfl
 | some t :: r,h => by
  have ih := JS g r fun t ht => h t (List.mem_cons_of_mem _ ht)
  rw [List.map_cons];unfold Z6;have e1 : Zo 0 (oD (some t)) (none :: rest) = some (some (.int (t : Int)) :: rest) := rfl;have e2 : xB (YF (Za 0)) (some (.int (t : Int)) :: rest) = some true := ZU rfl;rw [e1];dsimp only;rw [e2];dsimp only;rw [h t List.mem_cons_self,ih];rfl
noncomputable def inE : DL.Env -> Option D := (ZT (ZH (Za 0)) (Zo 0) (xB (YF (Za 0))) (eOp ixD (Za 1) (Za 0)) 1 [1])
theorem Zet : f_QC = Zv (ZT (ZH (ZY Xo "ways" (Za 0))) (Zo 0) (fun _ => some true) (eCB sumLD (Zb inE eNil)) 1 [1]) := rfl
theorem ZfD (r : List (Option Nat)) : (r.filterMap id).length <= r.length := List.length_filterMap_le ..
theorem Zeu {m n : Nat} {W : Wy} (h : Ok m n W) (M : List Nat) {c : List Int} (hc : c.length = m) : Jy [Zl M W,IL c] = some (IL (nxt W c)) := by
 have hm6 := h.m6;have hn4 := h.n4
 have hin : ∀ r ∈ W,inE [some (Ym r),some (IL c)] = some (IL ((r.filterMap id).map fun t => c.getD t 0)) := fun r hr => by
  have hr' := h.rw r hr
  have hcc := JS (ε:=eOp ixD (Za 1) (Za 0)) (rest:=[some (IL c)]) (fun t => D.int (c.getD t 0)) r (fun t ht => by
   have := hr'.pl t ht;exact (Zn (x:=IL c) (y:=.int (t : Int)) rfl rfl).trans (XD (by omega)))
  have e : ((r.filterMap id).map fun t => c.getD t 0).map D.int = (r.filterMap id).map fun t => D.int (c.getD t 0) := by rw [List.map_map]; rfl
  show _ = some (D.lst (((r.filterMap id).map fun t => c.getD t 0).map D.int));rw [e];unfold inE;have := ZfD r;have := hr'.ln;exact XC (JQ rfl) rfl hcc (by rw [List.length_map]; omega)
 refine Yj (δ:=[some (Zl M W),some (IL c)]) rfl ?_;rw [Zet];refine Yo ?_;have e : (nxt W c).map D.int = W.map fun r => D.int ((r.filterMap id).map fun t => c.getD t 0).sum := by unfold nxt; rw [List.map_map]; rfl
 show _ = some (D.lst ((nxt W c).map D.int));rw [e];exact XC (JQ (JR rfl)) rfl (JM Ym _ (δ0:=[none,some (IL c)]) W fun r hr => (Yt (Zj (hin r hr) nil_of)).trans (Zcj _)) (by rw [List.length_map,h.ln]; omega)
def CT (W : Wy) (L : Nat) : List D := (List.range (L + 1)).map fun k => IL (cv W k)
theorem Ziq (W : Wy) (L : Nat) : (CT W L).length = L + 1 := by unfold CT; simp
theorem ZgX (W : Wy) (L : Nat) : CT W (L + 1) = CT W L ++ [IL (cv W (L + 1))] := by
 unfold CT;rw [List.range_succ,List.map_append];rfl
theorem Qg {W : Wy} {L k : Nat} (hk : k <= L) : (CT W L)[k]? = some (IL (cv W k)) := by
 unfold CT;rw [List.getElem?_map,List.getElem?_range (by omega)];rfl
theorem Ze5 (a : List D) (n : Int) : V9 (.lst a) (.int n) = mulX (.lst a) (.int n) := by
 unfold V9;rfl
theorem Zk5 {ε : DL.Env -> Option D} {δ : DL.Env} {n : Nat} (hn : n <= 1000) (h : ε δ = some (.int (n : Int))) : eOp V9 (ZK (Zb (eC (.int 1)) eNil)) ε δ = some (IL (List.replicate n 1)) := by
 rw [Zn (x:=.lst [.int 1]) (y:=.int (n : Int)) rfl h,Ze5,ZgL (by simp; omega) (by omega)];rw [List.flatten_replicate_singleton,<- List.map_replicate]
noncomputable def upB : DL.Env -> Option Out := (Y6 2 (Zp 2 Jy [] (Zb (Za 0) (Zb (eOp ixD (Za 2) (Za 3)) eNil))))
theorem Zkd : f_QD = Zf (Zh 2 (ZK (Zb (eOp V9 (ZK (Zb (eC (.int 1)) eNil)) (Vq "many" QL (Za 0) eNil)) eNil))) (Zf (ZJ (ZE (Zb (Za 1) eNil)) (Zo 3) upB) (Zv (Za 2))) := rfl
theorem JT {m n : Nat} {W : Wy} (h : Ok m n W) (M : List Nat) (L : Nat) (hL : L <= 1000) : XF [Zl M W,.int (L : Int)] = some (.lst (CT W L)) := by
 have hm6 := h.m6;have hml := h.ln
 obtain ⟨δ',h1,v3,e⟩ := Ua (γ:=Zo 3) (φ:=upB) (fun k δ => ∃ v3,δ = [some (Zl M W),some (.int (L : Int)),some (.lst (CT W k)),v3]) (ZG 0 1 L) 0 [some (Zl M W),some (.int (L : Int)),some (.lst (CT W 0)),none] ⟨_,rfl⟩ (by
  intro j x δ hx ⟨v3,e⟩;subst e;obtain ⟨hj,rfl⟩ := U8 hx;rw [Nat.zero_add];refine ⟨_,rfl,[some (Zl M W),some (.int (L : Int)),some (.lst (CT W (j + 1))),some (.int (j : Int))],?_,_,rfl⟩;unfold upB;have hl := Ziq W j;refine (Zc7 (xs:=CT W j) (d:=IL (cv W (j + 1))) rfl ((Z8 (n:=2) (Zj (x:=Zl M W) rfl (Zj (x:=IL (cv W j)) ((Zn (x:=.lst (CT W j)) (y:=.int (j : Int)) rfl rfl).trans (XR (Qg (Nat.le_refl _)))) nil_of)) rfl).trans (Zeu h M (by rw [UG]; exact hml))) (by omega)).trans ?_
  rw [ZgX];rfl)
 subst e;rw [U9,Nat.zero_add] at h1;refine Yj (δ:=[some (Zl M W),some (.int (L : Int)),none,none]) rfl ?_;have t0 : Zh 2 (ZK (Zb (eOp V9 (ZK (Zb (eC (.int 1)) eNil)) (Vq "many" QL (Za 0) eNil)) eNil)) [some (Zl M W),some (.int (L : Int)),none,none] = some (.nx [some (Zl M W),some (.int (L : Int)),some (.lst (CT W 0)),none]) := ZI (Zc6 (Zj (Zk5 (n:=W.length) (by omega) (Zes rfl)) nil_of) (by show 1 <= 1000; decide))
 rw [Zkd,Zr t0];exact (Zr (YB ((XB (j:=(L : Int)) rfl (by omega) (by omega)).trans (by rw [Int.toNat_natCast])) h1)).trans (Yo rfl)
theorem Ze6 {m n : Nat} {W : Wy} (h : Ok m n W) (M : List Nat) {a : Nat} (ha : a < m) (L : Nat) (hL : L <= 1000) : Jz [Zl M W,.int (a : Int),.int (L : Int)] = some (.int ((cv W L).getD a 0)) := by
 refine Yj (δ:=[some (Zl M W),some (.int (a : Int)),some (.int (L : Int))]) rfl (Yo ?_);exact (Zn (x:=IL (cv W L)) (y:=.int (a : Int)) ((Zn (x:=.lst (CT W L)) (y:=.int (L : Int)) ((Z8 (n:=2) (Zj (x:=Zl M W) rfl (Zj (x:=.int (L : Int)) rfl nil_of)) rfl).trans (JT h M L hL)) rfl).trans (XR (Qg (Nat.le_refl _)))) rfl).trans (XD (by rw [UG,h.ln]; exact ha))
abbrev Qh (W : Wy) (e : Nat) : List Nat := (W.getD e []).filterMap id
theorem Zhw {m n : Nat} {W : Wy} (h : Ok m n W) (j : Nat) {e : Nat} (he : e < m) : (cv W (j + 1)).getD e 0 = ((Qh W e).map fun t => (cv W j).getD t 0).sum := by
 obtain ⟨r,h1,h2,h3⟩ := h.row he;show (nxt W (cv W j)).getD e 0 = _;unfold nxt Qh;rw [List.getD_eq_getElem?_getD,List.getElem?_map,h1,h2];rfl
theorem ZdL {m n : Nat} {W : Wy} (h : Ok m n W) {e : Nat} (he : e < m) : (cv W 0).getD e 0 = 1 := by
 show (List.replicate W.length (1 : Int)).getD e 0 = 1;rw [List.getD_eq_getElem?_getD,List.getElem?_replicate,if_pos (by rw [h.ln]; exact he)];rfl
theorem Ze7 {m n : Nat} {W : Wy} (h : Ok m n W) {e t : Nat} (he : e < m) (ht : t ∈ Qh W e) : t < m := by
 obtain ⟨r,h1,h2,h3⟩ := h.row he;obtain ⟨x,hx,e2⟩ := List.mem_filterMap.mp ht;rw [h2] at hx;have : x = some t := e2;subst this;exact h3.pl t hx
def S (W : Wy) (j : Nat) (xs : List Nat) : Int := (xs.map fun e => (cv W j).getD e 0).sum
end K22
namespace K22
open DL L2
theorem Zir {α : DL.Env -> Option (List D)} {δ : DL.Env} {L : Nat} (hL : L <= 1000) (h : α δ = some [.int ((L : Int) - 1),.int (-1),.int (-1)]) : ZE α δ = some (ZG ((L : Int) - 1) (-1) L) := by
 have e1 : (PySem.Builtin.Range.rangeSize ((L : Int) - 1) (-1) (-1)).toNat = L := by
  unfold PySem.Builtin.Range.rangeSize;rw [if_neg (by decide),show (- (-1) : Int) = 1 from rfl,Int.ediv_one]
  split <;> omega
 have e2 : PySem.Builtin.Range.small ((L : Int) - 1) (-1) (-1) = true := by
  unfold PySem.Builtin.Range.small PySem.Builtin.Range.rangeSize;simp only [PySem.Builtin.Range.rangeFitsLong,Bool.and_eq_true,Bool.or_eq_true,decide_eq_true_eq,beq_iff_eq];rw [if_neg (by decide),show (- (-1) : Int) = 1 from rfl,Int.ediv_one];refine ⟨?_,.inr (by decide)⟩
  split <;> omega
 unfold ZE;rw [h];dsimp only;rw [if_pos ⟨by decide,by decide,e2⟩,e1]
theorem ZgY {M : List Nat} (hM : M.Nodup) {k : Nat} (hk : k < M.length) : Xh M[k] M = (k : Int) := by
 obtain ⟨i,h1,h2,h3⟩ := Zen (List.getElem_mem hk);obtain ⟨h4,h5⟩ := List.getElem?_eq_some_iff.mp h2
 have : i = k := by
  rcases Nat.lt_trichotomy i k with h | h | h
  · exact absurd h5 (List.pairwise_iff_getElem.mp hM i k h3 hk h)
  · exact h
  · exact absurd h5.symm (List.pairwise_iff_getElem.mp hM k i hk h3 h)
 rw [h1,this]
theorem Qi {M : List Nat} {k : Nat} (hk : k < M.length) : M.getD k 0 = M[k] := by
 rw [List.getD_eq_getElem?_getD,List.getElem?_eq_getElem hk];rfl
theorem UH {M : List Nat} {k : Nat} (hk : k < M.length) : M.getD k 0 ∈ M := by rw [Qi hk]; exact List.getElem_mem hk
theorem JU {M : List Nat} (hM : M.Nodup) {k : Nat} (hk : k < M.length) : indexD M [.str [M.getD k 0]] = some (.int (k : Int)) := by
 show (if 0 <= Xh (M.getD k 0) M then some (D.int (Xh (M.getD k 0) M)) else none) = _;rw [Qi hk,ZgY hM hk,if_pos (by omega)]
theorem ZcG (M : List Nat) : (List.range M.length).map (fun k => M.getD k 0) = M := by
 apply List.ext_getElem?;intro k
 by_cases hk : k < M.length
 · rw [List.getElem?_map,List.getElem?_range hk,List.getElem?_eq_getElem hk]
   show some (M.getD k 0) = _;rw [Qi hk]
 · rw [List.getElem?_eq_none (by simp; omega),List.getElem?_eq_none (by omega)]
theorem QT {M : List Nat} {W : Wy} {i : Nat} {δ : DL.Env} (h : Za i δ = some (Zl M W)) : ZY YC "marks" (Za i) δ = some (.str M) := by unfold ZY; rw [h]; rfl
abbrev sg (M : List Nat) (k : Nat) : D := .str [M.getD k 0]
abbrev nx1 (W : Wy) (e k : Nat) : Option Nat := (W.getD e []).getD k none
def aw (c : List Int) : Option Nat -> Int
 | some t => c.getD t 0
 | none => 0
def Z4 (r : List (Option Nat)) (c : List Int) (k : Nat) : Int := (((r.take k).filterMap id).map fun t => c.getD t 0).sum
theorem ZcH {r : List (Option Nat)} (c : List Int) {k : Nat} (hk : k < r.length) : Z4 r c (k + 1) = Z4 r c k + aw c (r.getD k none) := by
 unfold Z4;rw [<- List.take_append_getElem hk,List.filterMap_append,List.map_append,List.sum_append,List.getD_eq_getElem?_getD,List.getElem?_eq_getElem hk];cases h : r[k] with
 | none => simp [aw]
 | some t => simp [aw]
theorem ZcI (r : List (Option Nat)) (c : List Int) : Z4 r c r.length = ((r.filterMap id).map fun t => c.getD t 0).sum := by
 unfold Z4;rw [List.take_length]
theorem ZcJ (r : List (Option Nat)) (c : List Int) : Z4 r c 0 = 0 := rfl
theorem cut_to {xs : List D} {k : Nat} (hk : k <= xs.length) : L2.cutL xs none (some (k : Int)) = xs.take k := by
 unfold L2.cutL ZR;dsimp only;rw [if_neg (by omega),Int.toNat_natCast,List.drop_zero,Nat.sub_zero,Nat.min_eq_left hk]
noncomputable def raE : DL.Env -> Option D := (ZT (ZH (Za 4)) (Zo 0) (xB (YF (Za 0))) (eOp ixD (Za 1) (Za 0)) 1 [3])
theorem Zke : f_QP = Zf (Zh 4 (eSl (eOp ixD (ZY Xo "ways" (Za 0)) (Za 1)) xNoP (xP (eBM indexD (ZY YC "marks" (Za 0)) (Zb (Za 2) eNil))))) (Zv (eCB sumLD (Zb raE eNil))) := rfl
section
variable {m : Nat} {M : List Nat} {W : Wy}
theorem Zf1 (hM : M.Nodup) (h : Ok m M.length W) {e k : Nat} (he : e < m) (hk : k < M.length) {c : List Int} (hc : c.length = m) : Xb [Zl M W,.int (e : Int),sg M k,IL c] = some (.int (Z4 (W.getD e []) c k)) := by
 have hn4 := h.n4;obtain ⟨r,hr1,hr2,hr3⟩ := h.row he;have hrl := hr3.ln;rw [hr2];have ex : eOp ixD (ZY Xo "ways" (Za 0)) (Za 1) [some (Zl M W),some (.int (e : Int)),some (sg M k),some (IL c),none] = some (Ym r) := (Zn (y:=.int (e : Int)) (JR rfl) rfl).trans (ix_tup (by rw [List.getElem?_map,hr1]; rfl));have ei : eBM indexD (ZY YC "marks" (Za 0)) (Zb (Za 2) eNil) [some (Zl M W),some (.int (e : Int)),some (sg M k),some (IL c),none] = some (.int (k : Int)) := (Qa (QT rfl) (Zj (x:=sg M k) rfl nil_of)).trans (JU hM hk)
 have t1 : Zh 4 (eSl (eOp ixD (ZY Xo "ways" (Za 0)) (Za 1)) xNoP (xP (eBM indexD (ZY YC "marks" (Za 0)) (Zb (Za 2) eNil)))) [some (Zl M W),some (.int (e : Int)),some (sg M k),some (IL c),none] = some (.nx [some (Zl M W),some (.int (e : Int)),some (sg M k),some (IL c),some (Ym (r.take k))]) := by
  refine ZI ?_;unfold eSl;rw [ex];unfold xP;rw [ei];show (if ZR (r.map oD).length 0 none = 0 /\ ZR (r.map oD).length (r.map oD).length (some (k : Int)) = (r.map oD).length then none else some (D.tup (L2.cutL (r.map oD) none (some (k : Int))))) = _
  have hne : ¬ (ZR (r.map oD).length 0 none = 0 /\ ZR (r.map oD).length (r.map oD).length (some (k : Int)) = (r.map oD).length) := fun ⟨_,z⟩ => by
   rw [List.length_map] at z;unfold ZR at z;dsimp only at z;rw [if_neg (by omega),Int.toNat_natCast] at z;omega
  rw [if_neg hne,cut_to (by rw [List.length_map]; omega),<- List.map_take];rfl
 have hin : raE [some (Zl M W),some (.int (e : Int)),some (sg M k),some (IL c),some (Ym (r.take k))] = some (IL (((r.take k).filterMap id).map fun t => c.getD t 0)) := by
  have hcc := JS (ε:=eOp ixD (Za 1) (Za 0)) (rest:=[some (IL c)]) (fun t => D.int (c.getD t 0)) (r.take k) (fun t ht => by
   have := hr3.pl t (List.mem_of_mem_take ht);exact (Zn (x:=IL c) (y:=.int (t : Int)) rfl rfl).trans (XD (by omega)))
  have e2 : (((r.take k).filterMap id).map fun t => c.getD t 0).map D.int = ((r.take k).filterMap id).map fun t => D.int (c.getD t 0) := by rw [List.map_map]; rfl
  show _ = some (D.lst ((((r.take k).filterMap id).map fun t => c.getD t 0).map D.int));rw [e2];unfold raE;have := ZfD (r.take k);have := List.length_take_le k r;exact XC (JQ rfl) rfl hcc (by rw [List.length_map]; omega)
 refine Yj (δ:=[some (Zl M W),some (.int (e : Int)),some (sg M k),some (IL c),none]) rfl ?_;rw [Zke,Zr t1];exact Yo ((Yt (Zj hin nil_of)).trans (Zcj _))
theorem JV {α : Type} (emb : α -> D) (p : α -> Bool) {τ : DL.Env -> Option Bool} {δ0 : DL.Env} : ∀ L : List α,(∀ a ∈ L,τ (some (emb a) :: δ0) = some (p a)) -> Z6 (Zo 0) τ (Za 0) (none :: δ0) (L.map emb) = some ((L.filter p).map emb)
 | [],_ => rfl
 | a :: L,h => by
  have ih := JV emb p L fun x hx => h x (List.mem_cons_of_mem _ hx)
  rw [List.map_cons];unfold Z6;have e1 : Zo 0 (emb a) (none :: δ0) = some (some (emb a) :: δ0) := rfl;rw [e1];dsimp only;rw [h a List.mem_cons_self];cases hp : p a with
  | true =>
   dsimp only;rw [show Za 0 (some (emb a) :: δ0) = some (emb a) from rfl,ih,List.filter_cons_of_pos hp];rfl
  | false =>
   dsimp only;rw [ih,List.filter_cons_of_neg (by rw [hp]; exact Bool.false_ne_true)]
theorem Zbi (p : Nat -> Bool) : ∀ n,(∃ k,k < n /\ p k = true) -> ∃ K pre,K < n /\ p K = true /\ (∀ k,K < k -> k < n -> p k = false) /\ (List.range n).filter p = pre ++ [K]
 | 0,⟨k,hk,_⟩ => absurd hk (by omega)
 | n + 1,⟨k,hk,hp⟩ => by
  rw [List.range_succ,List.filter_append]
  by_cases hn : p n = true
  · refine ⟨n,(List.range n).filter p,Nat.lt_succ_self n,hn,fun k h1 h2 => absurd h1 (by omega),?_⟩
    rw [show [n].filter p = [n] by simp [hn]]
  · have hkn : k ≠ n := fun z => hn (z ▸ hp)
    obtain ⟨K,pre,h1,h2,h3,h4⟩ := Zbi p n ⟨k,by omega,hp⟩;refine ⟨K,pre,by omega,h2,fun k' h5 h6 => ?_,?_⟩
    · by_cases e : k' = n
      · rw [e]; simpa using hn
      · exact h3 k' h5 (by omega)
    · rw [h4,show [n].filter p = [] by simp [hn],List.append_nil]
theorem Ze8 (n : Nat) : ixN (n + 1) (-1) = some n := by
 unfold ixN;rw [if_neg (by decide),if_pos (by omega)];exact congrArg some (by omega)
theorem ZgZ (xs : List D) (x : D) : ixD (.lst (xs ++ [x])) (.int (-1)) = some x := by
 refine ZdB (j:=xs.length) ?_ ?_
 · rw [List.length_append]
   exact Ze8 _
 · rw [List.getElem?_append_right (Nat.le_refl _),Nat.sub_self]
   rfl
noncomputable def maT : DL.Env -> Option Bool := (xB (eOp (Yg fun i j => decide (i <= j)) (Zp 4 Xb [] (Zb (Za 1) (Zb (Za 2) (Zb (Za 0) (Zb (Za 3) eNil))))) (Za 4)))
theorem Zkf : f_QU = Zv (eOp ixD (ZT (ZH (ZY YC "marks" (Za 0))) (Zo 0) maT (Za 0) 1 [0,1,3,2]) (eUn YG (eC (.int 1)))) := rfl
theorem Zkg (hM : M.Nodup) (h : Ok m M.length W) {e : Nat} (he : e < m) (L : Nat) {x : Int} (h0 : 0 <= x) (h1 : x < (cv W (L + 1)).getD e 0) : ∃ K t,K < M.length /\ nx1 W e K = some t /\ t < m /\ Z4 (W.getD e []) (cv W L) K <= x /\ x < Z4 (W.getD e []) (cv W L) K + (cv W L).getD t 0 /\ UA [Zl M W,.int (e : Int),.int x,IL (cv W L)] = some (sg M K) := by
 have hn2 := h.n2;have hn4 := h.n4;have hcl : (cv W L).length = m := by rw [UG]; exact h.ln
 obtain ⟨r,hr1,hr2,hr3⟩ := h.row he;have hrl := hr3.ln;rw [Zhw h L he] at h1;unfold Qh at h1
 have hcomp := JV (sg M) (fun k => decide (Z4 (W.getD e []) (cv W L) k <= x)) (τ:=maT) (δ0:=[some (Zl M W),some (.int (e : Int)),some (IL (cv W L)),some (.int x)]) (List.range M.length) (fun k hk => by
  unfold maT;exact ZU ((Zn (x:=.int (Z4 (W.getD e []) (cv W L) k)) (y:=.int x) ((Z8 (n:=4) (Zj (x:=Zl M W) rfl (Zj (x:=.int (e : Int)) rfl (Zj (x:=sg M k) rfl (Zj (x:=IL (cv W L)) rfl nil_of)))) rfl).trans (Zf1 hM h he (List.mem_range.mp hk) hcl)) rfl).trans rfl))
 rw [hr2] at h1 hcomp ⊢;obtain ⟨K,pre,hK,hpK,hafter,hfil⟩ := Zbi (fun k => decide (Z4 r (cv W L) k <= x)) M.length ⟨0,by omega,decide_eq_true (by rw [ZcJ]; exact h0)⟩;have hle : Z4 r (cv W L) K <= x := of_decide_eq_true hpK;have hs := ZcH (cv W L) (show K < r.length by omega)
 have hlt : x < Z4 r (cv W L) (K + 1) := by
  by_cases hKn : K + 1 < M.length
  · have := of_decide_eq_false (hafter (K + 1) (by omega) hKn)
    omega
  · rw [show K + 1 = r.length by omega,ZcI]
    exact h1
 have hnx : ∃ t,r.getD K none = some t := by
  cases hx : r.getD K none with
  | none => rw [hx] at hs; simp only [aw] at hs; omega
  | some t => exact ⟨t,rfl⟩
 obtain ⟨t,ht⟩ := hnx
 have htm : t < m := hr3.pl t (by
  rw [List.getD_eq_getElem?_getD,List.getElem?_eq_getElem (show K < r.length by omega)] at ht;have : r[K] = some t := ht;rw [<- this];exact List.getElem_mem _)
 refine ⟨K,t,hK,by show (W.getD e []).getD K none = some t; rw [hr2]; exact ht,htm,hle,?_,?_⟩
 · rw [hs,ht] at hlt
   exact hlt
 · refine Yj (δ:=[some (Zl M W),some (.int (e : Int)),some (.int x),some (IL (cv W L))]) rfl ?_
   rw [Zkf];refine Yo ((Zn (x:=.lst ((pre ++ [K]).map (sg M))) (y:=.int (-1)) ?_ rfl).trans ?_)
   · rw [<- hfil]
     have em : (List.range M.length).map (sg M) = M.map fun c => D.str [c] := by
      have := congrArg (List.map fun c => D.str [c]) (ZcG M);rw [List.map_map] at this;exact this
     have hio : ZH (ZY YC "marks" (Za 0)) [some (Zl M W),some (.int (e : Int)),some (.int x),some (IL (cv W L))] = some ((List.range M.length).map (sg M)) := by
      rw [em];unfold ZH;rw [QT (M:=M) (W:=W) rfl]
     refine XC hio rfl hcomp ?_;have := List.length_filter_le (fun k => decide (Z4 r (cv W L) k <= x)) (List.range M.length);rw [List.length_range] at this;rw [List.length_map];omega
   · rw [List.map_append]
     exact ZgZ _ _
end
end K22
namespace K22
open DL L2
theorem UI {γ : D -> DL.Env -> Option DL.Env} {φ : DL.Env -> Option Out} {x : D} {xs : List D} {δ δ1 δ2 : DL.Env} {o : Option Out} (h1 : γ x δ = some δ1) (h2 : φ δ1 = some (.nx δ2)) (h3 : ZW γ φ xs δ2 = o) : ZW γ φ (x :: xs) δ = o := by
 unfold ZW;rw [h1];dsimp only;rw [h2];exact h3
abbrev WT (W : Wy) : D := .tup (W.map Ym)
inductive Wk (W : Wy) (n : Nat) : Nat -> List Nat -> Nat -> Prop
 | nil (e : Nat) : Wk W n e [] e
 | cons {e k t z : Nat} {ks : List Nat} (hk : k < n) (h : nx1 W e k = some t) (r : Wk W n t ks z) : Wk W n e (k :: ks) z
def rk (W : Wy) : Nat -> List Nat -> Int
 | _,[] => 0
 | e,k :: ks => Z4 (W.getD e []) (cv W ks.length) k + (match nx1 W e k with
  | some t => rk W t ks
  | none => 0)
theorem ZdM {W : Wy} {e k t : Nat} {ks : List Nat} (h : nx1 W e k = some t) : rk W e (k :: ks) = Z4 (W.getD e []) (cv W ks.length) k + rk W t ks := by
 show Z4 (W.getD e []) (cv W ks.length) k + (match nx1 W e k with
  | some t => rk W t ks
  | none => 0) = _
 rw [h]
section
variable {m : Nat} {M : List Nat} {W : Wy}
theorem QU (h : Ok m M.length W) {e k t : Nat} (he : e < m) (hk : k < M.length) (hx : nx1 W e k = some t) : t < m := by
 obtain ⟨r,hr1,hr2,hr3⟩ := h.row he;refine hr3.pl t ?_;have hx : (W.getD e []).getD k none = some t := hx;rw [hr2,List.getD_eq_getElem?_getD,List.getElem?_eq_getElem (show k < r.length by rw [hr3.ln]; exact hk)] at hx;have : r[k]'(by rw [hr3.ln]; exact hk) = some t := hx;rw [<- this];exact List.getElem_mem _
theorem is_mark (c : Nat) (hc : c ∈ M) : Ub [.str M,.str [c]] = some (.bl true) := by
 refine Yj (δ:=[some (.str M),some (.str [c])]) rfl (Yo (ZdI rfl ((Zn (x:=.str [c]) (y:=.str M) rfl rfl).trans ?_)));show some (D.bl (false != decide (c ∈ M))) = some (D.bl true);rw [decide_eq_true hc];rfl
theorem Zkh (hM : M.Nodup) (h : Ok m M.length W) {e k : Nat} (he : e < m) (hk : k < M.length) : ZiT [Zl M W,.int (e : Int),sg M k] = some (oD (nx1 W e k)) := by
 obtain ⟨r,h1,h2,h3⟩ := h.row he;have hkr : k < r.length := by rw [h3.ln]; exact hk
 have e2 : r[k]? = some r[k] := List.getElem?_eq_getElem hkr
 have e3 : nx1 W e k = r[k] := by
  show (W.getD e []).getD k none = _;rw [h2,List.getD_eq_getElem?_getD,e2];rfl
 have ht : Xl (xB (Zp 2 Ub [] (Zb (ZY YC "marks" (Za 0)) (Zb (Za 2) eNil)))) [some (Zl M W),some (.int (e : Int)),some (sg M k)] = some false := ZbE (b:=true) (ZU ((Z8 (n:=2) (Zj (QT rfl) (Zj (x:=sg M k) rfl nil_of)) rfl).trans (is_mark _ (UH hk))));refine Yj (δ:=[some (Zl M W),some (.int (e : Int)),some (sg M k)]) rfl ?_;refine (Zr ((YH ht).trans rfl)).trans (Yo ?_);rw [e3];exact (Zn (x:=Ym r) (y:=.int (k : Int)) ((Zn (JR rfl) rfl).trans (ix_tup (by rw [List.getElem?_map,h1]; rfl))) ((Qa (QT rfl) (Zj (x:=sg M k) rfl nil_of)).trans (JU hM hk))).trans (ix_tup (by rw [List.getElem?_map,e2]; rfl))
theorem ZaV (hM : M.Nodup) (h : Ok m M.length W) {e k i j : Nat} {δ : DL.Env} (he : e < m) (hk : k < M.length) (h0 : Za 0 δ = some (Zl M W)) (h1 : Za i δ = some (.int (e : Int))) (h2 : Za j δ = some (sg M k)) : Yi "led" Yd (Za 0) (Zb (Za i) (Zb (Za j) eNil)) δ = some (oD (nx1 W e k)) := by
 have ha : Zb (Za i) (Zb (Za j) eNil) δ = some [.int (e : Int),sg M k] := Zj h1 (Zj h2 nil_of);unfold Yi;rw [h0,ha];exact Zkh hM h he hk
noncomputable def y1 : DL.Env -> Option Out := (Zh 7 (Zp 4 UA [] (Zb (Za 0) (Zb (Za 1) (Zb (Za 3) (Zb (eOp ixD (Za 4) (Za 6)) eNil))))))
noncomputable def y2 : DL.Env -> Option Out := (Zh 3 (eOp subD (Za 3) (Zp 4 Xb [] (Zb (Za 0) (Zb (Za 1) (Zb (Za 7) (Zb (eOp ixD (Za 4) (Za 6)) eNil)))))))
noncomputable def y3 : DL.Env -> Option Out := (Zh 1 (Yi "led" Yd (Za 0) (Zb (Za 1) (Zb (Za 7) eNil))))
noncomputable def yB : DL.Env -> Option Out := Zf y1 (Zf y2 (Zf y3 (Y6 5 (Za 7))))
abbrev YE (M : List Nat) (W : Wy) (L e : Nat) (x : Int) (acc : List Nat) (v6 v7 : Option D) : DL.Env := [some (Zl M W),some (.int (e : Int)),some (.int (L : Int)),some (.int x),some (.lst (CT W L)),some (.lst (acc.map (sg M))),v6,v7]
theorem Zev (R : Nat) : ZG (((R + 1 : Nat) : Int) - 1) (-1) (R + 1) = .int (R : Int) :: ZG ((R : Int) - 1) (-1) R := by
 unfold ZG;rw [List.range_succ_eq_map,List.map_cons,List.map_map]
 congr 1
 · exact congrArg D.int (by omega)
 · refine List.map_congr_left fun k _ => ?_
   exact congrArg D.int (by simp; omega)
theorem Zhx (hM : M.Nodup) (h : Ok m M.length W) (L : Nat) : ∀ (R e : Nat) (x : Int) (acc : List Nat) (v6 v7 : Option D),R <= L -> acc.length + R <= 1000 -> e < m -> 0 <= x -> x < (cv W R).getD e 0 -> ∃ ks z x' w6 w7,ks.length = R /\ Wk W M.length e ks z /\ rk W e ks = x /\ ZW (Zo 6) yB (ZG ((R : Int) - 1) (-1) R) (YE M W L e x acc v6 v7) = some (.nx (YE M W L z x' (acc ++ ks) w6 w7))
 | 0,e,x,acc,v6,v7,_,_,he,h0,h1 => by
  rw [ZdL h he] at h1;refine ⟨[],e,x,v6,v7,rfl,.nil e,?_,?_⟩
  · show (0 : Int) = x
    omega
  · rw [List.append_nil]
    rfl
 | R + 1,e,x,acc,v6,v7,hRL,hl,he,h0,h1 => by
  obtain ⟨K,t,hK,hx,ht,a1,b1,hma⟩ := Zkg hM h he R h0 h1;obtain ⟨ks,z,x',w6,w7,hks,hw,hrk,ih⟩ := Zhx hM h L R t (x - Z4 (W.getD e []) (cv W R) K) (acc ++ [K]) (some (.int (R : Int))) (some (sg M K)) (by omega) (by rw [List.length_append]; simp; omega) ht (by omega) (by omega);refine ⟨K :: ks,z,x',w6,w7,by rw [List.length_cons,hks],.cons hK hx hw,by rw [ZdM hx,hks,hrk]; omega,?_⟩
  have hcr : ∀ e x acc v7,eOp ixD (Za 4) (Za 6) (YE M W L e x acc (some (.int (R : Int))) v7) = some (IL (cv W R)) := fun e x acc v7 => (Zn (x:=.lst (CT W L)) (y:=.int (R : Int)) rfl rfl).trans (XR (Qg (by omega)))
  have t1 : y1 (YE M W L e x acc (some (.int (R : Int))) v7) = some (.nx (YE M W L e x acc (some (.int (R : Int))) (some (sg M K)))) := by
   unfold y1;exact ZI ((Z8 (n:=4) (Zj (x:=Zl M W) rfl (Zj (x:=.int (e : Int)) rfl (Zj (x:=.int x) rfl (Zj (hcr _ _ _ _) nil_of)))) rfl).trans hma)
  have t2 : y2 (YE M W L e x acc (some (.int (R : Int))) (some (sg M K))) = some (.nx (YE M W L e (x - Z4 (W.getD e []) (cv W R) K) acc (some (.int (R : Int))) (some (sg M K)))) := by
   unfold y2;exact ZI ((Zn (x:=.int x) rfl ((Z8 (n:=4) (Zj (x:=Zl M W) rfl (Zj (x:=.int (e : Int)) rfl (Zj (x:=sg M K) rfl (Zj (hcr _ _ _ _) nil_of)))) rfl).trans (Zf1 hM h he hK (by rw [UG]; exact h.ln)))).trans rfl)
  have t3 : y3 (YE M W L e (x - Z4 (W.getD e []) (cv W R) K) acc (some (.int (R : Int))) (some (sg M K))) = some (.nx (YE M W L t (x - Z4 (W.getD e []) (cv W R) K) acc (some (.int (R : Int))) (some (sg M K)))) := by
   unfold y3;refine ZI ((ZaV hM h he hK rfl rfl rfl).trans ?_);rw [hx];rfl
  have t4 : Y6 5 (Za 7) (YE M W L t (x - Z4 (W.getD e []) (cv W R) K) acc (some (.int (R : Int))) (some (sg M K))) = some (.nx (YE M W L t (x - Z4 (W.getD e []) (cv W R) K) (acc ++ [K]) (some (.int (R : Int))) (some (sg M K)))) := by
   refine (Zc7 (xs:=acc.map (sg M)) (d:=sg M K) rfl rfl (by rw [List.length_map]; omega)).trans ?_;rw [show acc.map (sg M) ++ [sg M K] = (acc ++ [K]).map (sg M) by rw [List.map_append]; rfl];rfl
  rw [Zev,show acc ++ K :: ks = (acc ++ [K]) ++ ks by simp];refine UI (δ1:=YE M W L e x acc (some (.int (R : Int))) v7) rfl (?_ : yB _ = _) ih;unfold yB;rw [Zr t1,Zr t2,Zr t3];exact t4
noncomputable def rT : DL.Env -> Option Out := (sIf (xOr (xB (eOp (Yg fun i j => decide (i < j)) (Za 3) (eC (.int 0)))) (xB (eOp (Yg fun i j => decide (j <= i)) (Za 3) (eOp ixD (eOp ixD (Za 4) (Za 2)) (Za 1))))) sNever sNext)
theorem Zew : f_QW = Zf (Zh 4 (Zp 2 XF [] (Zb (Za 0) (Zb (Za 2) eNil)))) (Zf rT (Zf (Zh 5 (ZK eNil)) (Zf (ZJ (ZE (Zb (eOp subD (Za 2) (eC (.int 1))) (Zb (eUn YG (eC (.int 1))) (Zb (eUn YG (eC (.int 1))) eNil)))) (Zo 6) yB) (Zv (eBM joinD (eC (.str [])) (Zb (Za 5) eNil)))))) := rfl
abbrev tx' (M : List Nat) (ks : List Nat) : D := .str (ks.map fun k => M.getD k 0)
theorem Zis (hM : M.Nodup) (h : Ok m M.length W) {e : Nat} (he : e < m) (L : Nat) (hL : L <= 900) {x : Int} (h0 : 0 <= x) (h1 : x < (cv W L).getD e 0) : ∃ ks z,ks.length = L /\ Wk W M.length e ks z /\ rk W e ks = x /\ Qb [Zl M W,.int (e : Int),.int (L : Int),.int x] = some (tx' M ks) := by
 obtain ⟨ks,z,x',w6,w7,hks,hw,hrk,t⟩ := Zhx hM h L L e x [] none none (Nat.le_refl _) (by simp; omega) he h0 h1;rw [List.nil_append] at t;refine ⟨ks,z,hks,hw,hrk,?_⟩;refine Yj (δ:=[some (Zl M W),some (.int (e : Int)),some (.int (L : Int)),some (.int x),none,none,none,none]) rfl ?_;have t1 : Zh 4 (Zp 2 XF [] (Zb (Za 0) (Zb (Za 2) eNil))) [some (Zl M W),some (.int (e : Int)),some (.int (L : Int)),some (.int x),none,none,none,none] = some (.nx [some (Zl M W),some (.int (e : Int)),some (.int (L : Int)),some (.int x),some (.lst (CT W L)),none,none,none]) := ZI ((Z8 (n:=2) (Zj (x:=Zl M W) rfl (Zj (x:=.int (L : Int)) rfl nil_of)) rfl).trans (JT h M L (by omega)))
 have t2 : rT [some (Zl M W),some (.int (e : Int)),some (.int (L : Int)),some (.int x),some (.lst (CT W L)),none,none,none] = some (.nx [some (Zl M W),some (.int (e : Int)),some (.int (L : Int)),some (.int x),some (.lst (CT W L)),none,none,none]) := by
  unfold rT;have e1 : xB (eOp (Yg fun i j => decide (i < j)) (Za 3) (eC (.int 0))) [some (Zl M W),some (.int (e : Int)),some (.int (L : Int)),some (.int x),some (.lst (CT W L)),none,none,none] = some (decide (x < 0)) := ZU ((Zn (x:=.int x) (y:=.int 0) rfl rfl).trans rfl);have e2 : xB (eOp (Yg fun i j => decide (j <= i)) (Za 3) (eOp ixD (eOp ixD (Za 4) (Za 2)) (Za 1))) [some (Zl M W),some (.int (e : Int)),some (.int (L : Int)),some (.int x),some (.lst (CT W L)),none,none,none] = some (decide ((cv W L).getD e 0 <= x)) := ZU ((Zn (x:=.int x) (y:=.int ((cv W L).getD e 0)) rfl ((Zn (x:=IL (cv W L)) (y:=.int (e : Int)) ((Zn (x:=.lst (CT W L)) (y:=.int (L : Int)) rfl rfl).trans (XR (Qg (Nat.le_refl _)))) rfl).trans (XD (by rw [UG,h.ln]; exact he)))).trans rfl)
  rw [decide_eq_false (by omega)] at e1 e2;exact (YH (Zib e1 e2)).trans rfl
 rw [Zew,Zr t1,Zr t2,Zr (δ' := YE M W L e x [] none none) rfl];refine (Zr (YB (Zir (L:=L) (by omega) (Zj (x:=.int ((L : Int) - 1)) ((Zn (x:=.int (L : Int)) (y:=.int 1) rfl rfl).trans rfl) (Zj (x:=.int (-1)) rfl (Zj (x:=.int (-1)) rfl nil_of)))) t)).trans (Yo ((Qa (s:=[]) rfl (Zj (x:=.lst (ks.map (sg M))) rfl nil_of)).trans ?_));exact Zbh (fun k => M.getD k 0) ks (by rw [PySem.sizeLine_eq]; omega)
end
end K22
namespace K22
open DL L2
abbrev ch (c : Nat) : D := .str [c]
theorem Zhy (M ks : List Nat) : (ks.map fun k => M.getD k 0).map ch = ks.map (sg M) := by rw [List.map_map]; rfl
theorem JW {γ : D -> Env -> Option Env} {φ : Env -> Option Out} {χ : Env -> Option String} {x : D} {r : List D} {δ δ1 : Env} (h : γ x δ = some δ1) : Xm γ φ χ (x :: r) δ = (match χ δ1 with
 | some c => some c
 | none => match φ δ1 with
  | some (.nx δ2) => Xm γ φ χ r δ2
  | some (.ct δ2) => Xm γ φ χ r δ2
  | _ => none) := by
 rw [Xm,h]
 try rfl
theorem ZbH {γ : D -> Env -> Option Env} {φ : Env -> Option Out} {x d : D} {r : List D} {δ δ1 : Env} (h : γ x δ = some δ1) (h2 : φ δ1 = some (.rt d)) : ZW γ φ (x :: r) δ = some (.rt d) := by
 rw [ZW,h];dsimp only;rw [h2]
theorem QV {χ ψ : Env -> Option String} {φ : Env -> Option Out} {δ : Env} {c : String} (h : χ δ = some c) : ZN χ φ ψ δ = some c := by
 unfold ZN;rw [h]
theorem Ud {χ ψ : Env -> Option String} {φ : Env -> Option Out} {δ δ1 : Env} (h : χ δ = none) (h2 : φ δ = some (.nx δ1)) : ZN χ φ ψ δ = ψ δ1 := by
 unfold ZN;rw [h,h2]
theorem ZbI {τ : Env -> Option Bool} {χ ψ : Env -> Option String} {δ : Env} (h : τ δ = some true) : xIf τ χ ψ δ = χ δ := by unfold xIf; rw [h]
theorem ZfE {τ : Env -> Option Bool} {χ ψ : Env -> Option String} {δ : Env} (h : τ δ = some false) : xIf τ χ ψ δ = ψ δ := by unfold xIf; rw [h]
inductive Rr (W : Wy) (M : List Nat) : Nat -> List Nat -> Nat -> Prop
 | nil (e : Nat) : Rr W M e [] 0
 | bad {e c : Nat} {T : List Nat} (hc : c ∉ M) : Rr W M e (c :: T) 2
 | brk {e k : Nat} {T : List Nat} (hk : k < M.length) (hx : nx1 W e k = none) : Rr W M e (M.getD k 0 :: T) 1
 | stp {e k t r : Nat} {T : List Nat} (hk : k < M.length) (hx : nx1 W e k = some t) (h : Rr W M t T r) : Rr W M e (M.getD k 0 :: T) r
theorem Zit {M : List Nat} {c : Nat} (h : c ∈ M) : ∃ k,k < M.length /\ c = M.getD k 0 := by
 obtain ⟨k,hk,e⟩ := List.getElem_of_mem h;exact ⟨k,hk,by rw [Qi hk,e]⟩
theorem ZdN (W : Wy) (M : List Nat) : ∀ (T : List Nat) (e : Nat),∃ r,Rr W M e T r /\ r <= 2
 | [],e => ⟨0,.nil e,by decide⟩
 | c :: T,e => by
  by_cases hc : c ∈ M
  · obtain ⟨k,hk,rfl⟩ := Zit hc
    cases hx : nx1 W e k with
    | none => exact ⟨1,.brk hk hx,by decide⟩
    | some t =>
     obtain ⟨r,h,h2⟩ := ZdN W M T t;exact ⟨r,.stp hk hx h,h2⟩
  · exact ⟨2,.bad hc,by decide⟩
theorem ZfF {W : Wy} {M : List Nat} : ∀ {e r : Nat} {T : List Nat},Rr W M e T r -> r = 0 -> ∃ ks z,T = ks.map (fun k => M.getD k 0) /\ Wk W M.length e ks z
 | e,_,_,.nil _,_ => ⟨[],e,rfl,.nil e⟩
 | e,_,_,.bad _,h => by cases h
 | e,_,_,.brk _ _,h => by cases h
 | e,_,_,.stp (k:=k) hk hx h,e0 => by
  obtain ⟨ks,z,rfl,w⟩ := ZfF h e0;exact ⟨k :: ks,z,rfl,.cons hk hx w⟩
theorem ZiW {W : Wy} {M : List Nat} : ∀ {e z : Nat} {ks : List Nat},Wk W M.length e ks z -> Rr W M e (ks.map fun k => M.getD k 0) 0
 | e,_,_,.nil _ => .nil e
 | e,_,_,.cons hk hx r => .stp hk hx (ZiW r)
section
variable {m : Nat} {M : List Nat} {W : Wy}
noncomputable def ldT : DL.Env -> Option Bool := (Xl (xB (Zp 2 Ub [] (Zb (ZY YC "marks" (Za 0)) (Zb (Za 2) eNil)))))
theorem Ze9 (M : List Nat) (c : Nat) : Ub [.str M,.str [c]] = some (.bl (decide (c ∈ M))) := by
 refine Yj (δ:=[some (.str M),some (.str [c])]) rfl (Yo (ZdI rfl ((Zn (x:=.str [c]) (y:=.str M) rfl rfl).trans ?_)));show some (D.bl (false != decide (c ∈ M))) = some (D.bl (decide (c ∈ M)));cases decide (c ∈ M) <;> rfl
theorem ZdO (M : List Nat) (W : Wy) (e c : Nat) : ldT [some (Zl M W),some (.int (e : Int)),some (ch c)] = some (!decide (c ∈ M)) :=
 ZbE (ZU ((Z8 (n:=2) (Zj (QT rfl) (Zj (x:=ch c) rfl nil_of)) rfl).trans (Ze9 M c)))
theorem Zhz {e k : Nat} (hk : k < M.length) : QM [Zl M W,.int (e : Int),sg M k] = none := by
 have ht := ZdO M W e (M.getD k 0);rw [decide_eq_true (UH hk)] at ht;have hn : sIf ldT sNever sNext [some (Zl M W),some (.int (e : Int)),some (sg M k)] = some (.nx [some (Zl M W),some (.int (e : Int)),some (sg M k)]) := (YH ht).trans rfl;show ZN (xIf ldT _ xNever) (sIf ldT sNever sNext) xNever [some (Zl M W),some (.int (e : Int)),some (sg M k)] = none;rw [Ud ((ZfE ht).trans rfl) hn];rfl
theorem Zg0 {e c : Nat} (hc : c < 128) (hb : c ∉ M) : QM [Zl M W,.int (e : Int),ch c] = some "BadMark" := by
 have ht := ZdO M W e c;rw [decide_eq_false hb] at ht;have hl : [c].length <= 1000 := by simp
 have hall : [c].all (fun c => decide (c < 65536)) = true := List.all_eq_true.mpr fun x h => by
  rw [List.mem_singleton] at h;exact decide_eq_true (by omega)
 have hrl := Zca [c] hall
 have e1 : U2 V8 (Za 2) [some (Zl M W),some (.int (e : Int)),some (ch c)] = some (.str (XO [c])) := by
  show V8 (.str [c]) = _;unfold V8;dsimp only;rw [if_pos ⟨hl,hall⟩]
 generalize XO [c] = s at e1 hrl;rw [List.length_singleton] at hrl
 have e2 : ∃ t,U3 [(U2 V8 (Za 2)),(eC (.str [32,105,115,32,110,111,32,109,97,114,107]))] [some (Zl M W),some (.int (e : Int)),some (ch c)] = some t := by
  refine ⟨.str (([] ++ s) ++ [32,105,115,32,110,111,32,109,97,114,107]),?_⟩;unfold U3 xJs;rw [e1];dsimp only;rw [if_pos (by rw [List.nil_append,PySem.sizeLine_eq]; omega)];unfold xJs
  show (match (if (([] ++ s) ++ [32,105,115,32,110,111,32,109,97,114,107]).length <= PySem.sizeLine then xJs [] (([] ++ s) ++ [32,105,115,32,110,111,32,109,97,114,107]) _ else none) with
   | some cs => some (D.str cs)
   | none => none) = _
  rw [if_pos (by rw [List.nil_append,List.length_append,PySem.sizeLine_eq]; show s.length + 11 <= _; omega)];rfl
 obtain ⟨t,e2⟩ := e2;show ZN (xIf ldT (Vr "BadMark" (Zb (U3 [(U2 V8 (Za 2)),(eC (.str [32,105,115,32,110,111,32,109,97,114,107]))]) eNil)) xNever) _ xNever [some (Zl M W),some (.int (e : Int)),some (ch c)] = _;refine QV ((ZbI ht).trans ?_);unfold Vr;rw [Zj e2 nil_of];rfl
theorem Zas {e i j : Nat} {x : D} {δ : DL.Env} {q : Option String} (h0 : Za 0 δ = some (Zl M W)) (h1 : Za i δ = some (.int (e : Int))) (h2 : Za j δ = some x) (h : QM [Zl M W,.int (e : Int),x] = q) : Xz "led" Yd (Za 0) (Zb (Za i) (Zb (Za j) eNil)) δ = q := by
 have ha : Zb (Za i) (Zb (Za j) eNil) δ = some [.int (e : Int),x] := Zj h1 (Zj h2 nil_of);unfold Xz;rw [h0,ha];exact h
noncomputable def wA : DL.Env -> Option Out := (Zh 1 (Yi "led" Yd (Za 0) (Zb (Za 1) (Zb (Za 3) eNil))))
noncomputable def wB : DL.Env -> Option Out := (Zf wA (sIf (xB (Z2 (Za 1))) (Zv (eC .non)) sNext))
noncomputable def wX : DL.Env -> Option String := (ZN (Xz "led" Yd (Za 0) (Zb (Za 1) (Zb (Za 3) eNil))) wA xNever)
theorem Zbj : f_QE = Zf (ZJ (ZH (Za 2)) (Zo 3) wB) (Zv (Za 1)) := rfl
theorem ZcK : QN = ZN (XQ (ZH (Za 2)) (Zo 3) wB wX) (ZJ (ZH (Za 2)) (Zo 3) wB) xNever := rfl
abbrev WE (M : List Nat) (W : Wy) (e : Nat) (v2 v3 : Option D) : DL.Env := [some (Zl M W),some (.int (e : Int)),v2,v3]
theorem Zf2 (hM : M.Nodup) (h : Ok m M.length W) {e k : Nat} (he : e < m) (hk : k < M.length) (v2 : Option D) : wA (WE M W e v2 (some (sg M k))) = some (.nx [some (Zl M W),some (oD (nx1 W e k)),v2,some (sg M k)]) := by
 unfold wA;exact ZI (ZaV hM h he hk rfl rfl rfl)
theorem ZhA (hM : M.Nodup) (h : Ok m M.length W) {e k : Nat} (he : e < m) (hk : k < M.length) (v2 : Option D) : wX (WE M W e v2 (some (sg M k))) = none := by
 unfold wX;rw [Ud (Zas rfl rfl rfl (Zhz hk)) (Zf2 hM h he hk v2)];rfl
theorem Zki (hM : M.Nodup) (h : Ok m M.length W) (v2 : Option D) : ∀ {e r : Nat} {T : List Nat},Rr W M e T r -> ∀ (v3 : Option D),e < m -> (∀ c ∈ T,c < 128) -> Xm (Zo 3) wB wX (T.map ch) (WE M W e v2 v3) = (if r = 2 then some "BadMark" else none) /\ (r = 1 -> ZW (Zo 3) wB (T.map ch) (WE M W e v2 v3) = some (.rt .non)) /\ (r = 0 -> ∃ z w3,ZW (Zo 3) wB (T.map ch) (WE M W e v2 v3) = some (.nx (WE M W z v2 w3))) := fun {e r T} hr => by
 induction hr with
 | nil e => exact fun v3 _ _ => ⟨rfl,(fun z => by cases z),fun _ => ⟨e,v3,rfl⟩⟩
 | @bad e c T hc =>
  intro v3 _ hT;refine ⟨?_,(fun z => by cases z),fun z => by cases z⟩;rw [List.map_cons,JW (δ1:=WE M W e v2 (some (ch c))) rfl]
  have : wX (WE M W e v2 (some (ch c))) = some "BadMark" := by
   unfold wX;exact QV (Zas rfl rfl rfl (Zg0 (hT c List.mem_cons_self) hc))
  rw [this];rfl
 | @brk e k T hk hx =>
  intro v3 he hT
  have hB : wB (WE M W e v2 (some (sg M k))) = some (.rt .non) := by
   unfold wB;have t1 := Zf2 hM h he hk v2;rw [hx] at t1;rw [Zr t1];exact (Uz (ZU rfl)).trans rfl
  refine ⟨?_,fun _ => ?_,fun z => by cases z⟩
  · rw [List.map_cons,JW (δ1:=WE M W e v2 (some (sg M k))) rfl,ZhA hM h he hk v2,hB]
    rfl
  · rw [List.map_cons]
    exact ZbH (δ1:=WE M W e v2 (some (sg M k))) rfl hB
 | @stp e k t r T hk hx hr ih =>
  intro v3 he hT;have ht := QU h he hk hx;obtain ⟨i1,i2,i3⟩ := ih (some (sg M k)) ht (fun c hc => hT c (List.mem_cons_of_mem _ hc))
  have hB : wB (WE M W e v2 (some (sg M k))) = some (.nx (WE M W t v2 (some (sg M k)))) := by
   unfold wB;have t1 := Zf2 hM h he hk v2;rw [hx] at t1;rw [Zr t1];exact (YH (ZU rfl)).trans rfl
  refine ⟨?_,fun z => ?_,fun z => ?_⟩
  · rw [List.map_cons,JW (δ1:=WE M W e v2 (some (sg M k))) rfl,ZhA hM h he hk v2,hB]
    exact i1
  · rw [List.map_cons]
    exact UI (δ1:=WE M W e v2 (some (sg M k))) rfl hB (i2 z)
  · obtain ⟨z',w3,q⟩ := i3 z
    refine ⟨z',w3,?_⟩;rw [List.map_cons];exact UI (δ1:=WE M W e v2 (some (sg M k))) rfl hB q
theorem Zbk (hM : M.Nodup) (h : Ok m M.length W) {e r : Nat} {T : List Nat} (he : e < m) (hT : ∀ c ∈ T,c < 128) (hr : Rr W M e T r) : JB [Zl M W,.int (e : Int),.str T] = (if r = 2 then some "BadMark" else none) /\ (r = 1 -> QO [Zl M W,.int (e : Int),.str T] = some .non) /\ (r = 0 -> ∃ z : Nat,QO [Zl M W,.int (e : Int),.str T] = some (.int (z : Int))) := by
 obtain ⟨i1,i2,i3⟩ := Zki hM h (some (.str T)) hr none he hT;have hi : ZH (Za 2) (WE M W e (some (.str T)) none) = some (T.map ch) := rfl;refine ⟨?_,fun z => ?_,fun z => ?_⟩
 · have xe : XQ (ZH (Za 2)) (Zo 3) wB wX (WE M W e (some (.str T)) none) = (if r = 2 then some "BadMark" else none) := by
    unfold XQ;rw [hi];exact i1
   show QN (WE M W e (some (.str T)) none) = _;rw [ZcK]
   by_cases hz : r = 2
   · rw [if_pos hz] at xe ⊢
     exact QV xe
   · rw [if_neg hz] at xe ⊢
     unfold ZN;rw [xe];dsimp only
     split <;> rfl
 · refine Yj (δ:=WE M W e (some (.str T)) none) rfl ?_
   rw [Zbj];unfold Zf;rw [YB hi (i2 z)]
 · obtain ⟨z',w3,q⟩ := i3 z
   refine ⟨z',Yj (δ:=WE M W e (some (.str T)) none) rfl ?_⟩;rw [Zbj];exact (Zr (YB hi q)).trans (Yo rfl)
end
end K22
namespace K22
open DL L2
theorem Zf3 {φb : Env -> Option Out} {χb : Env -> Option String} {cl : List String} {i r : Nat} {tabs : List (List (String × Bool))} {δ : Env} {c : String} {bs : List Bool} (h : χb δ = some c) (hc : cl.contains c = true) (hi : i < δ.length) (hs : Xy c tabs = some bs) (hl : bs.length <= 1000) : X1 φb χb cl i r tabs δ = some (.nx ((δ.set r (some (.lst (bs.map D.bl)))).set i none)) := by
 unfold X1;rw [h];dsimp only;rw [if_pos ⟨hc,hi⟩,hs];dsimp only;rw [if_pos hl]
theorem Zkj {φb : Env -> Option Out} {χb : Env -> Option String} {cl : List String} {i r : Nat} {tabs : List (List (String × Bool))} {δ : Env} (h : χb δ = none) : X1 φb χb cl i r tabs δ = φb δ := by
 unfold X1;rw [h]
section
variable {m : Nat} {M : List Nat} {W : Wy}
noncomputable def nW : DL.Env -> Option D := (Yi "walked" UB (Za 0) (Zb (Za 1) (Zb (Za 2) eNil)))
noncomputable def nWx : DL.Env -> Option String := (Xz "walked" UB (Za 0) (Zb (Za 1) (Zb (Za 2) eNil)))
noncomputable def n1 : DL.Env -> Option Out := (sIf (xB (Z2 nW)) sNever sNext)
noncomputable def nR : DL.Env -> Option String := (Vr "NoRow" (Zb (eC (.str [116,104,101,32,114,111,119,32,99,97,110,39,116,32,98,101,32,119,97,108,107,101,100])) eNil))
noncomputable def nB1 : DL.Env -> Option Out := (Zh 4 (eOp addX (Za 4) (Zp 4 Xb [] (Zb (Za 0) (Zb (Za 1) (Zb (Za 6) (Zb (eOp ixD (Za 3) (eOp subD (eCB lenD (Zb (Za 2) eNil)) (Za 5))) eNil)))))))
noncomputable def nB2 : DL.Env -> Option Out := (Zh 1 (Yi "led" Yd (Za 0) (Zb (Za 1) (Zb (Za 6) eNil))))
noncomputable def nX : DL.Env -> Option String := (ZN xNever nB1 (Xz "led" Yd (Za 0) (Zb (Za 1) (Zb (Za 6) eNil))))
noncomputable def n3 : DL.Env -> Option Out := (Zh 3 (Zp 2 XF [] (Zb (Za 0) (Zb (eCB lenD (Zb (Za 2) eNil)) eNil))))
theorem Zex : f_QQ = Zf n1 (Zf n3 (Zf (Zh 4 (eC (.int 0))) (Zf (ZJ (XM (Za 2)) (XJ 2 (Yv 5 (Yv 6 gsNil))) (Zf nB1 nB2)) (Zv (Za 4))))) := rfl
theorem ZaF : g_QQ = ZN (Us nWx (xB (Z2 nW)) nR xNever) n1 (ZN xNever n3 (ZN xNever (Zh 4 (eC (.int 0))) (ZN (XQ (XM (Za 2)) (XJ 2 (Yv 5 (Yv 6 gsNil))) (Zf nB1 nB2) nX) (ZJ (XM (Za 2)) (XJ 2 (Yv 5 (Yv 6 gsNil))) (Zf nB1 nB2)) xNever))) := rfl
abbrev NE (M : List Nat) (W : Wy) (T : List Nat) (e : Nat) (x : Int) (v5 v6 : Option D) : DL.Env := [some (Zl M W),some (.int (e : Int)),some (.str T),some (.lst (CT W T.length)),some (.int x),v5,v6]
theorem ZdP (hM : M.Nodup) (h : Ok m M.length W) (T : List Nat) (hT : T.length <= 900) : ∀ {e z : Nat} {ks : List Nat} (p : Nat) (x : Int) (v5 v6 : Option D),e < m -> Wk W M.length e ks z -> p + ks.length = T.length + 1 -> 1 <= p -> ∃ w5 w6,ZW (XJ 2 (Yv 5 (Yv 6 gsNil))) (Zf nB1 nB2) (YM p (ks.map (sg M))) (NE M W T e x v5 v6) = some (.nx (NE M W T z (x + rk W e ks) w5 w6)) /\ Xm (XJ 2 (Yv 5 (Yv 6 gsNil))) (Zf nB1 nB2) nX (YM p (ks.map (sg M))) (NE M W T e x v5 v6) = none
 | e,_,_,p,x,v5,v6,_,.nil _,_,_ => ⟨v5,v6,by
  show some (Out.nx (NE M W T e x v5 v6)) = some (Out.nx (NE M W T e (x + 0) v5 v6));rw [Int.add_zero],rfl⟩
 | e,z,_,p,x,v5,v6,he,.cons (k:=k) (t:=t) (ks:=ks) hk hx r,hp,hp1 => by
  rw [List.length_cons] at hp;have ht := QU h he hk hx;obtain ⟨w5,w6,ih,ix⟩ := ZdP hM h T hT (p + 1) (x + Z4 (W.getD e []) (cv W ks.length) k) (some (.int (p : Int))) (some (sg M k)) ht r (by omega) (by omega)
  have hc : eOp ixD (Za 3) (eOp subD (eCB lenD (Zb (Za 2) eNil)) (Za 5)) (NE M W T e x (some (.int (p : Int))) (some (sg M k))) = some (IL (cv W ks.length)) := by
   refine (Zn (x:=.lst (CT W T.length)) (y:=.int (ks.length : Int)) rfl ((Zn (x:=.int (T.length : Int)) (y:=.int (p : Int)) ((Yt (Zj (x:=.str T) rfl nil_of)).trans (len_str (by omega))) rfl).trans ?_)).trans (XR (Qg (by omega)));show some (D.int ((T.length : Int) - (p : Int))) = _;exact congrArg (fun z => some (D.int z)) (by omega)
  have t1 : nB1 (NE M W T e x (some (.int (p : Int))) (some (sg M k))) = some (.nx (NE M W T e (x + Z4 (W.getD e []) (cv W ks.length) k) (some (.int (p : Int))) (some (sg M k)))) := by
   unfold nB1;exact ZI ((Zn (x:=.int x) rfl ((Z8 (n:=4) (Zj (x:=Zl M W) rfl (Zj (x:=.int (e : Int)) rfl (Zj (x:=sg M k) rfl (Zj hc nil_of)))) rfl).trans (Zf1 hM h he hk (by rw [UG]; exact h.ln)))).trans (add_int _ _))
  have t2 : Zf nB1 nB2 (NE M W T e x (some (.int (p : Int))) (some (sg M k))) = some (.nx (NE M W T t (x + Z4 (W.getD e []) (cv W ks.length) k) (some (.int (p : Int))) (some (sg M k)))) := by
   rw [Zr t1];unfold nB2;refine ZI ((ZaV hM h he hk rfl rfl rfl).trans ?_);rw [hx];rfl
  have t3 : nX (NE M W T e x (some (.int (p : Int))) (some (sg M k))) = none := by
   unfold nX;rw [Ud rfl t1];exact Zas rfl rfl rfl (Zhz hk)
  refine ⟨w5,w6,?_,?_⟩
  · rw [List.map_cons,YM,ZdM hx,<- Int.add_assoc]
    exact UI (δ1:=NE M W T e x (some (.int (p : Int))) (some (sg M k))) rfl t2 ih
  · rw [List.map_cons,YM,JW (δ1:=NE M W T e x (some (.int (p : Int))) (some (sg M k))) rfl,t3,t2]
    exact ix
theorem ZhB {e : Nat} {T : List Nat} {d : D} (h : QO [Zl M W,.int (e : Int),.str T] = some d) : nW [some (Zl M W),some (.int (e : Int)),some (.str T),none,none,none,none] = some d := by
 unfold nW Yi;exact h
theorem ZhC {e : Nat} {T : List Nat} {q : Option String} (h : JB [Zl M W,.int (e : Int),.str T] = q) : nWx [some (Zl M W),some (.int (e : Int)),some (.str T),none,none,none,none] = q := by
 unfold nWx Xz;exact h
theorem Zbl (hM : M.Nodup) (h : Ok m M.length W) {e z : Nat} {ks : List Nat} (he : e < m) (hw : Wk W M.length e ks z) (hT : ∀ c ∈ M,c < 128) (hl : ks.length <= 900) : UC [Zl M W,.int (e : Int),tx' M ks] = some (.int (rk W e ks)) /\ Qc [Zl M W,.int (e : Int),tx' M ks] = none := by
 have hTl : (ks.map fun k => M.getD k 0).length = ks.length := List.length_map ..
 obtain ⟨x1,_,x3⟩ := Zbk hM h he (T:=ks.map fun k => M.getD k 0) (fun c hc => by
  obtain ⟨k,_,rfl⟩ := List.mem_map.mp hc
  by_cases hk : k < M.length
  · exact hT _ (UH hk)
  · rw [List.getD_eq_getElem?_getD,List.getElem?_eq_none (by omega)]
    decide) (ZiW hw)
 obtain ⟨z',hwk⟩ := x3 rfl;obtain ⟨w5,w6,t,tx⟩ := ZdP hM h (ks.map fun k => M.getD k 0) (by omega) 1 0 none none he hw (by omega) (Nat.le_refl _);rw [Int.zero_add] at t
 have hio : ∀ δ,Za 2 δ = some (.str (ks.map fun k => M.getD k 0)) -> XM (Za 2) δ = some (YM 1 (ks.map (sg M))) := fun δ hd => by
  unfold XM;rw [hd,<- Zhy]
 show UC [Zl M W,.int (e : Int),.str (ks.map fun k => M.getD k 0)] = _ /\ Qc [Zl M W,.int (e : Int),.str (ks.map fun k => M.getD k 0)] = _;generalize ks.map (fun k => M.getD k 0) = T at *
 have t0 : xB (Z2 nW) [some (Zl M W),some (.int (e : Int)),some (.str T),none,none,none,none] = some false := by
  refine ZU ?_;unfold Z2;rw [ZhB hwk];rfl
 have t1 : n1 [some (Zl M W),some (.int (e : Int)),some (.str T),none,none,none,none] = some (.nx [some (Zl M W),some (.int (e : Int)),some (.str T),none,none,none,none]) := by
  unfold n1;exact (YH t0).trans rfl
 have t2 : n3 [some (Zl M W),some (.int (e : Int)),some (.str T),none,none,none,none] = some (.nx [some (Zl M W),some (.int (e : Int)),some (.str T),some (.lst (CT W T.length)),none,none,none]) := by
  unfold n3;exact ZI ((Z8 (n:=2) (Zj (x:=Zl M W) rfl (Zj (x:=.int (T.length : Int)) ((Yt (Zj (x:=.str T) rfl nil_of)).trans (len_str (by omega))) nil_of)) rfl).trans (JT h M T.length (by omega)))
 refine ⟨Yj (δ:=[some (Zl M W),some (.int (e : Int)),some (.str T),none,none,none,none]) rfl ?_,?_⟩
 · rw [Zex,Zr t1,Zr t2,Zr (δ' := NE M W T e 0 none none) rfl]
   exact (Zr (YB (hio _ rfl) t)).trans (Yo rfl)
 · show g_QQ [some (Zl M W),some (.int (e : Int)),some (.str T),none,none,none,none] = none
   have u1 : Us nWx (xB (Z2 nW)) nR xNever [some (Zl M W),some (.int (e : Int)),some (.str T),none,none,none,none] = none := by
    unfold Us;rw [ZhC x1];exact (ZfE t0).trans rfl
   rw [ZaF,Ud u1 t1,Ud rfl t2,Ud rfl (show Zh 4 (eC (.int 0)) _ = some (.nx (NE M W T e 0 none none)) from rfl)]
   have u2 : XQ (XM (Za 2)) (XJ 2 (Yv 5 (Yv 6 gsNil))) (Zf nB1 nB2) nX (NE M W T e 0 none none) = none := by
    unfold XQ;rw [hio _ rfl];exact tx
   rw [Ud u2 (YB (hio _ rfl) t)];rfl
theorem Zbm (hM : M.Nodup) (h : Ok m M.length W) {e r : Nat} {T : List Nat} (he : e < m) (hT : ∀ c ∈ T,c < 128) (hr : Rr W M e T r) (h0 : r = 1 \/ r = 2) : Qc [Zl M W,.int (e : Int),.str T] = some (if r = 2 then "BadMark" else "NoRow") := by
 obtain ⟨x1,x2,_⟩ := Zbk hM h he hT hr;show g_QQ [some (Zl M W),some (.int (e : Int)),some (.str T),none,none,none,none] = _;rw [ZaF];refine QV ?_;unfold Us;rw [ZhC x1];rcases h0 with rfl | rfl
 · have t0 : xB (Z2 nW) [some (Zl M W), some (.int (e : Int)), some (.str T), none, none, none, none] = some true := by
    refine ZU ?_;unfold Z2;rw [ZhB (x2 rfl)];rfl
   exact (ZbI t0).trans rfl
 · rfl
def Xp : Nat -> D
 | 0 => .lst [.bl false,.bl false,.bl true,.bl false]
 | 1 => .lst [.bl true,.bl false,.bl true,.bl false]
 | _ => .lst [.bl false,.bl true,.bl true,.bl false]
noncomputable def wdT : DL.Env -> Option Out := (X1 (Vn (Zp 3 UC [] (Zb (Za 0) (Zb (Za 1) (Zb (Za 2) eNil))))) (V7 3 Qc [] (Zb (Za 0) (Zb (Za 1) (Zb (Za 2) eNil)))) ["BadMark", "NoRow"] 4 3 [ie_NoRow,ie_BadMark,ie_ValueError,JG])
theorem Zg1 : f_QA = Zf (Zh 3 (ZK (Zb (eC (.bl false)) (Zb (eC (.bl false)) (Zb (eC (.bl true)) (Zb (eC (.bl false)) eNil)))))) (Zf wdT (Zv (Za 3))) := rfl
theorem JX {n : Nat} {x : List D -> Option String} {α : DL.Env -> Option (List D)} {δ : DL.Env} {ds : List D} (h : α δ = some ds) (hn : ds.length = n) : V7 n x [] α δ = x ds := by
 unfold V7;rw [h];dsimp only;rw [List.append_nil,if_pos hn]
theorem ZdQ (hM : M.Nodup) (h : Ok m M.length W) (hS : ∀ c ∈ M,c < 128) {e r : Nat} {T : List Nat} (he : e < m) (hT : ∀ c ∈ T,c < 128) (hl : T.length <= 900) (hr : Rr W M e T r) (h2 : r <= 2) : Uc [Zl M W,.int (e : Int),.str T] = some (Xp r) := by
 have ha : Zb (Za 0) (Zb (Za 1) (Zb (Za 2) eNil)) [some (Zl M W),some (.int (e : Int)),some (.str T),some (Xp 0),none] = some [Zl M W,.int (e : Int),.str T] := rfl
 have fin : ∀ d : D,wdT [some (Zl M W),some (.int (e : Int)),some (.str T),some (Xp 0),none] = some (.nx [some (Zl M W),some (.int (e : Int)),some (.str T),some d,none]) -> Uc [Zl M W,.int (e : Int),.str T] = some d := fun d hd => by
  refine Yj (δ:=[some (Zl M W),some (.int (e : Int)),some (.str T),none,none]) rfl ?_;rw [Zg1,Zr (δ' := [some (Zl M W),some (.int (e : Int)),some (.str T),some (Xp 0),none]) rfl,Zr hd];exact Yo rfl
 have hc : r = 0 \/ r = 1 \/ r = 2 := by omega
 rcases hc with rfl | rfl | rfl
 · obtain ⟨ks,z,rfl,hw⟩ := ZfF hr rfl
   obtain ⟨q1,q2⟩ := Zbl hM h he hw hS (by rw [List.length_map] at hl; exact hl);refine fin _ ?_;unfold wdT;rw [Zkj ((JX (n:=3) ha rfl).trans q2)];unfold Vn;rw [(Z8 (n:=3) ha rfl).trans q1]
   try rfl
 · have q := Zbm hM h he hT hr (.inl rfl)
   refine fin _ ?_;unfold wdT;exact (Zf3 ((JX (n:=3) ha rfl).trans q) (by decide) (show 4 < 5 by decide) (bs:=[true,false,true,false]) (by decide) (by decide)).trans rfl
 · have q := Zbm hM h he hT hr (.inr rfl)
   refine fin _ ?_;unfold wdT;exact (Zf3 ((JX (n:=3) ha rfl).trans q) (by decide) (show 4 < 5 by decide) (bs:=[false,true,true,false]) (by decide) (by decide)).trans rfl
end
end K22
namespace K22
open DL L2
section
variable {m : Nat} {M : List Nat} {W : Wy}
theorem Ziu (h : Ok m M.length W) {κ0 κ1 : DL.Env -> Option D} {δ : DL.Env} {e : Nat} (he : e < m) (hv : κ0 δ = some (WT W)) (h1 : κ1 δ = some (.int (e : Int))) : eOp ixD κ0 κ1 δ = some (Ym (W.getD e [])) := by
 obtain ⟨r,hr1,hr2,hr3⟩ := h.row he;rw [hr2];exact (Zn hv h1).trans (ix_tup (by rw [List.getElem?_map,hr1]; rfl))
theorem QW (h : Ok m M.length W) {κ0 κ1 κ2 : DL.Env -> Option D} {δ : DL.Env} {e k : Nat} (he : e < m) (hk : k < M.length) (hv : κ0 δ = some (WT W)) (h1 : κ1 δ = some (.int (e : Int))) (h2 : κ2 δ = some (.int (k : Int))) : eOp ixD (eOp ixD κ0 κ1) κ2 δ = some (oD (nx1 W e k)) := by
 obtain ⟨r,hr1,hr2,hr3⟩ := h.row he;have hkl : k < r.length := by rw [hr3.ln]; exact hk
 have ex : r[k]? = some r[k] := List.getElem?_eq_getElem hkl;refine (Zn (Ziu h he hv h1) h2).trans ?_;rw [hr2];refine (ix_tup (x:=oD r[k]) (by rw [List.getElem?_map,ex]; rfl)).trans ?_;show some (oD r[k]) = some (oD ((W.getD e []).getD k none));rw [hr2,List.getD_eq_getElem?_getD,ex];rfl
noncomputable def sxE : DL.Env -> Option D := (eOp ixD (eOp ixD (Za 1) (Za 2)) (eBM indexD (Za 0) (Zb (Za 4) eNil)))
noncomputable def du1 : DL.Env -> Option Out := (sIf (xB (eOp (inD true) (Za 4) (Za 0))) (Zv (ZK (Zb (eC (.bl false)) (Zb (eC (.bl true)) (Zb (eC (.bl true)) (Zb (eC (.bl false)) eNil)))))) sNext)
noncomputable def du2 : DL.Env -> Option Out := (sIf (xB (Z2 (Za 2))) (Zv (ZK (Zb (eC (.bl true)) (Zb (eC (.bl false)) (Zb (eC (.bl true)) (Zb (eC (.bl false)) eNil)))))) sNext)
noncomputable def duB : DL.Env -> Option Out := Zf du1 (Zf (Zh 2 sxE) du2)
theorem Ziv : f_QT = Zf (ZJ (ZH (Za 3)) (Zo 4) duB) (Zv (ZK (Zb (eC (.bl false)) (Zb (eC (.bl false)) (Zb (eC (.bl true)) (Zb (eC (.bl false)) eNil)))))) := rfl
abbrev UE (M : List Nat) (W : Wy) (x : D) (v3 v4 : Option D) : DL.Env := [some (.str M),some (WT W),some x,v3,v4]
theorem ZfG (M : List Nat) (W : Wy) (x : D) (v3 : Option D) (c : Nat) : xB (eOp (inD true) (Za 4) (Za 0)) (UE M W x v3 (some (ch c))) = some (!decide (c ∈ M)) := by
 refine ZU ((Zn (x:=ch c) (y:=.str M) rfl rfl).trans ?_);show some (D.bl (true != decide (c ∈ M))) = _;cases decide (c ∈ M) <;> rfl
theorem ZfH (hM : M.Nodup) (h : Ok m M.length W) {e k : Nat} (he : e < m) (hk : k < M.length) (v3 : Option D) : Zf du1 (Zf (Zh 2 sxE) du2) (UE M W (.int (e : Int)) v3 (some (sg M k))) = du2 (UE M W (oD (nx1 W e k)) v3 (some (sg M k))) := by
 have e1 := ZfG M W (.int (e : Int)) v3 (M.getD k 0);rw [decide_eq_true (UH hk)] at e1
 have t1 : du1 (UE M W (.int (e : Int)) v3 (some (sg M k))) = some (.nx (UE M W (.int (e : Int)) v3 (some (sg M k)))) := by
  unfold du1;exact (YH e1).trans rfl
 have t2 : Zh 2 sxE (UE M W (.int (e : Int)) v3 (some (sg M k))) = some (.nx (UE M W (oD (nx1 W e k)) v3 (some (sg M k)))) := by
  refine ZI ?_;unfold sxE;exact QW h he hk rfl rfl ((Qa (s:=M) rfl (Zj (x:=sg M k) rfl nil_of)).trans (JU hM hk))
 rw [Zr t1,Zr t2]
theorem Ziw (hM : M.Nodup) (h : Ok m M.length W) (v3 : Option D) : ∀ {e r : Nat} {T : List Nat},Rr W M e T r -> ∀ (v4 : Option D),e < m -> (r ≠ 0 -> ZW (Zo 4) duB (T.map ch) (UE M W (.int (e : Int)) v3 v4) = some (.rt (Xp r))) /\ (r = 0 -> ∃ z w4,ZW (Zo 4) duB (T.map ch) (UE M W (.int (e : Int)) v3 v4) = some (.nx (UE M W z v3 w4))) := fun {e r T} hr => by
 induction hr with
 | nil e => exact fun v4 _ => ⟨fun z => (z rfl).elim,fun _ => ⟨_,v4,rfl⟩⟩
 | @bad e c T hc =>
  intro v4 he;refine ⟨fun _ => ?_,fun z => by cases z⟩;rw [List.map_cons];refine ZbH (δ1:=UE M W (.int (e : Int)) v3 (some (ch c))) rfl ?_;have e1 := ZfG M W (.int (e : Int)) v3 c;rw [decide_eq_false hc] at e1;unfold duB du1;unfold Zf;rw [Uz e1];rfl
 | @brk e k T hk hx =>
  intro v4 he;refine ⟨fun _ => ?_,fun z => by cases z⟩;rw [List.map_cons];refine ZbH (δ1:=UE M W (.int (e : Int)) v3 (some (sg M k))) rfl ?_;unfold duB;rw [ZfH hM h he hk v3,hx];unfold du2;exact (Uz (ZU rfl)).trans rfl
 | @stp e k t r T hk hx hr ih =>
  intro v4 he;obtain ⟨i1,i2⟩ := ih (some (sg M k)) (QU h he hk hx)
  have hB : duB (UE M W (.int (e : Int)) v3 (some (sg M k))) = some (.nx (UE M W (.int (t : Int)) v3 (some (sg M k)))) := by
   unfold duB;rw [ZfH hM h he hk v3,hx];unfold du2;exact (YH (ZU rfl)).trans rfl
  refine ⟨fun z => ?_,fun z => ?_⟩
  · rw [List.map_cons]
    exact UI (δ1:=UE M W (.int (e : Int)) v3 (some (sg M k))) rfl hB (i1 z)
  · obtain ⟨z',w4,q⟩ := i2 z
    refine ⟨z',w4,?_⟩;rw [List.map_cons];exact UI (δ1:=UE M W (.int (e : Int)) v3 (some (sg M k))) rfl hB q
theorem Zix (hM : M.Nodup) (h : Ok m M.length W) {e r : Nat} {T : List Nat} (he : e < m) (hr : Rr W M e T r) : JI [.str M,WT W,.int (e : Int),.str T] = some (Xp r) := by
 obtain ⟨i1,i2⟩ := Ziw hM h (some (.str T)) hr none he;refine Yj (δ:=UE M W (.int (e : Int)) (some (.str T)) none) rfl ?_;rw [Ziv]
 by_cases hz : r = 0
 · obtain ⟨z',w4,q⟩ := i2 hz
   subst hz;exact (Zr (YB (xs:=T.map ch) rfl q)).trans (Yo rfl)
 · unfold Zf
   rw [YB (xs:=T.map ch) rfl (i1 hz)]
noncomputable def rfT : DL.Env -> Option Out := (X1 (Vn (Zp 4 Qb [] (Zb (Za 0) (Zb (Za 1) (Zb (Za 2) (Zb (Za 3) eNil)))))) (V7 4 JA [] (Zb (Za 0) (Zb (Za 1) (Zb (Za 2) (Zb (Za 3) eNil))))) ["BadMark", "NoRow"] 5 4 [ie_NoRow,ie_ValueError,ie_BadMark,JG])
theorem ZcL : f_QB = Zf (Zh 4 (ZK eNil)) (Zf rfT (Zv (eOp eqD (Za 4) (ZK (Zb (eC (.bl true)) (Zb (eC (.bl true)) (Zb (eC (.bl false)) (Zb (eC (.bl false)) eNil)))))))) := rfl
noncomputable def rTx : DL.Env -> Option Bool := (xOr (xB (eOp (Yg fun i j => decide (i < j)) (Za 3) (eC (.int 0)))) (xB (eOp (Yg fun i j => decide (j <= i)) (Za 3) (eOp ixD (eOp ixD (Za 4) (Za 2)) (Za 1)))))
noncomputable def rRx : DL.Env -> Option String := (Vr "NoRow" (Zb (eC (.str [116,104,101,114,101,32,105,115,32,110,111,32,114,111,119,32,111,102,32,116,104,97,116,32,110,117,109,98,101,114])) eNil))
theorem Zg2 : ∃ ψ,g_QW = ZN xNever (Zh 4 (Zp 2 XF [] (Zb (Za 0) (Zb (Za 2) eNil)))) (ZN (xIf rTx rRx xNever) rT ψ) := ⟨_,rfl⟩
theorem Ziy (h : Ok m M.length W) {e : Nat} (he : e < m) (L : Nat) (hL : L <= 900) {x : Int} (hx : x < 0 \/ (cv W L).getD e 0 <= x) : JA [Zl M W,.int (e : Int),.int (L : Int),.int x] = some "NoRow" := by
 show g_QW [some (Zl M W),some (.int (e : Int)),some (.int (L : Int)),some (.int x),none,none,none,none] = _;obtain ⟨ψ,hg⟩ := Zg2;have t1 : Zh 4 (Zp 2 XF [] (Zb (Za 0) (Zb (Za 2) eNil))) [some (Zl M W),some (.int (e : Int)),some (.int (L : Int)),some (.int x),none,none,none,none] = some (.nx [some (Zl M W),some (.int (e : Int)),some (.int (L : Int)),some (.int x),some (.lst (CT W L)),none,none,none]) := ZI ((Z8 (n:=2) (Zj (x:=Zl M W) rfl (Zj (x:=.int (L : Int)) rfl nil_of)) rfl).trans (JT h M L (by omega)))
 rw [hg,Ud rfl t1];refine QV ?_;have e1 : xB (eOp (Yg fun i j => decide (i < j)) (Za 3) (eC (.int 0))) [some (Zl M W),some (.int (e : Int)),some (.int (L : Int)),some (.int x),some (.lst (CT W L)),none,none,none] = some (decide (x < 0)) := ZU ((Zn (x:=.int x) (y:=.int 0) rfl rfl).trans rfl);have e2 : xB (eOp (Yg fun i j => decide (j <= i)) (Za 3) (eOp ixD (eOp ixD (Za 4) (Za 2)) (Za 1))) [some (Zl M W),some (.int (e : Int)),some (.int (L : Int)),some (.int x),some (.lst (CT W L)),none,none,none] = some (decide ((cv W L).getD e 0 <= x)) := ZU ((Zn (x:=.int x) (y:=.int ((cv W L).getD e 0)) rfl ((Zn (x:=IL (cv W L)) (y:=.int (e : Int)) ((Zn (x:=.lst (CT W L)) (y:=.int (L : Int)) rfl rfl).trans (XR (Qg (Nat.le_refl _)))) rfl).trans (XD (by rw [UG,h.ln]; exact he)))).trans rfl)
 have e3 : rTx [some (Zl M W),some (.int (e : Int)),some (.int (L : Int)),some (.int x),some (.lst (CT W L)),none,none,none] = some true := by
  unfold rTx xOr;rw [e1]
  by_cases hz : x < 0
  · rw [decide_eq_true hz]
  · rw [decide_eq_false hz]
    dsimp only;rw [e2,decide_eq_true (by omega)]
 exact (ZbI e3).trans rfl
theorem ZcM (h : Ok m M.length W) {e : Nat} (he : e < m) (L : Nat) (hL : L <= 900) {x : Int} (hx : x < 0 \/ (cv W L).getD e 0 <= x) : JH [Zl M W,.int (e : Int),.int (L : Int),.int x] = some (.bl true) := by
 have ha : Zb (Za 0) (Zb (Za 1) (Zb (Za 2) (Zb (Za 3) eNil))) [some (Zl M W),some (.int (e : Int)),some (.int (L : Int)),some (.int x),some (.lst []),none] = some [Zl M W,.int (e : Int),.int (L : Int),.int x] := rfl
 have t : rfT [some (Zl M W),some (.int (e : Int)),some (.int (L : Int)),some (.int x),some (.lst []),none] = some (.nx [some (Zl M W),some (.int (e : Int)),some (.int (L : Int)),some (.int x),some (.lst [.bl true,.bl true,.bl false,.bl false]),none]) := by
  unfold rfT;exact (Zf3 ((JX (n:=4) ha rfl).trans (Ziy h he L hL hx)) (by decide) (show 5 < 6 by decide) (bs:=[true,true,false,false]) (by decide) (by decide)).trans rfl
 refine Yj (δ:=[some (Zl M W),some (.int (e : Int)),some (.int (L : Int)),some (.int x),none,none]) rfl ?_;rw [ZcL,Zr (δ' := [some (Zl M W),some (.int (e : Int)),some (.int (L : Int)),some (.int x),some (.lst []),none]) rfl,Zr t];exact Yo rfl
end
end K22
namespace K22
open DL L2
theorem ZdR (f : Nat -> Int) : ∀ ts : List Nat,ts ≠ [] -> (∀ t ∈ ts,1 <= f t) -> 1 <= (ts.map f).sum
 | [],h,_ => absurd rfl h
 | [t],_,h => by
  have := h t List.mem_cons_self;show 1 <= f t + 0;omega
 | t :: u :: ts,_,h => by
  have ih := ZdR f (u :: ts) (by simp) fun x hx => h x (List.mem_cons_of_mem _ hx)
  have := h t List.mem_cons_self;rw [List.map_cons,List.sum_cons];omega
theorem Zk6 {m n : Nat} {W : Wy} (h : Ok m n W) {i : Nat} {δ : DL.Env} (hi : Za i δ = some (WT W)) : eCB lenD (Zb (Za i) eNil) δ = some (.int (m : Int)) := by
 refine (Yt (Zj hi nil_of)).trans ?_;rw [ZgM,List.length_map,h.ln]
section
variable {m : Nat} {M : List Nat} {W : Wy}
theorem Zc9 (h : Ok m M.length W) (hv : QS W) : ∀ (L : Nat) {e : Nat},e < m -> 1 <= (cv W L).getD e 0
 | 0,e,he => by rw [ZdL h he]; decide
 | L + 1,e,he => by
  rw [Zhw h L he];obtain ⟨r,hr1,hr2,hr3⟩ := h.row he;refine ZdR _ _ ?_ fun t ht => Zc9 h hv L (Ze7 h he ht)
  obtain ⟨t,ht⟩ := hv r (List.mem_of_getElem? hr1);intro z
  have : t ∈ Qh W e := by
   unfold Qh;rw [hr2];exact List.mem_filterMap.mpr ⟨some t,ht,rfl⟩
  rw [z] at this;cases this
theorem Wk.snoc {n : Nat} : ∀ {e z t k : Nat} {ks : List Nat},Wk W n e ks z -> k < n -> nx1 W z k = some t -> Wk W n e (ks ++ [k]) t
 | _,_,t,_,_,.nil _,hk,hx => .cons hk hx (.nil t)
 | _,_,_,_,_,.cons h1 h2 r,hk,hx => .cons h1 h2 (Wk.snoc r hk hx)
theorem Wk.lt (h : Ok m M.length W) : ∀ {e z : Nat} {ks : List Nat},e < m -> Wk W M.length e ks z -> z < m
 | _,_,_,he,.nil _ => he
 | _,_,_,he,.cons hk hx r => Wk.lt h (QU h he hk hx) r
noncomputable def q1 : DL.Env -> Option Out := (Zh 7 (ZT (ZE (Zb (eCB lenD (Zb (Za 0) eNil)) eNil)) (Zo 0) (xB (YF (eOp ixD (eOp ixD (Za 1) (Za 2)) (Za 0)))) (Za 0) 1 [1,2]))
noncomputable def q2 : DL.Env -> Option Out := (Zh 4 (eOp modW (eOp addX (eOp mulX (Za 4) (eC (.int 48271))) (Za 6)) (eC (.int 2147483647))))
noncomputable def q3 : DL.Env -> Option Out := (Zh 8 (eOp ixD (Za 7) (eOp modW (eOp fdivW (Za 4) (eC (.int 7))) (eCB lenD (Zb (Za 7) eNil)))))
noncomputable def q4 : DL.Env -> Option Out := (Zh 5 (eOp addX (Za 5) (eOp ixD (Za 0) (Za 8))))
noncomputable def q5 : DL.Env -> Option Out := (Zh 2 (eOp ixD (eOp ixD (Za 1) (Za 2)) (Za 8)))
theorem ZcN : f_QI = Zf (Zh 5 (eC (.str []))) (Zf (ZJ (ZE (Zb (Za 3) eNil)) (Zo 6) (Zf q1 (Zf q2 (Zf q3 (Zf q4 q5))))) (Zv (Za 5))) := rfl
abbrev QE (M : List Nat) (W : Wy) (e L : Nat) (c : Int) (ks : List Nat) (v6 v7 v8 : Option D) : DL.Env := [some (.str M),some (WT W),some (.int (e : Int)),some (.int (L : Int)),some (.int c),some (tx' M ks),v6,v7,v8]
theorem Ziz (h : Ok m M.length W) (hv : QS W) {e : Nat} (he : e < m) (L : Nat) (c : Int) (ks : List Nat) (hks : ks.length <= 1000) (j : Nat) (v7 v8 : Option D) : ∃ k t c' w7 w8,k < M.length /\ nx1 W e k = some t /\ Zf q1 (Zf q2 (Zf q3 (Zf q4 q5))) (QE M W e L c ks (some (.int (j : Int))) v7 v8) = some (.nx (QE M W t L c' (ks ++ [k]) (some (.int (j : Int))) w7 w8)) := by
 have hn2 := h.n2;have hn4 := h.n4;obtain ⟨r,hr1,hr2,hr3⟩ := h.row he;have hrl := hr3.ln
 have hf := JV (fun k : Nat => D.int (0 + (k : Int) * 1)) (fun k => (nx1 W e k).isSome) (τ:=xB (YF (eOp ixD (eOp ixD (Za 1) (Za 2)) (Za 0)))) (δ0:=[some (WT W),some (.int (e : Int))]) (List.range M.length) (fun k hk => by
  have hk := List.mem_range.mp hk;refine ZU ?_;unfold YF;rw [QW h (k:=k) he hk rfl rfl (show Za 0 [some (D.int (0 + (k : Int) * 1)),some (WT W),some (.int (e : Int))] = some (.int (k : Int)) by rw [show (0 + (k : Int) * 1) = k by omega]; rfl)];dsimp only;rw [Zch];cases nx1 W e k <;> rfl)
 have hne : (List.range M.length).filter (fun k => (nx1 W e k).isSome) ≠ [] := by
  intro z;obtain ⟨t,ht⟩ := hv r (List.mem_of_getElem? hr1);obtain ⟨k,hk,ek⟩ := List.mem_iff_getElem.mp ht;have := List.filter_eq_nil_iff.mp z k (List.mem_range.mpr (by omega));apply this;show ((W.getD e []).getD k none).isSome = true;rw [hr2,List.getD_eq_getElem?_getD,List.getElem?_eq_getElem hk,ek];rfl
 have hall : ∀ k ∈ (List.range M.length).filter (fun k => (nx1 W e k).isSome),k < M.length /\ (nx1 W e k).isSome = true := fun k hk => by
  obtain ⟨a,b⟩ := List.mem_filter.mp hk;exact ⟨List.mem_range.mp a,b⟩
 have hfl := List.length_filter_le (fun k => (nx1 W e k).isSome) (List.range M.length);rw [List.length_range] at hfl;generalize (List.range M.length).filter (fun k => (nx1 W e k).isSome) = op at *;have hop : 0 < op.length := List.length_pos_iff.mpr hne
 have hopm : op.map (fun k : Nat => D.int (0 + (k : Int) * 1)) = (op.map fun k : Nat => (k : Int)).map D.int := by
  rw [List.map_map];refine List.map_congr_left fun k _ => ?_
  show D.int (0 + (k : Int) * 1) = D.int (k : Int);rw [show (0 + (k : Int) * 1) = k by omega]
 rw [hopm] at hf
 have t1 : q1 (QE M W e L c ks (some (.int (j : Int))) v7 v8) = some (.nx (QE M W e L c ks (some (.int (j : Int))) (some (IL (op.map fun k : Nat => (k : Int)))) v8)) := by
  unfold q1;refine ZI (XC ((XB (j:=(M.length : Int)) (Zj ((Yt (Zj (x:=.str M) rfl nil_of)).trans (len_str (by omega))) nil_of) (by omega) (by omega)).trans (by rw [Int.toNat_natCast]; rfl)) rfl hf (by rw [List.length_map,List.length_map]; omega))
 have t2 : q2 (QE M W e L c ks (some (.int (j : Int))) (some (IL (op.map fun k : Nat => (k : Int)))) v8) = some (.nx (QE M W e L ((c * 48271 + j) % 2147483647) ks (some (.int (j : Int))) (some (IL (op.map fun k : Nat => (k : Int)))) v8)) := by
  unfold q2;exact ZI ((Zn (x:=.int (c * 48271 + j)) (y:=.int 2147483647) ((Zn (x:=.int (c * 48271)) (y:=.int (j : Int)) ((Zn (x:=.int c) (y:=.int 48271) rfl rfl).trans (if_pos (.inr (.inr ⟨by decide,by decide⟩)))) rfl).trans (add_int _ _)) rfl).trans (Yk (by decide)))
 generalize (c * 48271 + j) % 2147483647 = c' at *;obtain ⟨i,hi,hil⟩ := XE (c' / 7) hop;obtain ⟨hk1,hk2⟩ := hall op[i] (List.getElem_mem hil);obtain ⟨t,ht⟩ := Option.isSome_iff_exists.mp hk2;refine ⟨op[i],t,c',some (IL (op.map fun k : Nat => (k : Int))),some (.int ((op[i] : Nat) : Int)),hk1,ht,?_⟩
 have hol : eCB lenD (Zb (Za 7) eNil) (QE M W e L c' ks (some (.int (j : Int))) (some (IL (op.map fun k : Nat => (k : Int)))) v8) = some (.int (op.length : Int)) := by
  refine (Yt (Zj (x:=IL (op.map fun k : Nat => (k : Int))) rfl nil_of)).trans ?_;rw [Jx,List.length_map,List.length_map]
 have t3 : q3 (QE M W e L c' ks (some (.int (j : Int))) (some (IL (op.map fun k : Nat => (k : Int)))) v8) = some (.nx (QE M W e L c' ks (some (.int (j : Int))) (some (IL (op.map fun k : Nat => (k : Int)))) (some (.int ((op[i] : Nat) : Int))))) := by
  unfold q3;refine ZI ((Zn (x:=IL (op.map fun k : Nat => (k : Int))) (y:=.int (i : Int)) rfl ((Zn (x:=.int (c' / 7)) (y:=.int (op.length : Int)) ((Zn (x:=.int c') (y:=.int 7) rfl rfl).trans (UF (by decide) (by decide))) hol).trans ((Yk (by omega)).trans (by rw [hi])))).trans (XR ?_));rw [List.getElem?_map,List.getElem?_map,List.getElem?_eq_getElem hil];rfl
 generalize op[i] = k at *
 have t4 : q4 (QE M W e L c' ks (some (.int (j : Int))) (some (IL (op.map fun k : Nat => (k : Int)))) (some (.int (k : Int)))) = some (.nx (QE M W e L c' (ks ++ [k]) (some (.int (j : Int))) (some (IL (op.map fun k : Nat => (k : Int)))) (some (.int (k : Int))))) := by
  unfold q4;refine (ZI ((Zn (x:=tx' M ks) (y:=sg M k) rfl ((Zn (x:=.str M) (y:=.int (k : Int)) rfl rfl).trans (ix_str (c:=M.getD k 0) (by rw [Qi hk1]; exact List.getElem?_eq_getElem hk1) (by omega)))).trans (add_str (by rw [List.length_map]; simp; omega)))).trans ?_;rw [show (ks.map fun k => M.getD k 0) ++ [M.getD k 0] = (ks ++ [k]).map fun k => M.getD k 0 by rw [List.map_append]; rfl];rfl
 rw [Zr t1,Zr t2,Zr t3,Zr t4];unfold q5;refine (ZI (QW h he hk1 rfl rfl rfl)).trans ?_;rw [ht];rfl
theorem ZcO (h : Ok m M.length W) (hv : QS W) {e : Nat} (he : e < m) (L : Nat) (hL : L <= 900) (c : Int) : ∃ ks z,ks.length = L /\ Wk W M.length e ks z /\ JJ [.str M,WT W,.int (e : Int),.int (L : Int),.int c] = some (tx' M ks) := by
 obtain ⟨δ',h1,ks,z,c',w6,w7,w8,e',hkl,hw⟩ := Ua (γ:=Zo 6) (φ:=Zf q1 (Zf q2 (Zf q3 (Zf q4 q5)))) (fun j δ => ∃ (ks : List Nat) (z : Nat) (c' : Int) (v6 v7 v8 : Option D),δ = QE M W z L c' ks v6 v7 v8 /\ ks.length = j /\ Wk W M.length e ks z) (ZG 0 1 L) 0 (QE M W e L c [] none none none) ⟨[],e,c,_,_,_,rfl,rfl,.nil e⟩ (by
  intro j x δ hx ⟨ks,z,c',v6,v7,v8,e',hkl,hw⟩;subst e';obtain ⟨hj,rfl⟩ := U8 hx;rw [Nat.zero_add] at hkl ⊢;have hz := Wk.lt h he hw;obtain ⟨k,t,c2,w7,w8,hk,hx,tt⟩ := Ziz h hv hz L c' ks (by omega) j v7 v8;exact ⟨_,rfl,_,tt,ks ++ [k],t,c2,_,_,_,rfl,by rw [List.length_append,hkl]; rfl,hw.snoc hk hx⟩)
 subst e';rw [U9,Nat.zero_add] at hkl;refine ⟨ks,z,hkl,hw,Yj (δ:=[some (.str M),some (WT W),some (.int (e : Int)),some (.int (L : Int)),some (.int c),none,none,none,none]) rfl ?_⟩;rw [ZcN,Zr (δ' := QE M W e L c [] none none none) rfl];exact (Zr (YB ((XB (j:=(L : Int)) rfl (by omega) (by omega)).trans (by rw [Int.toNat_natCast])) h1)).trans (Yo rfl)
end
end K22
namespace K22
open DL L2
theorem ZaG {α : Type} (emb g : α -> D) (p : α -> Bool) {τ : DL.Env -> Option Bool} {ε : DL.Env -> Option D} {δ0 : DL.Env} : ∀ L : List α,(∀ a ∈ L,τ (some (emb a) :: δ0) = some (p a)) -> (∀ a ∈ L,ε (some (emb a) :: δ0) = some (g a)) -> Z6 (Zo 0) τ ε (none :: δ0) (L.map emb) = some ((L.filter p).map g)
 | [],_,_ => rfl
 | a :: L,h,h2 => by
  have ih := ZaG emb g p L (fun x hx => h x (List.mem_cons_of_mem _ hx)) (fun x hx => h2 x (List.mem_cons_of_mem _ hx));rw [List.map_cons];unfold Z6;have e1 : Zo 0 (emb a) (none :: δ0) = some (some (emb a) :: δ0) := rfl;rw [e1];dsimp only;rw [h a List.mem_cons_self];cases hp : p a with
  | true =>
   dsimp only;rw [h2 a List.mem_cons_self,ih,List.filter_cons_of_pos hp];rfl
  | false =>
   dsimp only;rw [ih,List.filter_cons_of_neg (by rw [hp]; decide)]
theorem ZhD {i j : Nat} {δ : DL.Env} {T : List Nat} {a : Nat} (hi : Za i δ = some (.str T)) (hj : Za j δ = some (.int (a : Int))) (hl : T.length <= 1000) : eSl (Za i) xNoP (xP (Za j)) δ = some (.str (T.take a)) := by
 unfold eSl;rw [hi];unfold xP;rw [hj];show (if T.length <= PySem.sizeLine then some (D.str (L2.cutL T none (some (a : Int)))) else none) = _;rw [if_pos (by rw [PySem.sizeLine_eq]; omega),L2.cut_to]
theorem Zg3 {i j : Nat} {δ : DL.Env} {T : List Nat} {a : Nat} (hi : Za i δ = some (.str T)) (hj : Za j δ = some (.int (a : Int))) (hl : T.length <= 1000) : eSl (Za i) (xP (Za j)) xNoP δ = some (.str (T.drop a)) := by
 unfold eSl;rw [hi];unfold xP;rw [hj];show (if T.length <= PySem.sizeLine then some (D.str (L2.cutL T (some (a : Int)) none)) else none) = _;rw [if_pos (by rw [PySem.sizeLine_eq]; omega),L2.cut_from]
def ins (T : List Nat) (a s : Nat) : List Nat := (T.take a ++ [s]) ++ T.drop a
theorem ZdS (T : List Nat) (a s : Nat) : (ins T a s).length = T.length + 1 := by
 unfold ins;rw [List.length_append,List.length_append,List.length_take,List.length_drop,List.length_singleton];omega
theorem ZdT {T : List Nat} {a s c : Nat} (h : c ∈ ins T a s) : c ∈ T \/ c = s := by
 unfold ins at h;rw [List.mem_append,List.mem_append,List.mem_singleton] at h;rcases h with (h | h) | h
 · exact .inl (List.mem_of_mem_take h)
 · exact .inr h
 · exact .inl (List.mem_of_mem_drop h)
theorem ZfI {i j : Nat} {ε : DL.Env -> Option D} {δ : DL.Env} {T : List Nat} {a s : Nat} (hi : Za i δ = some (.str T)) (hj : Za j δ = some (.int (a : Int))) (he : ε δ = some (ch s)) (hl : T.length <= 1000) : eOp addX (eOp addX (eSl (Za i) xNoP (xP (Za j))) ε) (eSl (Za i) (xP (Za j)) xNoP) δ = some (.str (ins T a s)) := by
 have h1 : (T.take a).length <= 1000 := by rw [List.length_take]; omega
 have h2 : (T.drop a).length <= 1000 := by rw [List.length_drop]; omega
 exact (Zn ((Zn (ZhD hi hj hl) he).trans (add_str (by rw [List.length_singleton]; omega))) (Zg3 hi hj hl)).trans (add_str (by rw [List.length_append,List.length_singleton]; omega))
def SS : List Nat := [32,33,35,36,38,40,41,42,43,44,45,46,47,58,59,60,61,62,63,64,65,66,67,68,69,70,71,72,73,74,75,76,77,78,79,80,81,82,83,84,85,86,87,88,89,90,91,93,94,95,123,124,125,126,97,98,99,100,101,102,103,104,105,106,107,108,109,110,111,112,113,114,115,116,117,118,119,120,121,122,48,49,50,51,52,53,54,55,56,57]
theorem Zkk : ∀ c ∈ SS,c < 128 := by decide
theorem Zkl : 32 ∈ SS := by decide
theorem ZfJ : SS.length = 90 := by decide
noncomputable def stC : DL.Env -> Option D := (ZT (ZH (Za 2)) (Zo 0) (xB (eOp (inD true) (Za 0) (Za 1))) (Za 0) 1 [0])
theorem ZcP : f_QG = Zf (Zh 2 (eC (.str SS))) (Zf (Zh 3 stC) (Zv (eOp ixD (Za 3) (eOp modW (Za 1) (eCB lenD (Zb (Za 3) eNil)))))) := rfl
theorem ZcQ {M : List Nat} (hM : Mk M) (c : Int) : ∃ s,s < 128 /\ JK [.str M,.int c] = some (ch s) := by
 have hf := JV ch (fun x => !decide (x ∈ M)) (τ:=xB (eOp (inD true) (Za 0) (Za 1))) (δ0:=[some (.str M)]) SS (fun x _ => by
  refine ZU ((Zn (x:=ch x) (y:=.str M) rfl rfl).trans ?_);show some (D.bl (true != decide (x ∈ M))) = _;cases decide (x ∈ M) <;> rfl)
 have hne : 32 ∈ SS.filter (fun x => !decide (x ∈ M)) := List.mem_filter.mpr ⟨Zkl,by rw [decide_eq_false hM.sp]; rfl⟩;have hall : ∀ x ∈ SS.filter (fun x => !decide (x ∈ M)),x < 128 := fun x hx => Zkk x (List.mem_filter.mp hx).1
 have hfl := List.length_filter_le (fun x => !decide (x ∈ M)) SS;rw [ZfJ] at hfl
 have hi : ∀ δ,Za 2 δ = some (.str SS) -> ZH (Za 2) δ = some (SS.map ch) := fun δ hd => by
  unfold ZH;rw [hd]
 have hSl := ZfJ;show ∃ s,s < 128 /\ DL.run 4 f_QG [.str M,.int c] = some (ch s);rw [ZcP];generalize SS.filter (fun x => !decide (x ∈ M)) = op at *;generalize SS = S at *;have hop : 0 < op.length := List.length_pos_of_mem hne;obtain ⟨i,hi',hil⟩ := XE c hop;refine ⟨op[i],hall _ (List.getElem_mem hil),Yj (δ:=[some (.str M),some (.int c),none,none]) rfl ?_⟩
 have t1 : Zh 3 stC [some (.str M),some (.int c),some (.str S),none] = some (.nx [some (.str M),some (.int c),some (.str S),some (.lst (op.map ch))]) := by
  unfold stC;exact ZI (XC (hi _ rfl) rfl hf (by rw [List.length_map]; omega))
 rw [Zr (δ' := [some (.str M),some (.int c),some (.str S),none]) rfl,Zr t1];refine Yo ((Zn (x:=.lst (op.map ch)) (y:=.int (i : Int)) rfl ((Zn (x:=.int c) (y:=.int (op.length : Int)) rfl ((Yt (Zj (x:=.lst (op.map ch)) rfl nil_of)).trans (by rw [Jx,List.length_map]))).trans ((Yk (by omega)).trans (by rw [hi'])))).trans (XR ?_));rw [List.getElem?_map,List.getElem?_eq_getElem hil];rfl
section
variable {m : Nat} {M : List Nat} {W : Wy}
theorem Wk.take {n : Nat} : ∀ {e z : Nat} {ks : List Nat},Wk W n e ks z -> ∀ a,∃ z',Wk W n e (ks.take a) z'
 | e,_,_,.nil _,a => ⟨e,by rw [List.take_nil]; exact .nil e⟩
 | e,_,_,.cons hk hx r,0 => ⟨e,.nil e⟩
 | e,_,_,.cons hk hx r,a + 1 => by
  obtain ⟨z',w⟩ := Wk.take r a;exact ⟨z',.cons hk hx w⟩
noncomputable def lr1 : DL.Env -> Option D := (eOp addX (eCB lenD (Zb (Za 3) eNil)) (eC (.int 1)))
noncomputable def p1 : DL.Env -> Option Out := (Zh 6 (eOp modW (eOp ixD (Za 4) (eC (.int 0))) lr1))
noncomputable def p2 : DL.Env -> Option Out := (Zh 7 (Za 2))
noncomputable def pB : DL.Env -> Option Out := (Zh 7 (eOp ixD (eOp ixD (Za 1) (Za 7)) (eBM indexD (Za 0) (Zb (Za 8) eNil))))
noncomputable def p3 : DL.Env -> Option Out := (ZJ (ZH (eSl (Za 3) xNoP (xP (Za 6)))) (Zo 8) pB)
noncomputable def p4 : DL.Env -> Option Out := (Zh 9 (ZT (ZE (Zb (eCB lenD (Zb (Za 0) eNil)) eNil)) (Zo 0) (xB (Z2 (eOp ixD (eOp ixD (Za 2) (Za 3)) (Za 0)))) (eOp ixD (Za 1) (Za 0)) 1 [0,1,7]))
noncomputable def p5 : DL.Env -> Option Out := (Zh 10 (Zp 2 JK [] (Zb (Za 0) (Zb (eOp ixD (Za 4) (eC (.int 1))) eNil))))
noncomputable def p6 : DL.Env -> Option Out := (sIf (Xu (xB (eOp eqD (eOp modW (Za 5) (eC (.int 2))) (eC (.int 1)))) (xB (eOp (Yg fun i j => decide (j < i)) (eCB lenD (Zb (Za 9) eNil)) (eC (.int 0))))) (Zh 3 (eOp addX (eOp addX (eSl (Za 3) xNoP (xP (Za 6))) (eOp ixD (Za 9) (eOp modW (eOp ixD (Za 4) (eC (.int 2))) (eCB lenD (Zb (Za 9) eNil))))) (eSl (Za 3) (xP (Za 6)) xNoP))) sNext)
noncomputable def p7a : DL.Env -> Option Out := (Zh 11 (eOp modW (eOp ixD (Za 4) (eC (.int 3))) lr1))
noncomputable def p7b : DL.Env -> Option Out := (Zh 3 (eOp addX (eOp addX (eSl (Za 3) xNoP (xP (Za 11))) (Za 10)) (eSl (Za 3) (xP (Za 11)) xNoP)))
noncomputable def p7 : DL.Env -> Option Out := (sIf (xB (eOp eqD (eOp modW (eOp fdivW (Za 5) (eC (.int 2))) (eC (.int 2))) (eC (.int 1)))) (Zf p7a p7b) sNext)
theorem Zey : f_QK = Zf p1 (Zf p2 (Zf p3 (Zf p4 (Zf p5 (Zf p6 (Zf p7 (Zv (Za 3)))))))) := rfl
abbrev PE' (M : List Nat) (W : Wy) (e : Nat) (T : List Nat) (cs : List Int) (way : Nat) (v6 v7 v8 v9 v10 v11 : Option D) : DL.Env := [some (.str M),some (WT W),some (.int (e : Int)),some (.str T),some (IL cs),some (.int (way : Int)),v6,v7,v8,v9,v10,v11]
theorem ZfK (hM : M.Nodup) (h : Ok m M.length W) (e0 : Nat) (T : List Nat) (cs : List Int) (way : Nat) (v6 v9 v10 v11 : Option D) : ∀ {e z : Nat} {ks : List Nat} (v8 : Option D),e < m -> Wk W M.length e ks z -> ∃ w8,ZW (Zo 8) pB (ks.map (sg M)) (PE' M W e0 T cs way v6 (some (.int (e : Int))) v8 v9 v10 v11) = some (.nx (PE' M W e0 T cs way v6 (some (.int (z : Int))) w8 v9 v10 v11))
 | e,_,_,v8,_,.nil _ => ⟨v8,rfl⟩
 | e,z,_,v8,he,.cons (k:=k) (t:=t) (ks:=ks) hk hx r => by
  have ht := QU h he hk hx;obtain ⟨w8,ih⟩ := ZfK hM h e0 T cs way v6 v9 v10 v11 (some (sg M k)) ht r;refine ⟨w8,?_⟩;rw [List.map_cons];refine UI (δ1:=PE' M W e0 T cs way v6 (some (.int (e : Int))) (some (sg M k)) v9 v10 v11) rfl (?_ : pB _ = some (.nx (PE' M W e0 T cs way v6 (some (.int (t : Int))) (some (sg M k)) v9 v10 v11))) ih;unfold pB;refine ZI ((QW h he hk rfl rfl ((Qa (s:=M) rfl (Zj (x:=sg M k) rfl nil_of)).trans (JU hM hk))).trans ?_)
  rw [hx];rfl
theorem ZfL {T : List Nat} (hl : T.length <= 1000) {δ : DL.Env} (h : Za 3 δ = some (.str T)) : lr1 δ = some (.int ((T.length + 1 : Nat) : Int)) := by
 unfold lr1;refine (Zn (x:=.int (T.length : Int)) (y:=.int 1) ((Yt (Zj h nil_of)).trans (len_str (by omega))) rfl).trans ?_;rw [add_int];rfl
theorem JY {cs : List Int} {i : Nat} (hi : i < cs.length) {δ : DL.Env} (h : Za 4 δ = some (IL cs)) : eOp ixD (Za 4) (eC (.int (i : Int))) δ = some (.int (cs.getD i 0)) := (Zn (y:=.int (i : Int)) h rfl).trans (XD hi)
theorem Zez (hM : Mk M) (h : Ok m M.length W) {e z : Nat} {ks : List Nat} (he : e < m) (hw : Wk W M.length e ks z) (hl : ks.length <= 100) (cs : List Int) (hc : cs.length = 4) (way : Nat) : ∃ T,T.length <= 200 /\ (∀ c ∈ T,c < 128) /\ QR [.str M,WT W,.int (e : Int),tx' M ks,IL cs,.int (way : Int)] = some (.str T) := by
 have hMlo := hM.lo;have hMhi := hM.hi
 have hTm : ∀ c ∈ ks.map (fun k => M.getD k 0),c < 128 := fun c hc => by
  obtain ⟨k,_,rfl⟩ := List.mem_map.mp hc
  by_cases hk : k < M.length
  · exact hM.sm _ (UH hk)
  · rw [List.getD_eq_getElem?_getD,List.getElem?_eq_none (by omega)]
    decide
 have hTl : (ks.map fun k => M.getD k 0).length = ks.length := List.length_map ..;obtain ⟨a,ha,hal⟩ := XE (cs.getD 0 0) (m:=ks.length + 1) (by omega);obtain ⟨z1,hw1⟩ := Wk.take hw a;obtain ⟨w8,l3⟩ := ZfK hM.nd h e (ks.map fun k => M.getD k 0) cs way (some (.int (a : Int))) none none none none he hw1;have hz1 : z1 < m := Wk.lt h he hw1;have htk : ((ks.map fun k => M.getD k 0).take a).map ch = (ks.take a).map (sg M) := by rw [<- List.map_take,Zhy]
 obtain ⟨s,hs,hst⟩ := ZcQ hM (cs.getD 1 0);show ∃ T,T.length <= 200 /\ (∀ c ∈ T,c < 128) /\ QR [.str M,WT W,.int (e : Int),.str (ks.map fun k => M.getD k 0),IL cs,.int (way : Int)] = some (.str T);generalize (ks.map fun k => M.getD k 0) = T at *
 have t1 : p1 (PE' M W e T cs way none none none none none none) = some (.nx (PE' M W e T cs way (some (.int (a : Int))) none none none none none)) := by
  unfold p1;refine ZI ((Zn (JY (i:=0) (by omega) rfl) (ZfL (by omega) rfl)).trans ((Yk (by omega)).trans ?_));rw [hTl,ha]
 have t3 : p3 (PE' M W e T cs way (some (.int (a : Int))) (some (.int (e : Int))) none none none none) = some (.nx (PE' M W e T cs way (some (.int (a : Int))) (some (.int (z1 : Int))) w8 none none none)) := by
  unfold p3;refine YB (xs:=(T.take a).map ch) ?_ (by rw [htk]; exact l3);have := ZhD (i:=3) (j:=6) (δ:=PE' M W e T cs way (some (.int (a : Int))) (some (.int (e : Int))) none none none none) (T:=T) (a:=a) rfl rfl (by omega);unfold ZH;rw [this]
 have hf := ZaG (fun k : Nat => D.int (0 + (k : Int) * 1)) (fun k => sg M k) (fun k => (nx1 W z1 k).isNone) (τ:=xB (Z2 (eOp ixD (eOp ixD (Za 2) (Za 3)) (Za 0)))) (ε:=eOp ixD (Za 1) (Za 0)) (δ0:=[some (.str M),some (WT W),some (.int (z1 : Int))]) (List.range M.length) (fun k hk => by
  have hk := List.mem_range.mp hk;refine ZU ?_;unfold Z2;rw [QW h (k:=k) hz1 hk rfl rfl (show Za 0 [some (D.int (0 + (k : Int) * 1)),some (.str M),some (WT W),some (.int (z1 : Int))] = some (.int (k : Int)) by rw [show (0 + (k : Int) * 1) = k by omega]; rfl)];dsimp only;rw [Zch]) (fun k hk => by
  have hk := List.mem_range.mp hk;exact (Zn (x:=.str M) (y:=.int (k : Int)) rfl (show Za 0 [some (D.int (0 + (k : Int) * 1)),some (.str M),some (WT W),some (.int (z1 : Int))] = some (.int (k : Int)) by rw [show (0 + (k : Int) * 1) = k by omega]; rfl)).trans (ix_str (c:=M.getD k 0) (by rw [Qi hk]; exact List.getElem?_eq_getElem hk) (by omega)))
 have hfl := List.length_filter_le (fun k => (nx1 W z1 k).isNone) (List.range M.length);rw [List.length_range] at hfl;have hfm : ∀ k ∈ (List.range M.length).filter (fun k => (nx1 W z1 k).isNone),k < M.length := fun k hk => List.mem_range.mp (List.mem_filter.mp hk).1
 generalize (List.range M.length).filter (fun k => (nx1 W z1 k).isNone) = op at *
 have t4 : p4 (PE' M W e T cs way (some (.int (a : Int))) (some (.int (z1 : Int))) w8 none none none) = some (.nx (PE' M W e T cs way (some (.int (a : Int))) (some (.int (z1 : Int))) w8 (some (.lst (op.map fun k => sg M k))) none none)) := by
  unfold p4;exact ZI (XC ((XB (j:=(M.length : Int)) (Zj ((Yt (Zj (x:=.str M) rfl nil_of)).trans (len_str (by omega))) nil_of) (by omega) (by omega)).trans (by rw [Int.toNat_natCast]; rfl)) rfl hf (by rw [List.length_map]; omega))
 have t5 : p5 (PE' M W e T cs way (some (.int (a : Int))) (some (.int (z1 : Int))) w8 (some (.lst (op.map fun k => sg M k))) none none) = some (.nx (PE' M W e T cs way (some (.int (a : Int))) (some (.int (z1 : Int))) w8 (some (.lst (op.map fun k => sg M k))) (some (ch s)) none)) := by
  unfold p5;exact ZI ((Z8 (n:=2) (Zj (x:=.str M) rfl (Zj (JY (i:=1) (by omega) rfl) nil_of)) rfl).trans hst)
 have hln : ∀ v6 v7 v8 v10 v11,eCB lenD (Zb (Za 9) eNil) (PE' M W e T cs way v6 v7 v8 (some (.lst (op.map fun k => sg M k))) v10 v11) = some (.int (op.length : Int)) := fun v6 v7 v8 v10 v11 => by
  refine (Yt (Zj (x:=.lst (op.map fun k => sg M k)) rfl nil_of)).trans ?_;rw [Jx,List.length_map]
 have t6 : ∃ T6,T6.length <= 110 /\ (∀ c ∈ T6,c < 128) /\ p6 (PE' M W e T cs way (some (.int (a : Int))) (some (.int (z1 : Int))) w8 (some (.lst (op.map fun k => sg M k))) (some (ch s)) none) = some (.nx (PE' M W e T6 cs way (some (.int (a : Int))) (some (.int (z1 : Int))) w8 (some (.lst (op.map fun k => sg M k))) (some (ch s)) none)) := by
  have c1 : xB (eOp eqD (eOp modW (Za 5) (eC (.int 2))) (eC (.int 1))) (PE' M W e T cs way (some (.int (a : Int))) (some (.int (z1 : Int))) w8 (some (.lst (op.map fun k => sg M k))) (some (ch s)) none) = some (decide ((way : Int) % 2 = 1)) := ZU ((Zn (x:=.int ((way : Int) % 2)) (y:=.int 1) ((Zn (x:=.int (way : Int)) (y:=.int 2) rfl rfl).trans (Yk (by decide))) rfl).trans (U7 _ _));have c2 : xB (eOp (Yg fun i j => decide (j < i)) (eCB lenD (Zb (Za 9) eNil)) (eC (.int 0))) (PE' M W e T cs way (some (.int (a : Int))) (some (.int (z1 : Int))) w8 (some (.lst (op.map fun k => sg M k))) (some (ch s)) none) = some (decide ((0 : Int) < (op.length : Int))) := ZU ((Zn (x:=.int (op.length : Int)) (y:=.int 0) (hln _ _ _ _ _) rfl).trans rfl)
  unfold p6
  by_cases hz : (way : Int) % 2 = 1
  · rw [decide_eq_true hz] at c1
    by_cases hq : 0 < op.length
    · rw [decide_eq_true (by omega)] at c2
      obtain ⟨i,hi,hil⟩ := XE (cs.getD 2 0) hq;refine ⟨ins T a (M.getD op[i] 0),by rw [ZdS]; omega,fun c hc => ?_,?_⟩
      · rcases ZdT hc with hc | rfl
        · exact hTm c hc
        · exact hM.sm _ (UH (hfm _ (List.getElem_mem hil)))
      · rw [Uz (ZaS c1 c2)]
        refine ZI (ZfI rfl rfl ?_ (by omega));refine (Zn (x:=.lst (op.map fun k => sg M k)) (y:=.int (i : Int)) rfl ((Zn (y:=.int (op.length : Int)) (JY (i:=2) (by omega) rfl) (hln _ _ _ _ _)).trans ((Yk (by omega)).trans (by rw [hi])))).trans (XR ?_);rw [List.getElem?_map,List.getElem?_eq_getElem hil];rfl
    · rw [decide_eq_false (by omega)] at c2
      exact ⟨T,by omega,hTm,(YH (ZaS c1 c2)).trans rfl⟩
  · rw [decide_eq_false hz] at c1
    exact ⟨T,by omega,hTm,(YH (ZdH c1)).trans rfl⟩
 obtain ⟨T6,hl6,hm6,t6⟩ := t6
 have t7 : ∃ T7 w11,T7.length <= 120 /\ (∀ c ∈ T7,c < 128) /\ p7 (PE' M W e T6 cs way (some (.int (a : Int))) (some (.int (z1 : Int))) w8 (some (.lst (op.map fun k => sg M k))) (some (ch s)) none) = some (.nx (PE' M W e T7 cs way (some (.int (a : Int))) (some (.int (z1 : Int))) w8 (some (.lst (op.map fun k => sg M k))) (some (ch s)) w11)) := by
  have c1 : xB (eOp eqD (eOp modW (eOp fdivW (Za 5) (eC (.int 2))) (eC (.int 2))) (eC (.int 1))) (PE' M W e T6 cs way (some (.int (a : Int))) (some (.int (z1 : Int))) w8 (some (.lst (op.map fun k => sg M k))) (some (ch s)) none) = some (decide ((way : Int) / 2 % 2 = 1)) := ZU ((Zn (x:=.int ((way : Int) / 2 % 2)) (y:=.int 1) ((Zn (x:=.int ((way : Int) / 2)) (y:=.int 2) ((Zn (x:=.int (way : Int)) (y:=.int 2) rfl rfl).trans (UF (by decide) (by decide))) rfl).trans (Yk (by decide))) rfl).trans (U7 _ _))
  unfold p7
  by_cases hz : (way : Int) / 2 % 2 = 1
  · rw [decide_eq_true hz] at c1
    obtain ⟨b,hb,hbl⟩ := XE (cs.getD 3 0) (m:=T6.length + 1) (by omega)
    have u1 : p7a (PE' M W e T6 cs way (some (.int (a : Int))) (some (.int (z1 : Int))) w8 (some (.lst (op.map fun k => sg M k))) (some (ch s)) none) = some (.nx (PE' M W e T6 cs way (some (.int (a : Int))) (some (.int (z1 : Int))) w8 (some (.lst (op.map fun k => sg M k))) (some (ch s)) (some (.int (b : Int))))) := by
     unfold p7a;refine ZI ((Zn (JY (i:=3) (by omega) rfl) (ZfL (by omega) rfl)).trans ((Yk (by omega)).trans ?_));rw [hb]
    refine ⟨ins T6 b s,some (.int (b : Int)),by rw [ZdS]; omega,fun c hc => ?_,?_⟩
    · rcases ZdT hc with hc | rfl
      · exact hm6 c hc
      · exact hs
    · rw [Uz c1,Zr u1]
      unfold p7b;exact ZI (ZfI rfl rfl rfl (by omega))
  · rw [decide_eq_false hz] at c1
    exact ⟨T6,none,by omega,hm6,(YH c1).trans rfl⟩
 obtain ⟨T7,w11,hl7,hm7,t7⟩ := t7;refine ⟨T7,by omega,hm7,Yj (δ:=PE' M W e T cs way none none none none none none) rfl ?_⟩;rw [Zey,Zr t1,Zr (δ' := PE' M W e T cs way (some (.int (a : Int))) (some (.int (e : Int))) none none none none) rfl,Zr t3,Zr t4,Zr t5,Zr t6,Zr t7];exact Yo rfl
end
end K22
namespace K22
open DL L2
theorem Zg4 {α : Type} (xs : List α) {a b : Nat} (hab : a <= b) (hb : b <= xs.length) : L2.cutL xs (some (a : Int)) (some (b : Int)) = (xs.drop a).take (b - a) := by
 unfold L2.cutL ZR;simp only [show ¬ ((a : Int) < 0) by omega,show ¬ ((b : Int) < 0) by omega,if_false,Int.toNat_natCast];rw [Nat.min_eq_left hb,Nat.min_eq_left (Nat.le_trans hab hb)]
noncomputable def cE (ε : DL.Env -> Option D) : DL.Env -> Option D := (Zp 2 X5 [] (Zb (Za 0) (Zb ε eNil)))
theorem QX (ns : List Int) (k : Nat) {ε : DL.Env -> Option D} {δ : DL.Env} (h : Za 0 δ = some (IL ns)) (hk : ε δ = some (.int (k : Int))) : cE ε δ = some (.int (ns.getD k 0)) := by
 unfold cE;exact (Z8 (n:=2) (Zj h (Zj hk nil_of)) rfl).trans (ZgO ns k)
noncomputable def a1 : DL.Env -> Option Out := (Zh 1 (Zp 3 JD [] (Zb (Za 0) (Zb (eC (.int 5)) (Zb (eC (.int 30)) eNil)))))
noncomputable def a2 : DL.Env -> Option Out := (Zh 2 (Zp 1 JE [] (Zb (cE (eC (.int 0))) eNil)))
noncomputable def a3 : DL.Env -> Option Out := (Zh 3 (Zp 3 JF [] (Zb (Za 1) (Zb (eOp addX (eC (.int 1)) (eOp modW (cE (eC (.int 1))) (eC (.int 6)))) (Zb (eCB lenD (Zb (Za 2) eNil)) eNil)))))
noncomputable def a4 : DL.Env -> Option Out := (Zh 4 (V4 "Rooms" 3 JC [] (Zb (Za 2) (Zb (Za 3) eNil))))
noncomputable def a5 : DL.Env -> Option Out := (Zh 5 (eOp modW (cE (eC (.int 2))) (eCB lenD (Zb (Za 3) eNil))))
noncomputable def a6 : DL.Env -> Option Out := (Zh 6 (eOp modW (cE (eC (.int 3))) (eC (.int 13))))
noncomputable def a7 : DL.Env -> Option Out := (Zh 7 (Zp 3 Jz [] (Zb (Za 4) (Zb (Za 5) (Zb (Za 6) eNil)))))
noncomputable def a8 : DL.Env -> Option Out := (Zh 8 (eOp modW (cE (eC (.int 4))) (eOp powW (eC (.int 10)) (eC (.int 17)))))
noncomputable def moE : DL.Env -> Option D := (eOp modW (Za 8) (Za 7))
noncomputable def b1 : DL.Env -> Option Out := (sIf (Xl (xB (Zp 4 JH [] (Zb (Za 4) (Zb (Za 5) (Zb (Za 6) (Zb (Za 9) eNil))))))) (Zv (eC (.bl false))) sNext)
noncomputable def b2 : DL.Env -> Option Out := (sIf (xB (eOp neD (Zp 3 UC [] (Zb (Za 4) (Zb (Za 5) (Zb (Zp 4 Qb [] (Zb (Za 4) (Zb (Za 5) (Zb (Za 6) (Zb moE eNil))))) eNil)))) moE)) (Zv (eC (.bl false))) sNext)
noncomputable def nuL : DL.Env -> Option D := (ZK (Zb (eUn YG (eC (.int 1))) (Zb (Za 7) (Zb (eOp addX (Za 7) (Za 8)) (Zb (eOp subD (eUn YG (eC (.int 1))) (Za 8)) eNil)))))
noncomputable def a10 : DL.Env -> Option Out := (Zh 10 (Zp 5 JJ [] (Zb (Za 2) (Zb (Za 3) (Zb (Za 5) (Zb (Za 6) (Zb (eOp ixD (Za 1) (eC (.int 5))) eNil)))))))
noncomputable def slE : DL.Env -> Option D := (eSl (Za 1) (xP (eOp addX (eC (.int 6)) (eOp mulX (eC (.int 4)) (Za 11)))) (xP (eOp addX (eC (.int 10)) (eOp mulX (eC (.int 4)) (Za 11)))))
noncomputable def e1 : DL.Env -> Option Out := (Zh 12 (Zp 6 QR [] (Zb (Za 2) (Zb (Za 3) (Zb (Za 5) (Zb (Za 10) (Zb slE (Zb (Za 11) eNil))))))))
noncomputable def e2 : DL.Env -> Option Out := (sIf (xB (eOp neD (Zp 3 Uc [] (Zb (Za 4) (Zb (Za 5) (Zb (Za 12) eNil)))) (Zp 4 JI [] (Zb (Za 2) (Zb (Za 3) (Zb (Za 5) (Zb (Za 12) eNil))))))) (Zv (eC (.bl false))) sNext)
noncomputable def e3 : DL.Env -> Option Out := (sIf (xB (eOp neD (Zp 3 Uc [] (Zb (Za 4) (Zb (Za 5) (Zb (Za 10) eNil)))) (ZK (Zb (eC (.bl false)) (Zb (eC (.bl false)) (Zb (eC (.bl true)) (Zb (eC (.bl false)) eNil))))))) (Zv (eC (.bl false))) sNext)
theorem ZiA : f_QY = Zf a1 (Zf a2 (Zf a3 (Zf a4 (Zf a5 (Zf a6 (Zf a7 (Zf a8 (Zf (ZJ (ZH nuL) (Zo 9) (Zf b1 b2)) (Zf a10 (Zf (ZJ (ZE (Zb (eC (.int 4)) eNil)) (Zo 11) (Zf e1 (Zf e2 e3))) (Zv (eC (.bl true))))))))))))) := rfl
theorem Zkm (δ : DL.Env) : eOp powW (eC (.int 10)) (eC (.int 17)) δ = some (.int (10 ^ 17)) := by
 rw [Zn (x:=.int 10) (y:=.int 17) rfl rfl,ZgK ⟨by decide,by decide,by decide⟩];rfl
abbrev LE (ns cs : List Int) (M : List Nat) (W : Wy) (v5 v6 v7 v8 v9 v10 v11 v12 : Option D) : DL.Env := [some (IL ns),some (IL cs),some (.str M),some (WT W),some (Zl M W),v5,v6,v7,v8,v9,v10,v11,v12]
theorem ZdU {r : Nat} (h : r <= 2) : neD (Xp r) (Xp r) = some (.bl false) := by
 have : r = 0 \/ r = 1 \/ r = 2 := by omega
 rcases this with rfl | rfl | rfl <;> rfl
section
variable {m : Nat} {M : List Nat} {W : Wy}
theorem Zkn (hM : Mk M) (h : Ok m M.length W) (hv : QS W) {e : Nat} (he : e < m) (ns cs : List Int) (L : Nat) (hL : L <= 100) (F x : Int) (hF : 0 <= F) (hx : x < 0 \/ (cv W L).getD e 0 <= x) : Zf b1 b2 (LE ns cs M W (some (.int (e : Int))) (some (.int (L : Int))) (some (.int ((cv W L).getD e 0))) (some (.int F)) (some (.int x)) none none none) = some (.nx (LE ns cs M W (some (.int (e : Int))) (some (.int (L : Int))) (some (.int ((cv W L).getD e 0))) (some (.int F)) (some (.int x)) none none none)) := by
 have hp := Zc9 h hv L he;have hr := ZcM h he L (by omega) hx;have h0 : 0 <= F % (cv W L).getD e 0 := Int.emod_nonneg _ (by omega);have h1 : F % (cv W L).getD e 0 < (cv W L).getD e 0 := Int.emod_lt_of_pos _ (by omega);obtain ⟨ks,z,hks,hw,hrk,hrow⟩ := Zis hM.nd h he L (by omega) h0 h1;obtain ⟨hn,_⟩ := Zbl hM.nd h he hw hM.sm (by omega);rw [hrk] at hn;generalize (cv W L).getD e 0 = N at *
 have tm : moE (LE ns cs M W (some (.int (e : Int))) (some (.int (L : Int))) (some (.int N)) (some (.int F)) (some (.int x)) none none none) = some (.int (F % N)) := by
  unfold moE;exact (Zn (x:=.int F) (y:=.int N) rfl rfl).trans (Yk (by omega))
 have t1 : b1 (LE ns cs M W (some (.int (e : Int))) (some (.int (L : Int))) (some (.int N)) (some (.int F)) (some (.int x)) none none none) = some (.nx (LE ns cs M W (some (.int (e : Int))) (some (.int (L : Int))) (some (.int N)) (some (.int F)) (some (.int x)) none none none)) := by
  unfold b1;exact (YH (ZbE (b:=true) (ZU ((Z8 (n:=4) (Zj (x:=Zl M W) rfl (Zj (x:=.int (e : Int)) rfl (Zj (x:=.int (L : Int)) rfl (Zj (x:=.int x) rfl nil_of)))) rfl).trans hr)))).trans rfl
 rw [Zr t1];unfold b2;refine (YH (ZU ((Zn (x:=.int (F % N)) (y:=.int (F % N)) ((Z8 (n:=3) (Zj (x:=Zl M W) rfl (Zj (x:=.int (e : Int)) rfl (Zj (x:=tx' M ks) ((Z8 (n:=4) (Zj (x:=Zl M W) rfl (Zj (x:=.int (e : Int)) rfl (Zj (x:=.int (L : Int)) rfl (Zj tm nil_of)))) rfl).trans hrow) nil_of))) rfl).trans hn) tm).trans ?_))).trans rfl;rw [ZbD,decide_eq_true rfl];rfl
theorem Zfa (ns cs : List Int) (hc : cs.length = 30) (k : Nat) (hk : k < 4) (v5 v6 v7 v8 v9 v10 v12 : Option D) : ∃ ds : List Int,ds.length = 4 /\ slE (LE ns cs M W v5 v6 v7 v8 v9 v10 (some (.int (k : Int))) v12) = some (IL ds) := by
 have u : ∀ c : Nat,c <= 10 -> eOp addX (eC (.int (c : Int))) (eOp mulX (eC (.int 4)) (Za 11)) (LE ns cs M W v5 v6 v7 v8 v9 v10 (some (.int (k : Int))) v12) = some (.int ((c + 4 * k : Nat) : Int)) := fun c _ => by
  refine (Zn (x:=.int (c : Int)) (y:=.int ((4 * k : Nat) : Int)) rfl (JN 4 k (by omega) rfl rfl)).trans ?_;rw [add_int];exact congrArg (fun z => some (D.int z)) (by omega)
 refine ⟨(cs.drop (6 + 4 * k)).take (10 + 4 * k - (6 + 4 * k)),by rw [List.length_take,List.length_drop]; omega,?_⟩;unfold slE eSl;rw [show Za 1 (LE ns cs M W v5 v6 v7 v8 v9 v10 (some (.int (k : Int))) v12) = some (IL cs) from rfl];unfold xP;have u6 := u 6 (by decide);have u10 := u 10 (by decide);rw [show eOp addX (eC (.int 6)) (eOp mulX (eC (.int 4)) (Za 11)) (LE ns cs M W v5 v6 v7 v8 v9 v10 (some (.int (k : Int))) v12) = some (.int ((6 + 4 * k : Nat) : Int)) from u6,show eOp addX (eC (.int 10)) (eOp mulX (eC (.int 4)) (Za 11)) (LE ns cs M W v5 v6 v7 v8 v9 v10 (some (.int (k : Int))) v12) = some (.int ((10 + 4 * k : Nat) : Int)) from u10]
 show some (D.lst (L2.cutL (cs.map D.int) (some ((6 + 4 * k : Nat) : Int)) (some ((10 + 4 * k : Nat) : Int)))) = _;rw [Zg4 (cs.map D.int) (by omega) (by rw [List.length_map]; omega),<- List.map_drop,<- List.map_take]
theorem Zko (hM : Mk M) (h : Ok m M.length W) {e z : Nat} (he : e < m) {ks : List Nat} (hw : Wk W M.length e ks z) (hl : ks.length <= 100) (ns cs : List Int) (hc : cs.length = 30) (k : Nat) (hk : k < 4) (v6 v7 v8 v9 v12 : Option D) : ∃ w12,Zf e1 (Zf e2 e3) (LE ns cs M W (some (.int (e : Int))) v6 v7 v8 v9 (some (tx' M ks)) (some (.int (k : Int))) v12) = some (.nx (LE ns cs M W (some (.int (e : Int))) v6 v7 v8 v9 (some (tx' M ks)) (some (.int (k : Int))) w12)) := by
 obtain ⟨ds,hds,hsl⟩ := Zfa (M:=M) (W:=W) ns cs hc k hk (some (.int (e : Int))) v6 v7 v8 v9 (some (tx' M ks)) v12;obtain ⟨T,hTl,hTm,hT⟩ := Zez hM h he hw hl ds hds k;obtain ⟨r,hr,hr2⟩ := ZdN W M T e;have q1 := ZdQ hM.nd h hM.sm he hTm (by omega) hr hr2;have q2 := Zix hM.nd h he hr
 have q3 : Uc [Zl M W,.int (e : Int),tx' M ks] = some (Xp 0) := ZdQ hM.nd h hM.sm he (fun c hc => by
  obtain ⟨k,_,rfl⟩ := List.mem_map.mp hc
  by_cases hk : k < M.length
  · exact hM.sm _ (UH hk)
  · rw [List.getD_eq_getElem?_getD,List.getElem?_eq_none (by omega)]
    decide) (by rw [List.length_map]; omega) (ZiW hw) (by decide)
 refine ⟨some (.str T),?_⟩
 have t1 : e1 (LE ns cs M W (some (.int (e : Int))) v6 v7 v8 v9 (some (tx' M ks)) (some (.int (k : Int))) v12) = some (.nx (LE ns cs M W (some (.int (e : Int))) v6 v7 v8 v9 (some (tx' M ks)) (some (.int (k : Int))) (some (.str T)))) := by
  unfold e1;exact ZI ((Z8 (n:=6) (Zj (x:=.str M) rfl (Zj (x:=WT W) rfl (Zj (x:=.int (e : Int)) rfl (Zj (x:=tx' M ks) rfl (Zj hsl (Zj (x:=.int (k : Int)) rfl nil_of)))))) rfl).trans hT)
 have t2 : e2 (LE ns cs M W (some (.int (e : Int))) v6 v7 v8 v9 (some (tx' M ks)) (some (.int (k : Int))) (some (.str T))) = some (.nx (LE ns cs M W (some (.int (e : Int))) v6 v7 v8 v9 (some (tx' M ks)) (some (.int (k : Int))) (some (.str T)))) := by
  unfold e2;exact (YH (ZU ((Zn (x:=Xp r) (y:=Xp r) ((Z8 (n:=3) (Zj (x:=Zl M W) rfl (Zj (x:=.int (e : Int)) rfl (Zj (x:=.str T) rfl nil_of))) rfl).trans q1) ((Z8 (n:=4) (Zj (x:=.str M) rfl (Zj (x:=WT W) rfl (Zj (x:=.int (e : Int)) rfl (Zj (x:=.str T) rfl nil_of)))) rfl).trans q2)).trans (ZdU hr2)))).trans rfl
 rw [Zr t1,Zr t2];unfold e3;exact (YH (ZU ((Zn (x:=Xp 0) (y:=Xp 0) ((Z8 (n:=3) (Zj (x:=Zl M W) rfl (Zj (x:=.int (e : Int)) rfl (Zj (x:=tx' M ks) rfl nil_of))) rfl).trans q3) rfl).trans (ZdU (by decide))))).trans rfl
end
theorem body (ns : List Int) (hl : ns.length <= 63) : f_QY [some (IL ns),none,none,none,none,none,none,none,none,none,none,none,none] = some (.rt (.bl true)) := by
 obtain ⟨cs,hcs,hfo⟩ := Zer ns 5 (by decide) hl;obtain ⟨M,hM,hmk⟩ := ZeZ (ns.getD 0 0);obtain ⟨m,hm⟩ := Zc8 (show 0 <= 1 + ns.getD 1 0 % 6 by omega);have hlo := hM.lo;have hhi := hM.hi;obtain ⟨W,hW,hLv,hwy⟩ := ZgU cs hcs m M.length (by omega) (by omega) hlo hhi;have hm6 := hW.m6
 have t1 : a1 [some (IL ns),none,none,none,none,none,none,none,none,none,none,none,none] = some (.nx [some (IL ns),some (IL cs),none,none,none,none,none,none,none,none,none,none,none]) := by
  unfold a1;exact ZI ((Z8 (n:=3) (Zj (x:=IL ns) rfl (Zj (x:=.int 5) rfl (Zj (x:=.int 30) rfl nil_of))) rfl).trans hfo)
 have t2 : a2 [some (IL ns),some (IL cs),none,none,none,none,none,none,none,none,none,none,none] = some (.nx [some (IL ns),some (IL cs),some (.str M),none,none,none,none,none,none,none,none,none,none]) := by
  unfold a2;exact ZI ((Z8 (n:=1) (Zj (QX ns 0 rfl rfl) nil_of) rfl).trans hmk)
 have t3 : a3 [some (IL ns),some (IL cs),some (.str M),none,none,none,none,none,none,none,none,none,none] = some (.nx [some (IL ns),some (IL cs),some (.str M),some (WT W),none,none,none,none,none,none,none,none,none]) := by
  unfold a3;refine ZI ((Z8 (n:=3) (Zj (x:=IL cs) rfl (Zj (x:=.int (m : Int)) ((Zn (x:=.int 1) (y:=.int (ns.getD 1 0 % 6)) rfl ((Zn (y:=.int 6) (QX ns 1 rfl rfl) rfl).trans (Yk (by decide)))).trans ?_) (Zj (x:=.int (M.length : Int)) ((Yt (Zj (x:=.str M) rfl nil_of)).trans (len_str (by omega))) nil_of))) rfl).trans hwy);rw [add_int,hm]
 have t4 : a4 [some (IL ns),some (IL cs),some (.str M),some (WT W),none,none,none,none,none,none,none,none,none] = some (.nx (LE ns cs M W none none none none none none none none)) := by
  unfold a4;exact ZI ((ZgN (Zj (x:=.str M) rfl (Zj (x:=WT W) rfl nil_of)) rfl).trans (ZgV M W (by rw [hW.ln]; omega)))
 obtain ⟨e,he,hem⟩ := XE (ns.getD 2 0) (show 0 < m by omega)
 have t5 : a5 (LE ns cs M W none none none none none none none none) = some (.nx (LE ns cs M W (some (.int (e : Int))) none none none none none none none)) := by
  unfold a5;exact ZI ((Zn (y:=.int (m : Int)) (QX ns 2 rfl rfl) (Zk6 hW rfl)).trans ((Yk (by omega)).trans (by rw [he])))
 obtain ⟨L,hL,hLm⟩ := XE (ns.getD 3 0) (m:=13) (by decide)
 have t6 : a6 (LE ns cs M W (some (.int (e : Int))) none none none none none none none) = some (.nx (LE ns cs M W (some (.int (e : Int))) (some (.int (L : Int))) none none none none none none)) := by
  unfold a6;exact ZI ((Zn (y:=.int 13) (QX ns 3 rfl rfl) rfl).trans ((Yk (by decide)).trans (congrArg (fun z => some (D.int z)) hL)))
 have t7 : a7 (LE ns cs M W (some (.int (e : Int))) (some (.int (L : Int))) none none none none none none) = some (.nx (LE ns cs M W (some (.int (e : Int))) (some (.int (L : Int))) (some (.int ((cv W L).getD e 0))) none none none none none)) := by
  unfold a7;exact ZI ((Z8 (n:=3) (Zj (x:=Zl M W) rfl (Zj (x:=.int (e : Int)) rfl (Zj (x:=.int (L : Int)) rfl nil_of))) rfl).trans (Ze6 hW M hem L (by omega)))
 obtain ⟨F,hFe⟩ : ∃ F : Int,F = ns.getD 4 0 % 10 ^ 17 := ⟨_,rfl⟩
 have hF : 0 <= F := by rw [hFe]; exact Int.emod_nonneg _ (by decide)
 have t8 : a8 (LE ns cs M W (some (.int (e : Int))) (some (.int (L : Int))) (some (.int ((cv W L).getD e 0))) none none none none none) = some (.nx (LE ns cs M W (some (.int (e : Int))) (some (.int (L : Int))) (some (.int ((cv W L).getD e 0))) (some (.int F)) none none none none)) := by
  unfold a8;refine ZI ((Zn (QX ns 4 rfl rfl) (Zkm _)).trans ((Yk (by decide)).trans ?_));rw [hFe]
 have hn : ZH nuL (LE ns cs M W (some (.int (e : Int))) (some (.int (L : Int))) (some (.int ((cv W L).getD e 0))) (some (.int F)) none none none none) = some [.int (-1),.int ((cv W L).getD e 0),.int ((cv W L).getD e 0 + F),.int (-1 - F)] := by
  refine ZaT ?_;unfold nuL;exact Zc6 (Zj (x:=.int (-1)) rfl (Zj (x:=.int ((cv W L).getD e 0)) rfl (Zj ((Zn (x:=.int ((cv W L).getD e 0)) (y:=.int F) rfl rfl).trans (add_int _ _)) (Zj (x:=.int (-1 - F)) ((Zn (x:=.int (-1)) (y:=.int F) rfl rfl).trans rfl) nil_of)))) (show 4 <= 1000 by decide)
 have hp := Zc9 hW hLv L hem
 obtain ⟨δ9,l9,v9,q9⟩ := Jv (γ:=Zo 9) (φ:=Zf b1 b2) (fun δ => ∃ v9,δ = LE ns cs M W (some (.int (e : Int))) (some (.int (L : Int))) (some (.int ((cv W L).getD e 0))) (some (.int F)) v9 none none none) [.int (-1),.int ((cv W L).getD e 0),.int ((cv W L).getD e 0 + F),.int (-1 - F)] (LE ns cs M W (some (.int (e : Int))) (some (.int (L : Int))) (some (.int ((cv W L).getD e 0))) (some (.int F)) none none none none) ⟨_,rfl⟩ (by
  intro x hx δ ⟨v9,e'⟩;subst e'
  have hxi : ∃ i : Int,x = .int i /\ (i < 0 \/ (cv W L).getD e 0 <= i) := by
   simp only [List.mem_cons,List.not_mem_nil,or_false] at hx;rcases hx with rfl | rfl | rfl | rfl
   · exact ⟨_,rfl,by omega⟩
   · exact ⟨_,rfl,by omega⟩
   · exact ⟨_,rfl,by omega⟩
   · exact ⟨_,rfl,by omega⟩
  obtain ⟨i,rfl,hi⟩ := hxi;exact ⟨_,rfl,_,Zkn hM hW hLv hem ns cs L (by omega) F i hF hi,_,rfl⟩)
 subst q9;obtain ⟨ks,z,hks,hw,hwk⟩ := ZcO hW hLv hem L (by omega) (cs.getD 5 0)
 have t10 : a10 (LE ns cs M W (some (.int (e : Int))) (some (.int (L : Int))) (some (.int ((cv W L).getD e 0))) (some (.int F)) v9 none none none) = some (.nx (LE ns cs M W (some (.int (e : Int))) (some (.int (L : Int))) (some (.int ((cv W L).getD e 0))) (some (.int F)) v9 (some (tx' M ks)) none none)) := by
  unfold a10;exact ZI ((Z8 (n:=5) (Zj (x:=.str M) rfl (Zj (x:=WT W) rfl (Zj (x:=.int (e : Int)) rfl (Zj (x:=.int (L : Int)) rfl (Zj (x:=.int (cs.getD 5 0)) ((Zn (x:=IL cs) (y:=.int ((5 : Nat) : Int)) rfl rfl).trans (XD (by omega))) nil_of))))) rfl).trans hwk)
 obtain ⟨δ11,l11,v11,v12,q11⟩ := Jv (γ:=Zo 11) (φ:=Zf e1 (Zf e2 e3)) (fun δ => ∃ v11 v12,δ = LE ns cs M W (some (.int (e : Int))) (some (.int (L : Int))) (some (.int ((cv W L).getD e 0))) (some (.int F)) v9 (some (tx' M ks)) v11 v12) (ZG 0 1 4) (LE ns cs M W (some (.int (e : Int))) (some (.int (L : Int))) (some (.int ((cv W L).getD e 0))) (some (.int F)) v9 (some (tx' M ks)) none none) ⟨_,_,rfl⟩ (by
  intro x hx δ ⟨v11,v12,e'⟩;subst e';obtain ⟨k,hk,rfl⟩ := ZbF hx;rw [show (0 + (k : Int) * 1) = (k : Int) by omega];obtain ⟨w12,t⟩ := Zko hM hW hem hw (by omega) ns cs hcs k hk (some (.int (L : Int))) (some (.int ((cv W L).getD e 0))) (some (.int F)) v9 v12;exact ⟨_,rfl,_,t,_,_,rfl⟩)
 subst q11;rw [ZiA,Zr t1,Zr t2,Zr t3,Zr t4,Zr t5,Zr t6,Zr t7,Zr t8,Zr (YB hn l9),Zr t10];exact (Zr (YB ((XB (j:=4) (Zj rfl nil_of) (by decide) (by decide)).trans rfl) l11)).trans (Yo rfl)
theorem all_true : ∀ ns : List Int,ns.length <= 63 -> JL [.lst (ns.map D.int)] = some (.bl true) := fun ns hl => Yj rfl (body ns hl)
end K22
namespace K22
open PySem PySem.Spec L2 DL
def JZ (K : PySem.W.Frag) : Sp := fun vs H Q _ => ∃ (a : Addr) (ns : List Int),vs = [.ref a] /\ SqL K H a (ns.map V.int) /\ ns.length <= 63 /\ ∀ H',Q (.bl true) H'
theorem ZiB (hall : ∀ ns : List Int,ns.length <= 63 -> JL [.lst (ns.map D.int)] = some (.bl true)) {P : Program} {w : World} {K : PySem.W.Frag} {mg : Str -> Option Value} {base : Heap} {t : Adr} (T : Txt K mg t) : FnOk P w K mg base CX0 6 t.a_QY t.d_QY ["script"] (JZ K) :=
 (Zj2 T).imp fun vs H Q E ⟨a,ns,hv,hr,hl,q⟩ => by
   subst hv;refine ⟨fun _ => False,[.lst (ns.map D.int)],.bl true,fun _ z => z.elim,.cons ?_ .nil,rfl,hall ns hl,fun v H' _ r => ?_⟩
   · unfold Rep
     refine ⟨a,_,rfl,fun z => z.elim,hr,?_⟩;have := RepL.of_vals (cA:=⟨t.c,K⟩) (av:=fun _ => False) (H:=H) (xs:=ns.map D.int) (by rw [List.all_map]; exact List.all_eq_true.mpr fun _ _ => rfl);rw [List.map_map] at this;exact this
   · cases (show v = _ from r)
     exact q H'
theorem all_mk (hall : ∀ ns : List Int,ns.length <= 63 -> JL [.lst (ns.map D.int)] = some (.bl true)) {l : PySem.W.OpenLaw} {w : World} {K : PySem.W.Frag} {h : Heap} {mg : Str -> Option Value} {fa : Addr} (X : K.In h) (G : h.Ns mainGlobals mg) (hfa : mg "law" = some (.ref fa))
 {c_Rooms : Addr}
 {c_BadMark : Addr}
 {c_BadMarks : Addr}
 {c_BadRow : Addr}
 {c_BadRule : Addr}
 {c_BadSign : Addr}
 {c_BadTable : Addr}
 {c_GrooveError : Addr}
 {c_NoRow : Addr}
 {c_Nothing : Addr}
 {c_TooLarge : Addr}
 {c_Unread : Addr}
 {f0 : Addr} {od0 an0 : Option Addr} {sl0 : Array (Option Value)} {oc0 kV0 dc0 pm0 cd0 ct0 : Value}
 {f1 : Addr} {od1 an1 : Option Addr} {sl1 : Array (Option Value)} {oc1 kV1 dc1 pm1 cd1 ct1 : Value}
 {f2 : Addr} {od2 an2 : Option Addr} {sl2 : Array (Option Value)} {oc2 kV2 dc2 pm2 cd2 ct2 : Value}
 {f3 : Addr} {od3 an3 : Option Addr} {sl3 : Array (Option Value)} {oc3 kV3 dc3 pm3 cd3 ct3 : Value}
 {f4 : Addr} {od4 an4 : Option Addr} {sl4 : Array (Option Value)} {oc4 kV4 dc4 pm4 cd4 ct4 : Value}
 {f5 : Addr} {od5 an5 : Option Addr} {sl5 : Array (Option Value)} {oc5 kV5 dc5 pm5 cd5 ct5 : Value}
 {f6 : Addr} {od6 an6 : Option Addr} {sl6 : Array (Option Value)} {oc6 kV6 dc6 pm6 cd6 ct6 : Value}
 {f7 : Addr} {od7 an7 : Option Addr} {sl7 : Array (Option Value)} {oc7 kV7 dc7 pm7 cd7 ct7 : Value}
 {f8 : Addr} {od8 an8 : Option Addr} {sl8 : Array (Option Value)} {oc8 kV8 dc8 pm8 cd8 ct8 : Value}
 {f9 : Addr} {od9 an9 : Option Addr} {sl9 : Array (Option Value)} {oc9 kV9 dc9 pm9 cd9 ct9 : Value}
 {f10 : Addr} {od10 an10 : Option Addr} {sl10 : Array (Option Value)} {oc10 kV10 dc10 pm10 cd10 ct10 : Value}
 {f11 : Addr} {od11 an11 : Option Addr} {sl11 : Array (Option Value)} {oc11 kV11 dc11 pm11 cd11 ct11 : Value}
 {f12 : Addr} {od12 an12 : Option Addr} {sl12 : Array (Option Value)} {oc12 kV12 dc12 pm12 cd12 ct12 : Value}
 {f13 : Addr} {od13 an13 : Option Addr} {sl13 : Array (Option Value)} {oc13 kV13 dc13 pm13 cd13 ct13 : Value}
 {f14 : Addr} {od14 an14 : Option Addr} {sl14 : Array (Option Value)} {oc14 kV14 dc14 pm14 cd14 ct14 : Value}
 {f15 : Addr} {od15 an15 : Option Addr} {sl15 : Array (Option Value)} {oc15 kV15 dc15 pm15 cd15 ct15 : Value}
 {f16 : Addr} {od16 an16 : Option Addr} {sl16 : Array (Option Value)} {oc16 kV16 dc16 pm16 cd16 ct16 : Value}
 {f17 : Addr} {od17 an17 : Option Addr} {sl17 : Array (Option Value)} {oc17 kV17 dc17 pm17 cd17 ct17 : Value}
 {f18 : Addr} {od18 an18 : Option Addr} {sl18 : Array (Option Value)} {oc18 kV18 dc18 pm18 cd18 ct18 : Value}
 {f19 : Addr} {od19 an19 : Option Addr} {sl19 : Array (Option Value)} {oc19 kV19 dc19 pm19 cd19 ct19 : Value}
 {f20 : Addr} {od20 an20 : Option Addr} {sl20 : Array (Option Value)} {oc20 kV20 dc20 pm20 cd20 ct20 : Value}
 {f21 : Addr} {od21 an21 : Option Addr} {sl21 : Array (Option Value)} {oc21 kV21 dc21 pm21 cd21 ct21 : Value}
 {f22 : Addr} {od22 an22 : Option Addr} {sl22 : Array (Option Value)} {oc22 kV22 dc22 pm22 cd22 ct22 : Value}
 {f23 : Addr} {od23 an23 : Option Addr} {sl23 : Array (Option Value)} {oc23 kV23 dc23 pm23 cd23 ct23 : Value}
 {f24 : Addr} {od24 an24 : Option Addr} {sl24 : Array (Option Value)} {oc24 kV24 dc24 pm24 cd24 ct24 : Value}
 (Zl8 : nsIn K mainGlobals "Rooms" = some (some (.ref c_Rooms)))
 (ZlZ : nsIn K mainGlobals "BadMark" = some (some (.ref c_BadMark)))
 (Zl0 : nsIn K mainGlobals "BadMarks" = some (some (.ref c_BadMarks)))
 (Zl1 : nsIn K mainGlobals "BadRow" = some (some (.ref c_BadRow)))
 (Zl2 : nsIn K mainGlobals "BadRule" = some (some (.ref c_BadRule)))
 (Zl3 : nsIn K mainGlobals "BadSign" = some (some (.ref c_BadSign)))
 (Zl4 : nsIn K mainGlobals "BadTable" = some (some (.ref c_BadTable)))
 (Zl5 : nsIn K mainGlobals "GrooveError" = some (some (.ref c_GrooveError)))
 (Zl6 : nsIn K mainGlobals "NoRow" = some (some (.ref c_NoRow)))
 (Zl7 : nsIn K mainGlobals "Nothing" = some (some (.ref c_Nothing)))
 (Zl9 : nsIn K mainGlobals "TooLarge" = some (some (.ref c_TooLarge)))
 (Zma : nsIn K mainGlobals "Unread" = some (some (.ref c_Unread)))
 (a0 : nsIn K mainGlobals "counts_longer" = some (some (.ref f0)))
 (l0 : K.lookup f0 = some ⟨oc0,od0,.func (fnOf "counts_longer" "counts_longer" (defArgs X6) (defBody X6) (defScope X6) .none kV0 dc0 pm0 an0 cd0 ct0),sl0⟩)
 (c0 : codeIn K cd0 "counts_longer" = true)
 (k0 : keepIn K (.ref f0) = true)
 (a1 : PySem.W.findIn K (.ref c_Rooms) "many" = some (some (.ref f1)))
 (l1 : K.lookup f1 = some ⟨oc1,od1,.func (fnOf "many" "Rooms.many" (defArgs Vv) (defBody Vv) (defScope Vv) .none kV1 dc1 pm1 an1 cd1 ct1),sl1⟩)
 (c1 : codeIn K cd1 "Rooms.many" = true)
 (k1 : keepIn K (.ref f1) = true)
 (a2 : nsIn K mainGlobals "counts_up_to" = some (some (.ref f2)))
 (l2 : K.lookup f2 = some ⟨oc2,od2,.func (fnOf "counts_up_to" "counts_up_to" (defArgs Vw) (defBody Vw) (defScope Vw) .none kV2 dc2 pm2 an2 cd2 ct2),sl2⟩)
 (c2 : codeIn K cd2 "counts_up_to" = true)
 (k2 : keepIn K (.ref f2) = true)
 (a3 : nsIn K mainGlobals "count" = some (some (.ref f3)))
 (l3 : K.lookup f3 = some ⟨oc3,od3,.func (fnOf "count" "count" (defArgs Vx) (defBody Vx) (defScope Vx) .none kV3 dc3 pm3 an3 cd3 ct3),sl3⟩)
 (c3 : codeIn K cd3 "count" = true)
 (k3 : keepIn K (.ref f3) = true)
 (a4 : nsIn K mainGlobals "rows_ahead" = some (some (.ref f4)))
 (l4 : K.lookup f4 = some ⟨oc4,od4,.func (fnOf "rows_ahead" "rows_ahead" (defArgs X7) (defBody X7) (defScope X7) .none kV4 dc4 pm4 an4 cd4 ct4),sl4⟩)
 (c4 : codeIn K cd4 "rows_ahead" = true)
 (k4 : keepIn K (.ref f4) = true)
 (a5 : nsIn K mainGlobals "mark_at" = some (some (.ref f5)))
 (l5 : K.lookup f5 = some ⟨oc5,od5,.func (fnOf "mark_at" "mark_at" (defArgs X8) (defBody X8) (defScope X8) .none kV5 dc5 pm5 an5 cd5 ct5),sl5⟩)
 (c5 : codeIn K cd5 "mark_at" = true)
 (k5 : keepIn K (.ref f5) = true)
 (a6 : nsIn K mainGlobals "is_mark" = some (some (.ref f6)))
 (l6 : K.lookup f6 = some ⟨oc6,od6,.func (fnOf "is_mark" "is_mark" (defArgs Vy) (defBody Vy) (defScope Vy) .none kV6 dc6 pm6 an6 cd6 ct6),sl6⟩)
 (c6 : codeIn K cd6 "is_mark" = true)
 (k6 : keepIn K (.ref f6) = true)
 (a7 : PySem.W.findIn K (.ref c_Rooms) "led" = some (some (.ref f7)))
 (l7 : K.lookup f7 = some ⟨oc7,od7,.func (fnOf "led" "Rooms.led" (defArgs Vz) (defBody Vz) (defScope Vz) .none kV7 dc7 pm7 an7 cd7 ct7),sl7⟩)
 (c7 : codeIn K cd7 "Rooms.led" = true)
 (k7 : keepIn K (.ref f7) = true)
 (a8 : nsIn K mainGlobals "row_at" = some (some (.ref f8)))
 (l8 : K.lookup f8 = some ⟨oc8,od8,.func (fnOf "row_at" "row_at" (defArgs VB) (defBody VB) (defScope VB) .none kV8 dc8 pm8 an8 cd8 ct8),sl8⟩)
 (c8 : codeIn K cd8 "row_at" = true)
 (k8 : keepIn K (.ref f8) = true)
 (a9 : PySem.W.findIn K (.ref c_Rooms) "walked" = some (some (.ref f9)))
 (l9 : K.lookup f9 = some ⟨oc9,od9,.func (fnOf "walked" "Rooms.walked" (defArgs VC) (defBody VC) (defScope VC) .none kV9 dc9 pm9 an9 cd9 ct9),sl9⟩)
 (c9 : codeIn K cd9 "Rooms.walked" = true)
 (k9 : keepIn K (.ref f9) = true)
 (a10 : nsIn K mainGlobals "number_of" = some (some (.ref f10)))
 (l10 : K.lookup f10 = some ⟨oc10,od10,.func (fnOf "number_of" "number_of" (defArgs VD) (defBody VD) (defScope VD) .none kV10 dc10 pm10 an10 cd10 ct10),sl10⟩)
 (c10 : codeIn K cd10 "number_of" = true)
 (k10 : keepIn K (.ref f10) = true)
 (a11 : PySem.W.findIn K (.ref c_Rooms) "__init__" = some (some (.ref f11)))
 (l11 : K.lookup f11 = some ⟨oc11,od11,.func (fnOf "__init__" "Rooms.__init__" (defArgs X9) (defBody X9) (defScope X9) .none kV11 dc11 pm11 an11 cd11 ct11),sl11⟩)
 (c11 : codeIn K cd11 "Rooms.__init__" = true)
 (k11 : keepIn K (.ref f11) = true)
 (a12 : nsIn K mainGlobals "_law_cell_at" = some (some (.ref f12)))
 (l12 : K.lookup f12 = some ⟨oc12,od12,.func (fnOf "_law_cell_at" "_law_cell_at" (defArgs VH) (defBody VH) (defScope VH) .none kV12 dc12 pm12 an12 cd12 ct12),sl12⟩)
 (c12 : codeIn K cd12 "_law_cell_at" = true)
 (k12 : keepIn K (.ref f12) = true)
 (a13 : nsIn K mainGlobals "_law_folded" = some (some (.ref f13)))
 (l13 : K.lookup f13 = some ⟨oc13,od13,.func (fnOf "_law_folded" "_law_folded" (defArgs Va) (defBody Va) (defScope Va) .none kV13 dc13 pm13 an13 cd13 ct13),sl13⟩)
 (c13 : codeIn K cd13 "_law_folded" = true)
 (k13 : keepIn K (.ref f13) = true)
 (a14 : nsIn K mainGlobals "_law_marks" = some (some (.ref f14)))
 (l14 : K.lookup f14 = some ⟨oc14,od14,.func (fnOf "_law_marks" "_law_marks" (defArgs Vb) (defBody Vb) (defScope Vb) .none kV14 dc14 pm14 an14 cd14 ct14),sl14⟩)
 (c14 : codeIn K cd14 "_law_marks" = true)
 (k14 : keepIn K (.ref f14) = true)
 (a15 : nsIn K mainGlobals "_law_led_to" = some (some (.ref f15)))
 (l15 : K.lookup f15 = some ⟨oc15,od15,.func (fnOf "_law_led_to" "_law_led_to" (defArgs VL) (defBody VL) (defScope VL) .none kV15 dc15 pm15 an15 cd15 ct15),sl15⟩)
 (c15 : codeIn K cd15 "_law_led_to" = true)
 (k15 : keepIn K (.ref f15) = true)
 (a16 : nsIn K mainGlobals "_law_ways" = some (some (.ref f16)))
 (l16 : K.lookup f16 = some ⟨oc16,od16,.func (fnOf "_law_ways" "_law_ways" (defArgs XS) (defBody XS) (defScope XS) .none kV16 dc16 pm16 an16 cd16 ct16),sl16⟩)
 (c16 : codeIn K cd16 "_law_ways" = true)
 (k16 : keepIn K (.ref f16) = true)
 (a17 : nsIn K mainGlobals "_law_other" = some (some (.ref f17)))
 (l17 : K.lookup f17 = some ⟨oc17,od17,.func (fnOf "_law_other" "_law_other" (defArgs VN) (defBody VN) (defScope VN) .none kV17 dc17 pm17 an17 cd17 ct17),sl17⟩)
 (c17 : codeIn K cd17 "_law_other" = true)
 (k17 : keepIn K (.ref f17) = true)
 (a18 : nsIn K mainGlobals "_law_row_refused" = some (some (.ref f18)))
 (l18 : K.lookup f18 = some ⟨oc18,od18,.func (fnOf "_law_row_refused" "_law_row_refused" (defArgs VP) (defBody VP) (defScope VP) .none kV18 dc18 pm18 an18 cd18 ct18),sl18⟩)
 (c18 : codeIn K cd18 "_law_row_refused" = true)
 (k18 : keepIn K (.ref f18) = true)
 (a19 : nsIn K mainGlobals "_law_number_word" = some (some (.ref f19)))
 (l19 : K.lookup f19 = some ⟨oc19,od19,.func (fnOf "_law_number_word" "_law_number_word" (defArgs VQ) (defBody VQ) (defScope VQ) .none kV19 dc19 pm19 an19 cd19 ct19),sl19⟩)
 (c19 : codeIn K cd19 "_law_number_word" = true)
 (k19 : keepIn K (.ref f19) = true)
 (a20 : nsIn K mainGlobals "_law_due" = some (some (.ref f20)))
 (l20 : K.lookup f20 = some ⟨oc20,od20,.func (fnOf "_law_due" "_law_due" (defArgs VR) (defBody VR) (defScope VR) .none kV20 dc20 pm20 an20 cd20 ct20),sl20⟩)
 (c20 : codeIn K cd20 "_law_due" = true)
 (k20 : keepIn K (.ref f20) = true)
 (a21 : nsIn K mainGlobals "_law_walked" = some (some (.ref f21)))
 (l21 : K.lookup f21 = some ⟨oc21,od21,.func (fnOf "_law_walked" "_law_walked" (defArgs Vc) (defBody Vc) (defScope Vc) .none kV21 dc21 pm21 an21 cd21 ct21),sl21⟩)
 (c21 : codeIn K cd21 "_law_walked" = true)
 (k21 : keepIn K (.ref f21) = true)
 (a22 : nsIn K mainGlobals "_law_strange" = some (some (.ref f22)))
 (l22 : K.lookup f22 = some ⟨oc22,od22,.func (fnOf "_law_strange" "_law_strange" (defArgs Vd) (defBody Vd) (defScope Vd) .none kV22 dc22 pm22 an22 cd22 ct22),sl22⟩)
 (c22 : codeIn K cd22 "_law_strange" = true)
 (k22 : keepIn K (.ref f22) = true)
 (a23 : nsIn K mainGlobals "_law_spoilt" = some (some (.ref f23)))
 (l23 : K.lookup f23 = some ⟨oc23,od23,.func (fnOf "_law_spoilt" "_law_spoilt" (defArgs Ve) (defBody Ve) (defScope Ve) .none kV23 dc23 pm23 an23 cd23 ct23),sl23⟩)
 (c23 : codeIn K cd23 "_law_spoilt" = true)
 (k23 : keepIn K (.ref f23) = true)
 (a24 : nsIn K mainGlobals "law" = some (some (.ref f24)))
 (l24 : K.lookup f24 = some ⟨oc24,od24,.func (fnOf "law" "law" (defArgs XG) (defBody XG) (defScope XG) .none kV24 dc24 pm24 an24 cd24 ct24),sl24⟩)
 (c24 : codeIn K cd24 "law" = true)
 (k24 : keepIn K (.ref f24) = true)
 (Zmb : nsIn K mainGlobals "ValueError" = some none)
 (Zmc : nsIn K mainGlobals "enumerate" = some none)
 (Zmd : nsIn K mainGlobals "isinstance" = some none)
 (Zme : nsIn K mainGlobals "len" = some none)
 (Zmf : nsIn K mainGlobals "range" = some none)
 (Zmg : nsIn K mainGlobals "sum" = some none)
 (Zmh : nsIn K mainGlobals "tuple" = some none)
 (ZlW : PySem.W.plainGet K c_Rooms Str.empty = true)
 (Zlm : PySem.W.hasDictIn K c_Rooms = true)
 (ZlX : PySem.W.plainOver K c_Rooms = true)
 (ZlY : PySem.W.findIn K (.ref c_Rooms) "__setattr__" = some (some (.builtin "object.__setattr__")))
 (Zll : PySem.W.findIn K (.ref c_Rooms) "__class__" = some (some (.builtin "object.__class__")))
 (Zln : PySem.W.mroIn K c_Rooms (.type "object") = some true)
 (ZlQ : PySem.W.makesIn K c_Rooms = true)
 (ZlK : keepIn K (.ref c_Rooms) = true)
 (ZlP : PySem.W.findIn K (.ref c_Rooms) "__init__" = some (some (.ref f11)))
 (ZlO : isFn K (.ref f11) = true)
 (hn_ : PySem.W.specialIn K (.builtin "object.__class__") "__get__" = some (some (.builtin "getset_descriptor.__get__")))
 (htk_ : PySem.W.takesIn K (.builtin "object.__class__") = some true)
 (Zk7 : PySem.W.excIn K c_BadMark bmV "ValueError.__new__" = true)
 (Zk9 : PySem.W.findIn K (.ref c_BadMark) "__getattribute__" = some (some (.builtin "BaseException.__getattribute__")))
 (Zlh : PySem.W.mroIn K c_BadMark (.type "BaseException") = some true)
 (Zlb : PySem.W.findIn K (.ref c_BadMark) "__getattr__" = some none)
 (Zld : PySem.W.findIn K (.ref c_BadMark) "__class__" = some (some (.builtin "object.__class__")))
 (Zlf : PySem.W.mroIn K c_BadMark (.type "object") = some true)
 (Zlj : PySem.W.exmOne K (.ref c_BadMark) (.ref c_GrooveError) = some true)
 (Zlu : kitOne K (.ref c_BadMark) (.ref c_NoRow) = some false)
 (Zly : kitOne K (.ref c_BadMark) (.type "ValueError") = some true)
 (Zlo : kitOne K (.ref c_BadMark) (.ref c_BadMark) = some true)
 (Zlp : kitOne K (.ref c_BadMark) (.ref c_BadMarks) = some false)
 (Zlq : kitOne K (.ref c_BadMark) (.ref c_BadRow) = some false)
 (Zlr : kitOne K (.ref c_BadMark) (.ref c_BadRule) = some false)
 (Zls : kitOne K (.ref c_BadMark) (.ref c_BadSign) = some false)
 (Zlt : kitOne K (.ref c_BadMark) (.ref c_BadTable) = some false)
 (Zlv : kitOne K (.ref c_BadMark) (.ref c_Nothing) = some false)
 (Zlw : kitOne K (.ref c_BadMark) (.ref c_TooLarge) = some false)
 (Zlx : kitOne K (.ref c_BadMark) (.ref c_Unread) = some false)
 (Zk8 : PySem.W.excIn K c_NoRow bmV "ValueError.__new__" = true)
 (Zla : PySem.W.findIn K (.ref c_NoRow) "__getattribute__" = some (some (.builtin "BaseException.__getattribute__")))
 (Zli : PySem.W.mroIn K c_NoRow (.type "BaseException") = some true)
 (Zlc : PySem.W.findIn K (.ref c_NoRow) "__getattr__" = some none)
 (Zle : PySem.W.findIn K (.ref c_NoRow) "__class__" = some (some (.builtin "object.__class__")))
 (Zlg : PySem.W.mroIn K c_NoRow (.type "object") = some true)
 (Zlk : PySem.W.exmOne K (.ref c_NoRow) (.ref c_GrooveError) = some true)
 (ZlF : kitOne K (.ref c_NoRow) (.ref c_NoRow) = some true)
 (ZlJ : kitOne K (.ref c_NoRow) (.type "ValueError") = some true)
 (Zlz : kitOne K (.ref c_NoRow) (.ref c_BadMark) = some false)
 (ZlA : kitOne K (.ref c_NoRow) (.ref c_BadMarks) = some false)
 (ZlB : kitOne K (.ref c_NoRow) (.ref c_BadRow) = some false)
 (ZlC : kitOne K (.ref c_NoRow) (.ref c_BadRule) = some false)
 (ZlD : kitOne K (.ref c_NoRow) (.ref c_BadSign) = some false)
 (ZlE : kitOne K (.ref c_NoRow) (.ref c_BadTable) = some false)
 (ZlG : kitOne K (.ref c_NoRow) (.ref c_Nothing) = some false)
 (ZlH : kitOne K (.ref c_NoRow) (.ref c_TooLarge) = some false)
 (ZlI : kitOne K (.ref c_NoRow) (.ref c_Unread) = some false)
 (ZlU : PySem.W.findIn K (.ref c_Rooms) "marks" = some none)
 (ZlV : PySem.W.findIn K (.ref c_Rooms) "ways" = some none)
 (ZlL : PySem.W.findIn K (.ref c_Rooms) "led" = some (some (.ref f7)))
 (ZlR : isFn K (.ref f7) = true)
 (ZlM : PySem.W.findIn K (.ref c_Rooms) "many" = some (some (.ref f1)))
 (ZlS : isFn K (.ref f1) = true)
 (ZlN : PySem.W.findIn K (.ref c_Rooms) "walked" = some (some (.ref f9)))
 (ZlT : isFn K (.ref f9) = true)
 : ∃ fd : FuncData,(∀ (s : Shared) (v : Value),BindsTo s fd ⟨[v],[]⟩ [("script",v)]) /\ ∀ base : Heap,K.In base -> base.Ns mainGlobals mg -> FnOk l.prog w K mg base CX0 6 fa fd ["script"] (JZ K) := by
 have e := hfa.symm.trans (mg_of X G a24);cases e;have F0 : FunX K "counts_longer" "counts_longer" X6 f0 _ := (ZC (st:=X6) l0 c0 k0).x;have b0 := (ZC (st:=X6) l0 c0 k0).binds (ps:=["rooms", "counts"]) fun _ _ _ _ _ _ us hl => match us,hl with | [_,_],_ => rfl
 have F1 : FunX K "many" "Rooms.many" Vv f1 _ := (ZC (st:=Vv) l1 c1 k1).x;have b1 := (ZC (st:=Vv) l1 c1 k1).binds (ps:=["self"]) fun _ _ _ _ _ _ us hl => match us,hl with | [_],_ => rfl
 have F2 : FunX K "counts_up_to" "counts_up_to" Vw f2 _ := (ZC (st:=Vw) l2 c2 k2).x;have b2 := (ZC (st:=Vw) l2 c2 k2).binds (ps:=["rooms", "length"]) fun _ _ _ _ _ _ us hl => match us,hl with | [_,_],_ => rfl
 have F3 : FunX K "count" "count" Vx f3 _ := (ZC (st:=Vx) l3 c3 k3).x;have b3 := (ZC (st:=Vx) l3 c3 k3).binds (ps:=["rooms", "room", "length"]) fun _ _ _ _ _ _ us hl => match us,hl with | [_,_,_],_ => rfl
 have F4 : FunX K "rows_ahead" "rows_ahead" X7 f4 _ := (ZC (st:=X7) l4 c4 k4).x;have b4 := (ZC (st:=X7) l4 c4 k4).binds (ps:=["rooms", "room", "mark", "counts"]) fun _ _ _ _ _ _ us hl => match us,hl with | [_,_,_,_],_ => rfl
 have F5 : FunX K "mark_at" "mark_at" X8 f5 _ := (ZC (st:=X8) l5 c5 k5).x;have b5 := (ZC (st:=X8) l5 c5 k5).binds (ps:=["rooms", "room", "number", "counts"]) fun _ _ _ _ _ _ us hl => match us,hl with | [_,_,_,_],_ => rfl
 have F6 : FunX K "is_mark" "is_mark" Vy f6 _ := (ZC (st:=Vy) l6 c6 k6).x;have b6 := (ZC (st:=Vy) l6 c6 k6).binds (ps:=["marks", "text"]) fun _ _ _ _ _ _ us hl => match us,hl with | [_,_],_ => rfl
 have F7 : FunX K "led" "Rooms.led" Vz f7 _ := (ZC (st:=Vz) l7 c7 k7).x;have b7 := (ZC (st:=Vz) l7 c7 k7).binds (ps:=["self", "room", "mark"]) fun _ _ _ _ _ _ us hl => match us,hl with | [_,_,_],_ => rfl
 have F8 : FunX K "row_at" "row_at" VB f8 _ := (ZC (st:=VB) l8 c8 k8).x;have b8 := (ZC (st:=VB) l8 c8 k8).binds (ps:=["rooms", "room", "length", "number"]) fun _ _ _ _ _ _ us hl => match us,hl with | [_,_,_,_],_ => rfl
 have F9 : FunX K "walked" "Rooms.walked" VC f9 _ := (ZC (st:=VC) l9 c9 k9).x;have b9 := (ZC (st:=VC) l9 c9 k9).binds (ps:=["self", "room", "row"]) fun _ _ _ _ _ _ us hl => match us,hl with | [_,_,_],_ => rfl
 have F10 : FunX K "number_of" "number_of" VD f10 _ := (ZC (st:=VD) l10 c10 k10).x;have b10 := (ZC (st:=VD) l10 c10 k10).binds (ps:=["rooms", "room", "row"]) fun _ _ _ _ _ _ us hl => match us,hl with | [_,_,_],_ => rfl
 have F11 : FunX K "__init__" "Rooms.__init__" X9 f11 _ := (ZC (st:=X9) l11 c11 k11).x;have b11 := (ZC (st:=X9) l11 c11 k11).binds (ps:=["self", "marks", "ways"]) fun _ _ _ _ _ _ us hl => match us,hl with | [_,_,_],_ => rfl
 have F12 : FunX K "_law_cell_at" "_law_cell_at" VH f12 _ := (ZC (st:=VH) l12 c12 k12).x;have b12 := (ZC (st:=VH) l12 c12 k12).binds (ps:=["script", "k"]) fun _ _ _ _ _ _ us hl => match us,hl with | [_,_],_ => rfl
 have F13 : FunX K "_law_folded" "_law_folded" Va f13 _ := (ZC (st:=Va) l13 c13 k13).x;have b13 := (ZC (st:=Va) l13 c13 k13).binds (ps:=["script", "behind", "many"]) fun _ _ _ _ _ _ us hl => match us,hl with | [_,_,_],_ => rfl
 have F14 : FunX K "_law_marks" "_law_marks" Vb f14 _ := (ZC (st:=Vb) l14 c14 k14).x;have b14 := (ZC (st:=Vb) l14 c14 k14).binds (ps:=["cell"]) fun _ _ _ _ _ _ us hl => match us,hl with | [_],_ => rfl
 have F15 : FunX K "_law_led_to" "_law_led_to" VL f15 _ := (ZC (st:=VL) l15 c15 k15).x;have b15 := (ZC (st:=VL) l15 c15 k15).binds (ps:=["ways", "cells"]) fun _ _ _ _ _ _ us hl => match us,hl with | [_,_],_ => rfl
 have F16 : FunX K "_law_ways" "_law_ways" XS f16 _ := (ZC (st:=XS) l16 c16 k16).x;have b16 := (ZC (st:=XS) l16 c16 k16).binds (ps:=["cells", "many", "width"]) fun _ _ _ _ _ _ us hl => match us,hl with | [_,_,_],_ => rfl
 have F17 : FunX K "_law_other" "_law_other" VN f17 _ := (ZC (st:=VN) l17 c17 k17).x;have b17 := (ZC (st:=VN) l17 c17 k17).binds (ps:=["error"]) fun _ _ _ _ _ _ us hl => match us,hl with | [_],_ => rfl
 have F18 : FunX K "_law_row_refused" "_law_row_refused" VP f18 _ := (ZC (st:=VP) l18 c18 k18).x;have b18 := (ZC (st:=VP) l18 c18 k18).binds (ps:=["rooms", "room", "length", "number"]) fun _ _ _ _ _ _ us hl => match us,hl with | [_,_,_,_],_ => rfl
 have F19 : FunX K "_law_number_word" "_law_number_word" VQ f19 _ := (ZC (st:=VQ) l19 c19 k19).x;have b19 := (ZC (st:=VQ) l19 c19 k19).binds (ps:=["rooms", "room", "row"]) fun _ _ _ _ _ _ us hl => match us,hl with | [_,_,_],_ => rfl
 have F20 : FunX K "_law_due" "_law_due" VR f20 _ := (ZC (st:=VR) l20 c20 k20).x;have b20 := (ZC (st:=VR) l20 c20 k20).binds (ps:=["marks", "ways", "room", "row"]) fun _ _ _ _ _ _ us hl => match us,hl with | [_,_,_,_],_ => rfl
 have F21 : FunX K "_law_walked" "_law_walked" Vc f21 _ := (ZC (st:=Vc) l21 c21 k21).x;have b21 := (ZC (st:=Vc) l21 c21 k21).binds (ps:=["marks", "ways", "room", "length", "cell"]) fun _ _ _ _ _ _ us hl => match us,hl with | [_,_,_,_,_],_ => rfl
 have F22 : FunX K "_law_strange" "_law_strange" Vd f22 _ := (ZC (st:=Vd) l22 c22 k22).x;have b22 := (ZC (st:=Vd) l22 c22 k22).binds (ps:=["marks", "cell"]) fun _ _ _ _ _ _ us hl => match us,hl with | [_,_],_ => rfl
 have F23 : FunX K "_law_spoilt" "_law_spoilt" Ve f23 _ := (ZC (st:=Ve) l23 c23 k23).x;have b23 := (ZC (st:=Ve) l23 c23 k23).binds (ps:=["marks", "ways", "room", "row", "cells", "way"]) fun _ _ _ _ _ _ us hl => match us,hl with | [_,_,_,_,_,_],_ => rfl
 have F24 : FunX K "law" "law" XG fa _ := (ZC (st:=XG) l24 c24 k24).x;have b24 := (ZC (st:=XG) l24 c24 k24).binds (ps:=["script"]) fun _ _ _ _ _ _ us hl => match us,hl with | [_],_ => rfl
 have T : Txt K mg { a_QC := f0,d_QC := _,a_QL := f1,d_QL := _,a_QD := f2,d_QD := _,a_QX := f3,d_QX := _,a_QP := f4,d_QP := _,a_QU := f5,d_QU := _,a_QV := f6,d_QV := _,a_QR := f7,d_QR := _,a_QW := f8,d_QW := _,a_QE := f9,d_QE := _,a_QQ := f10,d_QQ := _,a_QO := f11,d_QO := _,a_QF := f12,d_QF := _,a_QH := f13,d_QH := _,a_QN := f14,d_QN := _,a_QJ := f15,d_QJ := _,a_QS := f16,d_QS := _,a_QM := f17,d_QM := _,a_QB := f18,d_QB := _,a_QA := f19,d_QA := _,a_QT := f20,d_QT := _,a_QI := f21,d_QI := _,a_QG := f22,d_QG := _,a_QK := f23,d_QK := _,a_QY := fa,d_QY := _,c_Rooms := c_Rooms,c_BadMark := c_BadMark,c_BadMarks := c_BadMarks,c_BadRow := c_BadRow,c_BadRule := c_BadRule,c_BadSign := c_BadSign,c_BadTable := c_BadTable,c_GrooveError := c_GrooveError,c_NoRow := c_NoRow,c_Nothing := c_Nothing,c_TooLarge := c_TooLarge,c_Unread := c_Unread } := { f_QC := F0,b_QC := b0,g_QC := mg_of X G a0,k_QC := k0,f_QL := F1,b_QL := b1,k_QL := k1,f_QD := F2,b_QD := b2,g_QD := mg_of X G a2,k_QD := k2,f_QX := F3,b_QX := b3,g_QX := mg_of X G a3,k_QX := k3,f_QP := F4,b_QP := b4,g_QP := mg_of X G a4,k_QP := k4,f_QU := F5,b_QU := b5,g_QU := mg_of X G a5,k_QU := k5,f_QV := F6,b_QV := b6,g_QV := mg_of X G a6,k_QV := k6,f_QR := F7,b_QR := b7,k_QR := k7,f_QW := F8,b_QW := b8,g_QW := mg_of X G a8,k_QW := k8,f_QE := F9,b_QE := b9,k_QE := k9,f_QQ := F10,b_QQ := b10,g_QQ := mg_of X G a10,k_QQ := k10,f_QO := F11,b_QO := b11,k_QO := k11,f_QF := F12,b_QF := b12,g_QF := mg_of X G a12,k_QF := k12,f_QH := F13,b_QH := b13,g_QH := mg_of X G a13,k_QH := k13,f_QN := F14,b_QN := b14,g_QN := mg_of X G a14,k_QN := k14,f_QJ := F15,b_QJ := b15,g_QJ := mg_of X G a15,k_QJ := k15,f_QS := F16,b_QS := b16,g_QS := mg_of X G a16,k_QS := k16,f_QM := F17,b_QM := b17,g_QM := mg_of X G a17,k_QM := k17,f_QB := F18,b_QB := b18,g_QB := mg_of X G a18,k_QB := k18,f_QA := F19,b_QA := b19,g_QA := mg_of X G a19,k_QA := k19,f_QT := F20,b_QT := b20,g_QT := mg_of X G a20,k_QT := k20,f_QI := F21,b_QI := b21,g_QI := mg_of X G a21,k_QI := k21,f_QG := F22,b_QG := b22,g_QG := mg_of X G a22,k_QG := k22,f_QK := F23,b_QK := b23,g_QK := mg_of X G a23,k_QK := k23,f_QY := F24,b_QY := b24,g_QY := mg_of X G a24,k_QY := k24,n_ValueError := mg_none_of X G Zmb,n_enumerate := mg_none_of X G Zmc,n_isinstance := mg_none_of X G Zmd,n_len := mg_none_of X G Zme,n_range := mg_none_of X G Zmf,n_sum := mg_none_of X G Zmg,n_tuple := mg_none_of X G Zmh,g_Rooms := mg_of X G Zl8,cl_Rooms := ⟨ZlW,Zlm,ZlX,ZlY⟩,ci_Rooms := ⟨⟨ZlW,Zlm,ZlX,ZlY⟩,Zll,hn_,htk_,Zln⟩,mk_Rooms := ⟨ZlQ,ZlP,ZlO,ZlK⟩,fl_marks := (by intro c hc; simp only [YC,List.mem_cons,List.mem_nil_iff,or_false] at hc; rcases hc with rfl <;> first | exact ⟨⟨ZlW,Zlm,ZlX,ZlY⟩,ZlU⟩),fl_row := (by intro c hc; exact absurd hc (by simp [ZfB])),fl_ways := (by intro c hc; simp only [Xo,List.mem_cons,List.mem_nil_iff,or_false] at hc; rcases hc with rfl <;> first | exact ⟨⟨ZlW,Zlm,ZlX,ZlY⟩,ZlV⟩),g_BadMark := mg_of X G ZlZ,ex_BadMark := .of Zk7 Zk9 Zlh Zlb Zld hn_ htk_ Zlf,g_BadMarks := mg_of X G Zl0,g_BadRow := mg_of X G Zl1,g_BadRule := mg_of X G Zl2,g_BadSign := mg_of X G Zl3,g_BadTable := mg_of X G Zl4,g_GrooveError := mg_of X G Zl5,g_NoRow := mg_of X G Zl6,ex_NoRow := .of Zk8 Zla Zli Zlc Zle hn_ htk_ Zlg,g_Nothing := mg_of X G Zl7,g_TooLarge := mg_of X G Zl9,g_Unread := mg_of X G Zma,xm_GrooveError := (by intro c hc; simp only [List.mem_cons,List.mem_nil_iff,or_false] at hc; rcases hc with rfl | rfl <;> first | exact ⟨.of Zk7 Zk9 Zlh Zlb Zld hn_ htk_ Zlf,Zlj⟩ | exact ⟨.of Zk8 Zla Zli Zlc Zle hn_ htk_ Zlg,Zlk⟩),ie_NoRow := XN (fun _ z => z) (by intro p hp; simp only [ie_NoRow,List.mem_cons,List.mem_nil_iff,or_false] at hp; rcases hp with rfl | rfl <;> first | exact Zlu | exact ZlF),ie_ValueError := XN (fun _ z => z) (by intro p hp; simp only [ie_ValueError,List.mem_cons,List.mem_nil_iff,or_false] at hp; rcases hp with rfl | rfl <;> first | exact Zly | exact ZlJ),ie_BadMark := XN (fun _ z => z) (by intro p hp; simp only [ie_BadMark,List.mem_cons,List.mem_nil_iff,or_false] at hp; rcases hp with rfl | rfl <;> first | exact Zlo | exact Zlz),ie_BadMarks := XN (fun _ z => z) (by intro p hp; simp only [ie_BadMarks,List.mem_cons,List.mem_nil_iff,or_false] at hp; rcases hp with rfl | rfl <;> first | exact Zlp | exact ZlA),ie_BadRow := XN (fun _ z => z) (by intro p hp; simp only [ie_BadRow,List.mem_cons,List.mem_nil_iff,or_false] at hp; rcases hp with rfl | rfl <;> first | exact Zlq | exact ZlB),ie_BadRule := XN (fun _ z => z) (by intro p hp; simp only [ie_BadRule,List.mem_cons,List.mem_nil_iff,or_false] at hp; rcases hp with rfl | rfl <;> first | exact Zlr | exact ZlC),ie_BadSign := XN (fun _ z => z) (by intro p hp; simp only [ie_BadSign,List.mem_cons,List.mem_nil_iff,or_false] at hp; rcases hp with rfl | rfl <;> first | exact Zls | exact ZlD),ie_BadTable := XN (fun _ z => z) (by intro p hp; simp only [ie_BadTable,List.mem_cons,List.mem_nil_iff,or_false] at hp; rcases hp with rfl | rfl <;> first | exact Zlt | exact ZlE),ie_Nothing := XN (fun _ z => z) (by intro p hp; simp only [ie_Nothing,List.mem_cons,List.mem_nil_iff,or_false] at hp; rcases hp with rfl | rfl <;> first | exact Zlv | exact ZlG),ie_TooLarge := XN (fun _ z => z) (by intro p hp; simp only [ie_TooLarge,List.mem_cons,List.mem_nil_iff,or_false] at hp; rcases hp with rfl | rfl <;> first | exact Zlw | exact ZlH),ie_Unread := XN (fun _ z => z) (by intro p hp; simp only [ie_Unread,List.mem_cons,List.mem_nil_iff,or_false] at hp; rcases hp with rfl | rfl <;> first | exact Zlx | exact ZlI),me_Rooms_led := ⟨ZlL,ZlR,k7⟩,me_Rooms_many := ⟨ZlM,ZlS,k1⟩,me_Rooms_walked := ⟨ZlN,ZlT,k9⟩ }
 exact ⟨fnOf "law" "law" (defArgs XG) (defBody XG) (defScope XG) .none kV24 dc24 pm24 an24 cd24 ct24,fun s v => .of_eq rfl,fun base _ _ => ZiB hall T⟩
theorem walk {l : PySem.W.OpenLaw} {q : Program} {loose : List Str} {XP : (Str -> Option Value) -> Heap -> Prop} {YP : World -> Heap -> Prop} {d : DefRec} {K : Params -> PySem.W.Frag} (hn : l.most = some 63) (hdf : d.params.defaults = [])
 (hY : ∀ (w : World) (h : Heap),YP w h -> (K w.params).In h)
 (F : ∀ (w : World) (mg : Str -> Option Value) (fa : Addr) (h : Heap),(K w.params).In h -> h.Ns mainGlobals mg -> mg d.name = some (.ref fa) ->
   ∃ fd : FuncData,(∀ (s : Shared) (u : Value),BindsTo s fd ⟨[u],[]⟩ [("script",u)]) /\ ∀ base : Heap,(K w.params).In base -> base.Ns mainGlobals mg -> FnOk l.prog w (K w.params) mg base CX0 6 fa fd ["script"] (JZ (K w.params))) :
 PySem.W.WalkO q loose XP YP l.row.toRowW d [] (fun f vs => PySem.call f vs) :=
 L2.walk_of (n:=63) (k:=6) (x:="script") (CX:=fun _ => CX0) (sp:=fun w => JZ (K w.params)) hn (by decide) hdf ⟨rfl,by decide,by decide⟩ hY F (fun _ _ a ns hl _ hS => ⟨a,ns,rfl,hS,hl,fun _ => rfl⟩) fun _ _ _ _ _ z => z
end K22
open PySem PySem.W PyProof.Rows
set_option maxRecDepth 100000 in
set_option maxHeartbeats 0 in
theorem PySem.Challenge.cw_grooveway_k22_no_row_holds : PySem.Challenge.rw_grooveway_k22_no_row.Holds := by
 w_on; o_law
 refine holds_open (r:=PySem.Challenge.rw_grooveway_k22_no_row.row) (q:=(view PySem.Challenge.pw_grooveway_k22_no_row [1,2,3,4,5,6,7,8,9,10,11,13,14,15,16,17,18,19,21,23,25,26,27,28,29,30,31,32,33,34,35,36,37])) (loose:=[]) (XP:=XL (view PySem.Challenge.pw_grooveway_k22_no_row [1,2,3,4,5,6,7,8,9,10,11,13,14,15,16,17,18,19,21,23,25,26,27,28,29,30,31,32,33,34,35,36,37]) []) (YP:=InK K22.kP) K22.left (InK.of K22.kP_as) InK.keeps (fun s e => xl_of s (Bool.and_eq_true_iff.mp e).1) XL.keeps (by rfl) (by rfl) (by rfl) (fun s e => recFacts_of (Bool.and_eq_true_iff.mp e).2) (by rfl) (by assumption) (by decide +kernel) ⟨rfl,rfl,rfl,rfl,rfl,by decide +kernel⟩ ?hw ?hc
 case hw => w_witness2
 k_fill
 refine K22.walk (l:=PySem.Challenge.rw_grooveway_k22_no_row) rfl rfl (fun w h Y => Y) ?F
 case F =>
  intro w mg fa h KX G hmg;refine' K22.all_mk K22.all_true KX G hmg ?Zl8 ?ZlZ ?Zl0 ?Zl1 ?Zl2 ?Zl3 ?Zl4 ?Zl5 ?Zl6 ?Zl7 ?Zl9 ?Zma ?a0 ?l0 ?c0 ?k0 ?a1 ?l1 ?c1 ?k1 ?a2 ?l2 ?c2 ?k2 ?a3 ?l3 ?c3 ?k3 ?a4 ?l4 ?c4 ?k4 ?a5 ?l5 ?c5 ?k5 ?a6 ?l6 ?c6 ?k6 ?a7 ?l7 ?c7 ?k7 ?a8 ?l8 ?c8 ?k8 ?a9 ?l9 ?c9 ?k9 ?a10 ?l10 ?c10 ?k10 ?a11 ?l11 ?c11 ?k11 ?a12 ?l12 ?c12 ?k12 ?a13 ?l13 ?c13 ?k13 ?a14 ?l14 ?c14 ?k14 ?a15 ?l15 ?c15 ?k15 ?a16 ?l16 ?c16 ?k16 ?a17 ?l17 ?c17 ?k17 ?a18 ?l18 ?c18 ?k18 ?a19 ?l19 ?c19 ?k19 ?a20 ?l20 ?c20 ?k20 ?a21 ?l21 ?c21 ?k21 ?a22 ?l22 ?c22 ?k22 ?a23 ?l23 ?c23 ?k23 ?a24 ?l24 ?c24 ?k24 ?Zmb ?Zmc ?Zmd ?Zme ?Zmf ?Zmg ?Zmh ?ZlW ?Zlm ?ZlX ?ZlY ?Zll ?Zln ?ZlQ ?ZlK ?ZlP ?ZlO ?hn_ ?htk_ ?Zk7 ?Zk9 ?Zlh ?Zlb ?Zld ?Zlf ?Zlj ?Zlu ?Zly ?Zlo ?Zlp ?Zlq ?Zlr ?Zls ?Zlt ?Zlv ?Zlw ?Zlx ?Zk8 ?Zla ?Zli ?Zlc ?Zle ?Zlg ?Zlk ?ZlF ?ZlJ ?Zlz ?ZlA ?ZlB ?ZlC ?ZlD ?ZlE ?ZlG ?ZlH ?ZlI ?ZlU ?ZlV ?ZlL ?ZlR ?ZlM ?ZlS ?ZlN ?ZlT
  (case Zl8 | ZlZ | Zl0 | Zl1 | Zl2 | Zl3 | Zl4 | Zl5 | Zl6 | Zl7 | Zl9 | Zma | a0 | l0 | c0 | k0 | a1 | l1 | c1 | k1 | a2 | l2 | c2 | k2 | a3 | l3 | c3 | k3 | a4 | l4 | c4 | k4 | a5 | l5 | c5 | k5 | a6 | l6 | c6 | k6 | a7 | l7 | c7 | k7 | a8 | l8 | c8 | k8 | a9 | l9 | c9 | k9 | a10 | l10 | c10 | k10 | a11 | l11 | c11 | k11 | a12 | l12 | c12 | k12 | a13 | l13 | c13 | k13 | a14 | l14 | c14 | k14 | a15 | l15 | c15 | k15 | a16 | l16 | c16 | k16 | a17 | l17 | c17 | k17 | a18 | l18 | c18 | k18 | a19 | l19 | c19 | k19 | a20 | l20 | c20 | k20 | a21 | l21 | c21 | k21 | a22 | l22 | c22 | k22 | a23 | l23 | c23 | k23 | a24 | l24 | c24 | k24 | Zmb | Zmc | Zmd | Zme | Zmf | Zmg | Zmh | ZlW | Zlm | ZlX | ZlY | Zll | Zln | ZlQ | ZlK | ZlP | ZlO | hn_ | htk_ => k_is)
  (case Zk7 => k_exc)
  (case Zk9 | Zlh | Zlb | Zld | Zlf => k_is)
  (case Zlj => kts_exm)
  (case Zlu | Zly | Zlo | Zlp | Zlq | Zlr | Zls | Zlt | Zlv | Zlw | Zlx => kit_is)
  (case Zk8 => k_exc)
  (case Zla | Zli | Zlc | Zle | Zlg => k_is)
  (case Zlk => kts_exm)
  (case ZlF | ZlJ | Zlz | ZlA | ZlB | ZlC | ZlD | ZlE | ZlG | ZlH | ZlI => kit_is)
  (case ZlU | ZlV | ZlL | ZlR | ZlM | ZlS | ZlN | ZlT => k_is)
