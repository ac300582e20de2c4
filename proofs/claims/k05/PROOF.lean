import PyProof.Rows.All
import Wide.All
import OpenK.AllK
import Wide.FinOn
import Lean
import PyProof.EqAt
import PyProof.EqKinds
import PyProof.TupleCall
import PyProof.Rows.StrCountLaw
import PyProof.Rows.StrFirst
import PyProof.Rows.StrLast
import PyProof.Rows.StrNews2
import PyProof.Rows.StrSplitCount
import PyProof.StrBlockI
import PyProof.StrLawsIn
import PyProof.StrLawsLast
import PyProof.EnumMake
import PyProof.FString
import PyProof.ReprStr
import PyProof.StrLawsRepr
import PyProof.ListStr
import PyProof.ListRange
import PySem.Challenge.RW_grooveway_k05_rules_refused
set_option Elab.async false
set_option linter.all false
set_option maxRecDepth 100000
set_option maxHeartbeats 4000000
open PySem.W (nsIn mg_of fnOf codeIn mg_none_of instObj emptyDict)
namespace L2
open PySem PySem.Spec PyProof.Rows
abbrev Key:=Sum Int Str
def Zg9:Key->Value->Bool
 | .inl k,v=>Value.isInt k v
 | .inr x,v=>Value.isStrOf x v
def Zlj(w:World):Key->Int
 | .inl k=>hashInt k
 | .inr x=>hashStr w x
theorem Vy:∀{k:Key}{v:Value},Zg9 k v=true->(∃i t,k=Sum.inl i/\v=Value.int i t)\/(∃x t,k=Sum.inr x/\v=Value.str x t)
 | .inl i,v,h=>by
  obtain⟨t,e⟩:=Value.isInt_shape (k:=i) (v:=v) h;exact .inl ⟨i,t,rfl,e⟩
 | .inr x,v,h=>by
  obtain⟨t,e⟩:=Value.isStrOf_shape (x:=x) (v:=v) h;exact .inr ⟨x,t,rfl,e⟩
theorem ZhE(a b:Int):decide ((Sum.inl a:Key)=Sum.inl b)=(a == b):=by
 by_cases e:a=b
 · subst e;simp
 · have h:¬(Sum.inl a:Key)=Sum.inl b:=λq=>e (Sum.inl.inj q)
   rw [decide_eq_false h];exact(beq_eq_false_iff_ne.mpr e).symm
theorem ZhF(a b:Str):decide ((Sum.inr a:Key)=Sum.inr b)=decide (a=b):=by
 by_cases e:a=b
 · subst e;simp
 · have h:¬(Sum.inr a:Key)=Sum.inr b:=λq=>e (Sum.inr.inj q)
   rw [decide_eq_false h,decide_eq_false e]
theorem ZhG(a:Int)(b:Str):decide ((Sum.inl a:Key)=Sum.inr b)=false:=decide_eq_false (λq=>nomatch q)
theorem ZhH(a:Str)(b:Int):decide ((Sum.inr a:Key)=Sum.inl b)=false:=decide_eq_false (λq=>nomatch q)
def Zdj(prog:Program)(w:World):PySem.KeyKind prog w Key where
 is:=Zg9
 hash:=Zlj w
 inj:=λv a b ha hb=>by
  rcases Vy ha with⟨i,t,rfl,rfl⟩|⟨x,t,rfl,rfl⟩
  · rcases Vy hb with⟨j,u,rfl,e⟩|⟨y,u,rfl,e⟩
    · injection e with e1 _;rw [e1]
    · exact nomatch e
  · rcases Vy hb with⟨j,u,rfl,e⟩|⟨y,u,rfl,e⟩
    · exact nomatch e
    · injection e with e1 _;rw [e1]
 byValue:=λk v h=>by
  rcases Vy h with⟨i,t,rfl,rfl⟩|⟨x,t,rfl,rfl⟩<;>rfl
 pyHash:=λhv h=>by
  rcases Vy hv with⟨i,t,rfl,rfl⟩|⟨x,t,rfl,rfl⟩
  · exact wpAny_pyHash_int h
  · exact wpAny_pyHash_str h
 eqBool:=λhu hv h=>by
  rcases Vy hu with⟨i,t,rfl,rfl⟩|⟨x,t,rfl,rfl⟩
  · rcases Vy hv with⟨j,u,rfl,rfl⟩|⟨y,u,rfl,rfl⟩
    · rw [ZhE]at h;exact wpAny_eqBool_int h
    · rw [ZhG]at h;exact SeqAt.EqAt.int_str i t y u _ _ _ _ h
  · rcases Vy hv with⟨j,u,rfl,rfl⟩|⟨y,u,rfl,rfl⟩
    · rw [ZhH]at h;exact SeqAt.EqAt.str_int x t j u _ _ _ _ h
    · rw [ZhF]at h;exact wpAny_eqBool_str h
 «strs» := λk x t v h=>by
  rcases Vy h with⟨i,u,rfl,e⟩|⟨y,u,rfl,e⟩
  · exact nomatch e
  · injection e with e1 _
    subst e1;cases v<;>rfl
end L2
namespace L2
open PySem PySem.Spec PyProof.Rows
inductive V where
 |non|bl (b:Bool)|int (i:Int)|str (x:Str)|byt (b:Array UInt8)|flt (b:UInt64)|ref (a:Addr)|ty (n:String)
 deriving DecidableEq
def RelV:V->Value->Prop
 | .non,u=>u=Value.none
 | .bl b,u=>u=Value.bool b
 | .int i,u=>∃t,u=Value.int i t
 | .str x,u=>∃t,u=Value.str x t
 | .byt b,u=>∃t,u=Value.bytes b t
 | .flt b,u=>∃t,u=Value.float b t
 | .ref a,u=>u=Value.ref a
 | .ty n,u=>u=Value.type n
abbrev Vals:List V->List Value->Prop:=Paired RelV
theorem Vals.length{xs:List V}{us:List Value}(r:Vals xs us):xs.length=us.length:=Paired.length r
theorem Vals.get:∀{xs:List V}{us:List Value}{i:Nat}{x:V},Vals xs us->xs[i]? = some x->∃u,us[i]? = some u/\RelV x u
 |_,_,_,_,.nil,e=>by simp at e
 |_,_,0,_,.cons r _,e=>by simp at e;subst e;exact⟨_,rfl,r⟩
 |_,_,i+1,x,.cons _ t,e=>by
  obtain⟨u,h1,h2⟩:=Vals.get (i:=i) (x:=x) t (by simpa using e);exact⟨u,by simpa using h1,h2⟩
theorem Vals.set{x:V}{u:Value}(r:RelV x u):∀{xs:List V}{us:List Value}(i:Nat),Vals xs us->Vals (xs.set i x) (us.set i u)
 |_,_,_,.nil => .nil
 |_,_,0,.cons _ t => .cons r t
 |_,_,i+1,.cons q t => .cons q (Vals.set r i t)
theorem Vals.append:∀{xs ys:List V}{us ws:List Value},Vals xs us->Vals ys ws->Vals (xs++ys) (us++ws)
 |_,_,_,_,.nil,s=>s
 |_,_,_,_,.cons r t,s => .cons r (Vals.append t s)
theorem Vals.take:∀{xs:List V}{us:List Value}(n:Nat),Vals xs us->Vals (xs.take n) (us.take n)
 |_,_,0,_ => .nil
 |_,_,_+1,.nil => .nil
 |_,_,n+1,.cons r t => .cons r (Vals.take n t)
theorem Vals.drop:∀{xs:List V}{us:List Value}(n:Nat),Vals xs us->Vals (xs.drop n) (us.drop n)
 |_,_,0,r=>r
 |_,_,_+1,.nil => .nil
 |_,_,n+1,.cons _ t=>Vals.drop n t
def RelO:Option V->Option Value->Prop
 |some v,some u=>RelV v u
 |none,none=>True
 |_,_=>False
def KV{κ:Type}:List (κ×V)->List (κ×Value)->Prop:=Paired λ(p:κ×V) (q:κ×Value)=>p.1=q.1/\RelV p.2 q.2
def kV:Key->V
 | .inl i => .int i
 | .inr x => .str x
inductive HO where
 |lst (xs:List V)
 |tup (xs:List V)
 |dK (kvs:List (Key×V))|dT (kvs:List (List Key×V))
 |set (S:Int->Bool) (n:Nat)
 |ins (C dx:Addr) (fs:List (Str×V))
 |own (x:Addr)
 |xd (fs:List (Str×V))
 |met (f x:Addr)
 |rng (lo hi:Int)
 |frz (o:Obj) (u:HO)
 |tbl (ps:Array Value)
 |ext (φ:Heap->Prop)
abbrev Hp:=Addr->Option HO
def upd(H:Hp)(a:Addr)(o:HO):Hp:=λb=>if b=a then some o else H b
theorem YH{H:Hp}{a:Addr}{o:HO}:upd H a o a=some o:=by unfold upd;rw [if_pos rfl]
theorem ZJ{H:Hp}{a b:Addr}{o:HO}(h:b≠a):upd H a o b=H b:=by unfold upd;rw [if_neg h]
theorem Xs{H:Hp}{a b:Addr}{o:HO}(h:H a=some o)(h':H b=none):a≠b:=by
 intro e;subst e;rw [h]at h';cases h'
def TupN(h:Heap)(a:Addr)(its:Array Value):Prop:=∃o,h.get? a=some o/\o.cls = .type "tuple" /\ (∃n,o.data = .seq its n)/\o.dict=none
theorem TupN.tup{h:Heap}{a:Addr}{its:Array Value}(x:TupN h a its):IsTup h a its:=let⟨o,e,c,d,_⟩:=x;⟨o,e,c,d⟩
theorem TupN.new(h:Heap)(its:Array Value):TupN (h.push { cls := .type "tuple",data := .seq its }) h.objs.size its:=⟨_,Heap.get?_push_size _ rfl,rfl,⟨_,rfl⟩,rfl⟩
section
variable(P:Program)(w:World)
def ObjOk(H:Hp)(h:Heap)(a:Addr):HO->Prop
 | .lst xs=>xs.length<=sizeLine/\∃(its:List Value) (n:Nat),Vals xs its/\h.get? a=some { cls := .type "list",data := .seq its.toArray n }
 | .tup xs=>xs.length<=sizeLine/\∃its:List Value,Vals xs its/\TupN h a its.toArray
 | .dK kvs=>kvs.length<=sizeLine/\(a == sysModules)=false/\∃vs,KV kvs vs/\h.DictOf (Zdj P w) a vs
 | .dT kvs=>kvs.length<=sizeLine/\(a == sysModules)=false/\∃xs:List (List Key×Addr×Value),
  Paired (λ(p:List Key×V) (q:List Key×Addr×Value)=>p.1=q.1/\H q.2.1=some (.tup (p.1.map kV))/\RelV p.2 q.2.2) kvs xs /\
  ∃o es ep,h.get? a=some o/\o.ExactDict/\o.data = .dict es ep/\es.toList=xs.map (entryOfKey (tupleKind (Zdj P w)))/\(xs.map (·.1)).Nodup
 | .set S n=>h.SetOf (intKind P w) a S n
 | .ins C dx fs=>H dx=some (.own a)/\fs.length<=1000/\dx≠a/\h.get? a=some (instObj C dx) /\
  ∃mA,h.Ns1 dx mA/\(∀f,RelO (fs.lookup f) (mA f))/\PySem.Within mA (fs.map (·.1))
 | .own _=>∃o,h.get? a=some o
 | .xd fs=>∃mA,h.Ns1 a mA/\∀f,RelO (fs.lookup f) (mA f)
 | .rng lo hi=>∃t u v,h.get? a=some { cls := .type "range",data := .fields #[.int lo t,.int hi u,.int 1 v] }
 | .frz o u=>h.get? a=some o/\ObjOk H h a u
 | .tbl ps=>h.get? a=some { cls := .none,data := .fields ps }
 | .met f x=>h.get? a=some (PySem.W.methodObj (.ref f) (.ref x))
 | .ext φ=>φ h/\(∃o,h.get? a=some o)/\∀h1 h2:Heap,φ h1->(∀o,h1.get? a=some o->h2.get? a=some o)->φ h2
def HOk(H:Hp)(h:Heap):Prop:=∀a o,H a=some o->ObjOk P w H h a o
end
section
variable{P:Program}{w:World}{H H':Hp}{h h':Heap}{a:Addr}{o:HO}
theorem ObjOk.lt(x:ObjOk P w H h a o):a<h.objs.size:=by
 cases o with
 |lst xs=>obtain⟨_,_,_,_,e⟩:=x;exact Heap.lt_size e
 |tup xs=>obtain⟨_,_,_,p⟩:=x;exact p.tup.lt
 |dK kvs=>obtain⟨_,_,_,_,o,_,_,e,_⟩:=x;exact Heap.lt_size e
 |dT kvs=>obtain⟨_,_,_,_,o,_,_,e,_⟩:=x;exact Heap.lt_size e
 |set S n=>obtain⟨o,_,_,_,e,_⟩:=x;exact Heap.lt_size e
 |ins C dx fs=>obtain⟨_,_,_,e,_⟩:=x;exact Heap.lt_size e
 |own y=>obtain⟨_,e⟩:=x;exact Heap.lt_size e
 |xd fs=>obtain⟨_,⟨_,_,_,e,_⟩,_⟩:=x;exact Heap.lt_size e
 |rng lo hi=>obtain⟨_,_,_,e⟩:=x;exact Heap.lt_size e
 |frz ob u=>obtain⟨e,_⟩:=x;exact Heap.lt_size e
 |tbl ps=>exact Heap.lt_size (show h.get? a=some _ from x)
 |met f y=>exact Heap.lt_size (show h.get? a=some _ from x)
 |ext φ=>obtain⟨_,⟨_,e⟩,_⟩:=x;exact Heap.lt_size e
theorem Paired.mapP{α β:Type}{F G:α->β->Prop}:∀{l₁:List α}{l₂:List β},Paired F l₁ l₂->(∀a b,F a b->G a b)->Paired G l₁ l₂
 |_,_,.nil,_ => .nil
 |_,_,.cons r t,f => .cons (f _ _ r) (Paired.mapP t f)
theorem ObjOk.stay (x:ObjOk P w H h a o) (k:∀b u,(b=a\/H b=some (.own a))->h.get? b=some u->h'.get? b=some u)
 (ho:∀b,H b=some (.own a)->H' b=some (.own a)) (ht:∀b xs,H b=some (.tup xs)->H' b=some (.tup xs)):ObjOk P w H' h' a o:=by
 induction o with
 |lst xs=>obtain⟨z,its,n,r,e⟩:=x;exact⟨z,its,n,r,k _ _ (.inl rfl) e⟩
 |tup xs=>obtain⟨z,its,r,ob,e,c⟩:=x;exact⟨z,its,r,ob,k _ _ (.inl rfl) e,c⟩
 |dK kvs=>obtain⟨z,y,vs,r,ob,es,ep,e,c⟩:=x;exact⟨z,y,vs,r,ob,es,ep,k _ _ (.inl rfl) e,c⟩
 |dT kvs=>
  obtain⟨z,y,xs,r,ob,es,ep,e,c⟩:=x;exact⟨z,y,xs,Paired.mapP r λp q z=>⟨z.1,ht _ _ z.2.1,z.2.2⟩,ob,es,ep,k _ _ (.inl rfl) e,c⟩
 |set S n=>obtain⟨ob,es,ep,t,e,c⟩:=x;exact⟨ob,es,ep,t,k _ _ (.inl rfl) e,c⟩
 |ins C dx fs=>
  obtain⟨d,z,ne,e,mA,⟨od,es,ep,e2,c⟩,r⟩:=x;exact⟨ho _ d,z,ne,k _ _ (.inl rfl) e,mA,⟨od,es,ep,k _ _ (.inr d) e2,c⟩,r⟩
 |own y=>obtain⟨ob,e⟩:=x;exact⟨ob,k _ _ (.inl rfl) e⟩
 |xd fs=>obtain⟨mA,⟨od,es,ep,e,c⟩,r⟩:=x;exact⟨mA,⟨od,es,ep,k _ _ (.inl rfl) e,c⟩,r⟩
 |rng lo hi=>obtain⟨t,u,v,e⟩:=x;exact⟨t,u,v,k _ _ (.inl rfl) e⟩
 |frz ob u ih=>obtain⟨e,q⟩:=x;exact⟨k _ _ (.inl rfl) e,ih q⟩
 |tbl ps=>
  have e:h.get? a=some { cls := .none,data := .fields ps }:=x;show h'.get? a=some { cls := .none,data := .fields ps };exact k a _ (.inl rfl) e
 |met f y=>
  have e:h.get? a=some (PySem.W.methodObj (.ref f) (.ref y)):=x;show h'.get? a=some (PySem.W.methodObj (.ref f) (.ref y));exact k a _ (.inl rfl) e
 |ext φ=>obtain⟨p,⟨o,e⟩,st⟩:=x;exact⟨st _ _ p λo q=>k _ _ (.inl rfl) q,⟨o,k _ _ (.inl rfl) e⟩,st⟩
theorem HOk.lt(x:HOk P w H h)(e:H a=some o):a<h.objs.size:=(x a o e).lt
theorem HOk.fresh(x:HOk P w H h)(e:h.objs.size<=a):H a=none:=by
 cases q:H a with
 |none=>rfl
 |some u=>exact absurd (Nat.lt_of_lt_of_le (x.lt q) e) (Nat.lt_irrefl _)
theorem HOk.kept(x:HOk P w H h)(k:∀b u,h.get? b=some u->h'.get? b=some u):HOk P w H h':=λa o e=>
 (x a o e).stay (λb u _ q=>k b u q) (λ_ q=>q) λ_ _ q=>q
theorem HOk.laid(x:HOk P w H h)(k:∀b u,h.get? b=some u->h'.get? b=some u)(hp:h.objs.size<=a)(new:ObjOk P w (upd H a o) h' a o):HOk P w (upd H a o) h':=λb u e=>by
 have hn:=x.fresh hp
 by_cases hb:b=a
 · subst hb;rw [YH]at e;cases e;exact new
 · rw [ZJ hb]at e
   exact(x b u e).stay (λc v _ q=>k c v q) (λc q=>by rw [ZJ (Xs q hn)];exact q) λc xs q=>by rw [ZJ (Xs q hn)];exact q
end
def Rd(H:Hp)(a:Addr)(u:HO):Prop:=H a=some u\/∃o,H a=some (.frz o u)
theorem Rd.ok{P:Program}{w:World}{H:Hp}{h:Heap}{a:Addr}{u:HO}(r:Rd H a u)(x:HOk P w H h):ObjOk P w H h a u:=by
 rcases r with r|⟨o,r⟩
 · exact x a u r
 · obtain⟨_,q⟩:=x a _ r
   exact q
def Mut:Option HO->Prop
 |some (.lst _)=>True
 |some (.dK _)=>True
 |some (.dT _)=>True
 |some (.set _ _)=>True
 |some (.ins _ _ _)=>True
 |some (.ext _)=>True
 |_=>False
section
variable{P:Program}{w:World}{H:Hp}{h h':Heap}{x e:Addr}{o':HO}
theorem HOk.write (ok:HOk P w H h) (mu:Mut (H x)) (he:e=x\/H e=some (.own x)) (k:∀b u,b≠e->h.get? b=some u->h'.get? b=some u) (heo:∃u,h'.get? e=some u)
 (new:ObjOk P w (upd H x o') h' x o'):HOk P w (upd H x o') h':=λb u q=>by
 have nown:∀c y,H c=some (.own y)->c≠x:=λc y r z=>by subst z;rw [r]at mu;exact mu
 have ntup:∀c xs,H c=some (.tup xs)->c≠x:=λc xs r z=>by subst z;rw [r]at mu;exact mu
 by_cases hb:b=x
 · subst hb;rw [YH]at q;cases q;exact new
 · rw [ZJ hb]at q
   by_cases hbe:b=e
   · have q' : H b = some (.own x) := by
      rcases he with z|z
      · exact absurd (hbe.trans z) hb
      · rw [hbe];exact z
     rw [q]at q';cases q';obtain⟨v,hv⟩:=heo;exact⟨v,by rw [hbe];exact hv⟩
   · refine(ok b u q).stay (λc v hc r=>k c v ?_ r) (λc r=>by rw [ZJ (nown c b r)];exact r) λc xs r=>by rw [ZJ (ntup c xs r)];exact r
     rcases hc with rfl|hc
     · exact hbe
     · rintro rfl
       rcases he with z|z
       · exact nown c b hc z
       · rw [hc]at z;cases z;exact hb rfl
end
structure Un(fs ex:List Addr)(H H':Hp)(h h':Heap):Prop where
 keep:∀b o,h.get? b=some o->H b=none->b∉fs->b∉ex->h'.get? b=some o
 slot:∀b o,h.get? b=some o->H b=none->b∈fs->b∉ex->∃sl,h'.get? b=some { o with slots:=sl }
 free:∀b o,h.get? b=some o->H b=none->b∉ex->H' b=none
 there:∀b o,h.get? b=some o->b∉ex->∃o',h'.get? b=some o'
 tups:∀b xs,H b=some (.tup xs)->H' b=some (.tup xs)
 frzs:∀b o u,H b=some (.frz o u)->H' b=some (.frz o u)
 tbls:∀b ps,H b=some (.tbl ps)->∃more,H' b=some (.tbl (ps++more))
section
variable{fs fs' ex ex':List Addr}{H H1 H2:Hp}{h h1 h2 h':Heap}{a x e:Addr}{o:HO}
theorem Un.any(u:Un fs ex H H1 h h1){b:Addr}{ob:Obj}(q:h.get? b=some ob)(n:H b=none)(hx:b∉ex):∃sl,h1.get? b=some { ob with slots:=sl }:=by
 by_cases hb:b∈fs
 · exact u.slot b ob q n hb hx
 · exact⟨ob.slots,u.keep b ob q n hb hx⟩
theorem Un.trans(a:Un fs ex H H1 h h1)(b:Un fs ex H1 H2 h1 h2):Un fs ex H H2 h h2 where
 keep:=λc ob q n hc hx=>b.keep c ob (a.keep c ob q n hc hx) (a.free c ob q n hx) hc hx
 slot:=λc ob q n hc hx=>by
  obtain⟨sl,e1⟩:=a.slot c ob q n hc hx;obtain⟨sl',e2⟩:=b.slot c _ e1 (a.free c ob q n hx) hc hx;exact⟨sl',e2⟩
 free:=λc ob q n hx=>by
  obtain⟨o',e1⟩:=a.there c ob q hx;exact b.free c o' e1 (a.free c ob q n hx) hx
 there:=λc ob q hx=>by
  obtain⟨o',e1⟩:=a.there c ob q hx;exact b.there c o' e1 hx
 tups:=λc xs q=>b.tups c xs (a.tups c xs q)
 frzs:=λc ob xs q=>b.frzs c ob xs (a.frzs c ob xs q)
 tbls:=λc ps q=>by
  obtain⟨m1,e1⟩:=a.tbls c ps q;obtain⟨m2,e2⟩:=b.tbls c _ e1;exact⟨m1++m2,by rw [e2,Array.append_assoc]⟩
theorem Un.kept(k:∀b u,h.get? b=some u->h'.get? b=some u):Un fs ex H H h h':=
 ⟨λb ob q _ _ _=>k b ob q,λb ob q _ _ _=>⟨ob.slots,k b ob q⟩,λ_ _ _ n _=>n,λb ob q _=>⟨ob,k b ob q⟩,λ_ _ q=>q,λ_ _ _ q=>q,λ_ ps q=>⟨#[],by rw [q];simp⟩⟩
theorem Un.refl:Un fs ex H H h h:=Un.kept λ_ _ q=>q
theorem Un.laid(k:∀b u,h.get? b=some u->h'.get? b=some u)(hp:h.objs.size<=a)(hn:H a=none):Un fs ex H (upd H a o) h h' where
 keep:=λb u q _ _ _=>k b u q
 slot:=λb u q _ _ _=>⟨u.slots,k b u q⟩
 free:=λb u q n _=>by rw [ZJ (Nat.ne_of_lt (Nat.lt_of_lt_of_le (Heap.lt_size q) hp))];exact n
 there:=λb u q _=>⟨u,k b u q⟩
 tups:=λb xs q=>by rw [ZJ (Xs q hn)];exact q
 frzs:=λb u xs q=>by rw [ZJ (Xs q hn)];exact q
 tbls:=λb ps q=>⟨#[],by rw [ZJ (Xs q hn),q];simp⟩
theorem Un.write(mu:Mut (H x))(he:e=x\/H e=some (.own x))(k:∀b u,b≠e->h.get? b=some u->h'.get? b=some u)(heo:∃u,h'.get? e=some u):Un fs ex H (upd H x o) h h':=by
 have hx:∀b,H b=none->b≠x:=λb n z=>by subst z;rw [n]at mu;exact mu
 have hb:∀b,H b=none->b≠e:=λb n z=>by
  subst z;rcases he with r|r
  · exact hx b n r
  · rw [n]at r;cases r
 have hm:∀b u,H b=some u->¬Mut (some u)->b≠x:=λb u q nm z=>by subst z;rw [q]at mu;exact nm mu
 refine⟨λb u q n _ _=>k b u (hb b n) q,λb u q n _ _=>⟨u.slots,k b u (hb b n) q⟩,λb u q n _=>by rw [ZJ (hx b n)];exact n,λb u q _ => ?_,
  λb xs q=>by rw [ZJ (hm b _ q λz=>z)];exact q,λb u xs q=>by rw [ZJ (hm b _ q λz=>z)];exact q,λb ps q=>⟨#[],by rw [ZJ (hm b _ q λz=>z),q];simp⟩⟩
 by_cases hbe:b=e
 · subst hbe;exact heo
 · exact⟨u,k b u hbe q⟩
end
def trk(h:Heap)(H:Hp):List Addr:=(List.range h.objs.size).filter λa=>(H a).isSome
def Vz(h:Heap)(H:Hp):Heap:=PySem.W.hideAll h (trk h H)
theorem ZdY(h:Heap)(H:Hp):(Vz h H).objs.size=h.objs.size:=PySem.W.hideAll_size _ _
theorem ZeE{h:Heap}{H:Hp}{b:Addr}{o:Obj}(e:h.get? b=some o)(n:H b=none):(Vz h H).get? b=some o:=
 PySem.W.hideAll_get _ e λhm=>by
  have q:(H b).isSome=true:=(List.mem_filter.mp hm).2;rw [n]at q;simp at q
theorem Zgl{h:Heap}{H:Hp}{b:Addr}{o:Obj}(e:(Vz h H).get? b=some o):h.get? b=some o/\H b=none:=by
 have e':h.get? b=some o:=PySem.W.of_hideAll (trk h H) e;refine⟨e',?_⟩;cases q:H b with
 |none=>rfl
 |some x=>
  have hm:b∈trk h H:=List.mem_filter.mpr ⟨List.mem_range.mpr (Heap.lt_size e'),by simp [q]⟩;have z:(Vz h H).get? b=none:=PySem.W.hideAll_none (trk h H) hm;rw [z]at e;cases e
end L2
namespace L2
open PySem PySem.Spec PyProof.Rows
structure Mod(K:PySem.W.Frag)(mg:Str->Option Value)(base:Heap):Prop where
 kin:K.In base
 glob:base.Ns mainGlobals mg
 blt:∃mb,base.Ns builtinsNs mb/\∀x:Str,x ≠ "__name__" -> mb x=bootBuiltins x
 nolimit:base.NoLimit
structure Cx where
 prog:Program
 w:World
 K:PySem.W.Frag
 mg:Str->Option Value
 base:Heap
 A:Around
 N:List Str
 s₀:Shared
 H₀:Hp
 env:Env
 outer:List Env
 stack:List Env
 ex:List Addr
 fn:Str->Bool
 calm:Bool
 pn:List (Addr×Obj)
 xe:Value->Shared->Prop
def frs(l:List Env):List Addr:=l.filterMap (·.frame)
abbrev Cx.fs(X:Cx):List Addr:=frs X.outer
def Vis(sc:Scope)(x:Str):Prop:=sc.names.lookup x=some .local\/sc.names.lookup x=some .cell\/sc.names.lookup x=some .free
def Loc(sc:Scope)(x:Str):Prop:=sc.names.lookup x=some .local\/sc.names.lookup x=some .cell
def ZkU(env:Env)(h:Heap)(m:Str->Option Value)(x:Str)(u:Value):Prop:=
 (env.kindOf x=some .local/\m x=some u)\/((env.kindOf x=some .cell\/env.kindOf x=some .free)/\∃c,env.cells.lookup x=some c/\h.IsCell c (some u))
structure Cx.Ok(X:Cx):Prop where
 mod:Mod X.K X.mg X.base
 kind:X.env.scope.kind = .function
 glob:X.env.globals=mainGlobals
 blt:X.env.builtins=builtinsNs
 above:X.s₀.heap.objs.size<=X.env.locals
 inj:∀x y c,X.env.cells.lookup x=some c->X.env.cells.lookup y=some c->x=y
 has:∀x,(X.env.kindOf x=some .cell\/X.env.kindOf x=some .free)->∃c,X.env.cells.lookup x=some c
 cab:∀x c,X.fn x=true->X.env.cells.lookup x=some c->X.s₀.heap.objs.size<=c
 hd:X.calm=true->X.A.handled=none
 frames:X.A.frames=some X.stack
 stk:X.stack=X.outer\/(X.stack=X.env::X.outer/\X.env.frame=some X.env.locals)
 exf:∀b∈X.ex,b≠X.env.locals/\∀x c,X.env.cells.lookup x=some c->c≠b
 bs:∀b o,X.base.get? b=some o->X.s₀.heap.get? b=some o/\X.H₀ b=none
 bsz:X.base.objs.size<=X.s₀.heap.objs.size
 noex:∀b o,X.base.get? b=some o->b∉X.ex
 exfs:∀b∈X.ex,b∉X.fs
 funs:X.s₀.heap.FunFrames X.base X.outer
 frf:∀b∈X.fs,X.H₀ b=none
structure Inv(X:Cx)(pins:List (Addr×Obj))(σ:List (Option V))(H:Hp)(s:Shared):Prop where
 ok:X.Ok
 os:s.os=X.s₀.os
 bare:AllBare s.gens
 base:Un X.fs X.ex X.H₀ H X.s₀.heap s.heap
 loc:∃m,s.heap.Ns X.env.locals m/\∀(i:Nat)(x:Str)(v:V),X.N[i]? = some x->σ[i]? = some (some v)->Vis X.env.scope x->∃u,RelV v u/\ZkU X.env s.heap m x u
 cell:∀x c,X.env.cells.lookup x=some c->∃v,s.heap.IsCell c v
 free:H X.env.locals=none
 freeC:∀x c,X.env.cells.lookup x=some c->H c=none
 pin:∀p∈X.pn++pins,s.heap.get? p.1=some p.2/\H p.1=none/\p.1≠X.env.locals/\p.1∉X.fs/\∀v,p.2.data ≠ .cell v
 hok:HOk X.prog X.w H s.heap
 len:σ.length=X.N.length
section
variable{X:Cx}{pins:List (Addr×Obj)}{σ:List (Option V)}{H H':Hp}{s:Shared}{h':Heap}
theorem Cx.Ok.nofr(ok:X.Ok){b:Addr}{o:Obj}(e:X.base.get? b=some o):b∉X.fs:=λhb=>by
 have:=(ok.funs.mem hb).1;rw [e]at this;cases this
theorem Inv.bs(I:Inv X pins σ H s):∀b o,X.base.get? b=some o->s.heap.get? b=some o/\H b=none:=λb o e=>
 ⟨I.base.keep b o (I.ok.bs b o e).1 (I.ok.bs b o e).2 (I.ok.nofr e) (I.ok.noex b o e),I.base.free b o (I.ok.bs b o e).1 (I.ok.bs b o e).2 (I.ok.noex b o e)⟩
theorem Inv.bk(I:Inv X pins σ H s):∀b o,X.base.get? b=some o->s.heap.get? b=some o:=λb o e=>(I.bs b o e).1
theorem Inv.mod(I:Inv X pins σ H s):Mod X.K X.mg X.base:=I.ok.mod
theorem Inv.kIn(I:Inv X pins σ H s):X.K.In s.heap:=I.ok.mod.kin.keeps I.bk
theorem Inv.nolimit(I:Inv X pins σ H s):s.heap.NoLimit:=I.ok.mod.nolimit.keeps I.bk
theorem Inv.fr(I:Inv X pins σ H s):∃m,Fr X.base X.env.locals s.heap m:=
 let⟨m,hn,_⟩:=I.loc
 ⟨m,hn,I.bk,Nat.le_trans I.ok.bsz I.ok.above⟩
theorem Inv.lt(I:Inv X pins σ H s):X.env.locals<s.heap.objs.size:=let⟨_,hn,_⟩:=I.loc;hn.lt
theorem Inv.sz(I:Inv X pins σ H s):X.s₀.heap.objs.size<=s.heap.objs.size:=Nat.le_trans I.ok.above (Nat.le_of_lt I.lt)
theorem Inv.nofs(I:Inv X pins σ H s){a:Addr}(h:s.heap.objs.size<=a):a∉X.fs:=λhb=>by
 obtain⟨_,o,ho,_⟩:=I.ok.funs.mem hb;exact absurd (Nat.lt_of_lt_of_le (Heap.lt_size ho) (Nat.le_trans I.sz h)) (Nat.lt_irrefl _)
theorem Inv.cne(I:Inv X pins σ H s):∀x c,X.env.cells.lookup x=some c->c≠X.env.locals:=λx c e z=>by
 obtain⟨v,o,ho,hd⟩:=I.cell x c e;obtain⟨m,⟨o',es,ep,ho',hd',_⟩,_⟩:=I.loc;rw [z,ho']at ho;cases ho;rw [hd']at hd;cases hd
theorem Inv.funs(I:Inv X pins σ H s):s.heap.FunFrames X.base X.outer:=by
 have all:∀(l:List Env),(∀b∈frs l,b∈X.fs)->X.s₀.heap.FunFrames X.base l->s.heap.FunFrames X.base l:=by
  intro l
  induction l with
  |nil=>intro _ _;trivial
  |cons env r ih=>
   intro hs hl;obtain⟨hk,⟨L,o,hf,hn,ho,hd⟩,hr⟩:=hl;have hL:L∈X.fs:=hs L (by unfold frs;rw [List.filterMap_cons,hf];exact List.mem_cons_self);obtain⟨sl,e⟩:=I.base.slot L o ho (I.ok.frf L hL) hL λz=>I.ok.exfs L z hL
   exact⟨hk,⟨L,_,hf,hn,e,hd⟩,ih (λb hb=>hs b (by unfold frs;rw [List.filterMap_cons,hf];exact List.mem_cons_of_mem _ hb)) hr⟩
 exact all X.outer (λ_ hb=>hb) I.ok.funs
theorem Inv.stack(I:Inv X pins σ H s):s.heap.FunFrames X.base X.stack:=by
 rcases I.ok.stk with e|⟨e,hf⟩
 · rw [e];exact I.funs
 · rw [e]
   obtain⟨m,hn,_⟩:=I.loc;refine .cons (by rw [I.ok.kind];decide) hf hn ?_ I.funs;exact Heap.get?_none_of_le (Nat.le_trans I.ok.bsz I.ok.above)
theorem Inv.stkSub(I:Inv X pins σ H s):∀b∈frs X.stack,b∈X.env.locals::X.fs:=λb hb=>by
 rcases I.ok.stk with e|⟨e,hf⟩
 · rw [e]at hb;exact List.mem_cons_of_mem _ hb
 · rw [e]at hb
   unfold frs at hb;rw [List.filterMap_cons,hf]at hb;exact hb
theorem Inv.stkFree(I:Inv X pins σ H s):∀b∈frs X.stack,H b=none:=λb hb=>by
 rcases List.mem_cons.mp (I.stkSub b hb)with e|hb
 · rw [e];exact I.free
 · obtain⟨_,o,ho,_⟩:=I.ok.funs.mem hb
   exact I.base.free b o ho (I.ok.frf b hb) λz=>I.ok.exfs b z hb
theorem Inv.step {g':Array GenState} {t':Nat} {d':Drawn} {ch:List Addr} (I:Inv X pins σ H s)
 (hch:∀b∈ch,(b∈X.ex\/X.s₀.heap.objs.size<=b)/\b≠X.env.locals/\(∀x c,X.env.cells.lookup x=some c->c≠b)/\∀p∈X.pn++pins,p.1≠b)
 (keep:∀b o,b≠X.env.locals->b∉X.fs->b∉ch->s.heap.get? b=some o->H b=none->h'.get? b=some o)
 (slot:∀b o,b≠X.env.locals->b∈X.fs->b∉ch->s.heap.get? b=some o->H b=none->∃sl,h'.get? b=some { o with slots:=sl }) (free:∀b o,b∉ch->s.heap.get? b=some o->H b=none->H' b=none)
 (there:∀b o,b∉ch->s.heap.get? b=some o->∃o',h'.get? b=some o')
 (tups:∀b xs,H b=some (.tup xs)->H' b=some (.tup xs)) (frzs:∀b o u,H b=some (.frz o u)->H' b=some (.frz o u)) (tbls:∀b ps,H b=some (.tbl ps)->∃more,H' b=some (.tbl (ps++more)))
 (ns:∀m,s.heap.Ns X.env.locals m->h'.Ns X.env.locals m) (hok:HOk X.prog X.w H' h') (hg:AllBare g') :
 Inv X pins σ H' { s with heap:=h',gens:=g',drawn:=d',toks:=t' }:=by
 have neL:∀b o,X.s₀.heap.get? b=some o->b≠X.env.locals:=λb o e=>Nat.ne_of_lt (Nat.lt_of_lt_of_le (Heap.lt_size e) I.ok.above)
 have neC:∀b o,X.s₀.heap.get? b=some o->b∉X.ex->b∉ch:=λb o e hx hb=>by
  rcases(hch b hb).1 with z|z
  · exact hx z
  · exact absurd (Nat.lt_of_lt_of_le (Heap.lt_size e) z) (Nat.lt_irrefl _)
 have cellK:∀x c,X.env.cells.lookup x=some c->∀v,s.heap.IsCell c v->h'.IsCell c v:=λx c e v ⟨o,ho,hd⟩=>by
  have nch:c∉ch:=λz=>(hch c z).2.2.1 x c e rfl
  by_cases hc:c∈X.fs
  · obtain⟨sl,q⟩:=slot c o (I.cne x c e) hc nch ho (I.freeC x c e)
    exact⟨_,q,hd⟩
  · exact⟨o,keep c o (I.cne x c e) hc nch ho (I.freeC x c e),hd⟩
 refine⟨I.ok,I.os,hg,⟨λb o e n hb hx => ?_,λb o e n hb hx => ?_,λb o e n hx => ?_,λb o e hx => ?_,λb xs e=>tups b xs (I.base.tups b xs e),λb o xs e=>frzs b o xs (I.base.frzs b o xs e),λb ps e => ?_⟩,?_,λx c e => ?_,?_,λx c e => ?_,λp hp => ?_,hok,I.len⟩
 · exact keep b o (neL b o e) hb (neC b o e hx) (I.base.keep b o e n hb hx) (I.base.free b o e n hx)
 · obtain⟨sl,e1⟩:=I.base.slot b o e n hb hx
   obtain⟨sl',e2⟩:=slot b _ (neL b o e) hb (neC b o e hx) e1 (I.base.free b o e n hx);exact⟨sl',e2⟩
 · obtain⟨o',e1⟩:=I.base.there b o e hx
   exact free b o' (neC b o e hx) e1 (I.base.free b o e n hx)
 · obtain⟨o',e1⟩:=I.base.there b o e hx
   exact there b o' (neC b o e hx) e1
 · obtain⟨m1,e1⟩:=I.base.tbls b ps e
   obtain⟨m2,e2⟩:=tbls b _ e1;exact⟨m1++m2,by rw [e2,Array.append_assoc]⟩
 · obtain⟨m,hn,hl⟩:=I.loc
   refine⟨m,ns m hn,λi x v e1 e2 e3 => ?_⟩;obtain⟨u,r,l⟩:=hl i x v e1 e2 e3;refine⟨u,r,?_⟩;rcases l with l|⟨k,c,e,z⟩
   · exact .inl l
   · exact .inr ⟨k,c,e,cellK x c e _ z⟩
 · obtain⟨v,z⟩:=I.cell x c e
   exact⟨v,cellK x c e v z⟩
 · obtain⟨m,⟨o,_,_,ho,_⟩,_⟩:=I.loc
   exact free _ o (λz=>(hch _ z).2.1 rfl) ho I.free
 · obtain⟨v,o,ho,hd⟩:=I.cell x c e
   exact free c o (λz=>(hch c z).2.2.1 x c e rfl) ho (I.freeC x c e)
 · obtain⟨e,n,ne,nf,d⟩:=I.pin p hp
   have nch:p.1∉ch:=λz=>(hch p.1 z).2.2.2 p hp rfl
   exact⟨keep p.1 p.2 ne nf nch e n,free p.1 p.2 nch e n,ne,nf,d⟩
theorem Inv.un{t':Nat}(I:Inv X pins σ H s)(u:Un X.fs [] H H' s.heap h')(hok:HOk X.prog X.w H' h'):Inv X pins σ H' { s with heap:=h',toks:=t' }:=by
 obtain⟨m,⟨o,es,ep,ho,r⟩,_⟩:=id I.loc;obtain⟨sl,hL⟩:=u.any ho I.free (by simp)
 exact I.step (g':=s.gens) (d':=s.drawn) (ch:=[]) (λ_ z=>nomatch z) (λb o _ hb _ e n=>u.keep b o e n hb (by simp)) (λb o _ hb _ e n=>u.slot b o e n hb (by simp)) (λb o _ e n=>u.free b o e n (by simp)) (λb o _ e=>u.there b o e (by simp)) u.tups u.frzs u.tbls (λm' hm=>by
  obtain⟨o',es',ep',ho',r'⟩:=hm;rw [ho]at ho';cases ho';exact⟨_,es',ep',hL,r'⟩) hok I.bare
theorem Inv.call {g':Array GenState} {t':Nat} {d':Drawn} {ch:List Addr} (I:Inv X pins σ H s) (u:Un (frs X.stack) ch H H' s.heap h') (hok:HOk X.prog X.w H' h') (hg:AllBare g')
 (hch:∀b∈ch,(b∈X.ex\/X.s₀.heap.objs.size<=b)/\b≠X.env.locals/\(∀x c,X.env.cells.lookup x=some c->c≠b)/\∀p∈X.pn++pins,p.1≠b) :
 Inv X pins σ H' { s with heap:=h',gens:=g',drawn:=d',toks:=t' }:=by
 obtain⟨m,⟨o,es,ep,ho,r⟩,_⟩:=id I.loc;obtain⟨sl,hL⟩:=u.any ho I.free λz=>(hch _ z).2.1 rfl
 exact I.step (ch:=ch) hch (λb o hL hb hc e n=>u.keep b o e n (λz=>(List.mem_cons.mp (I.stkSub b z)).elim hL hb) hc) (λb o _ _ hc e n=>u.any e n hc) (λb o hc e n=>u.free b o e n hc) (λb o hc e=>u.there b o e hc) u.tups u.frzs u.tbls (λm' hm=>by
  obtain⟨o',es',ep',ho',r'⟩:=hm;rw [ho]at ho';cases ho';exact⟨_,es',ep',hL,r'⟩) hok hg
theorem Inv.turned {t':Nat} {it:Addr} (I:Inv X pins σ H s) (k:∀b o,b≠it->s.heap.get? b=some o->h'.get? b=some o) (hn:H it=none) (hL:it≠X.env.locals)
 (h1:it∈X.ex\/X.s₀.heap.objs.size<=it) (h2:∀x c,X.env.cells.lookup x=some c->c≠it) (h3:∀p∈X.pn++pins,p.1≠it):Inv X pins σ H { s with heap:=h',toks:=t' }:=by
 have nit:∀b u,H b=some u->b≠it:=λb u e z=>by rw [z,hn]at e;cases e
 refine I.step (g':=s.gens) (d':=s.drawn) (ch:=[it]) (λb hb => ?_) (λb o _ _ hc e _=>k b o (λz=>hc (by simp [z])) e) (λb o _ _ hc e _=>⟨o.slots,k b o (λz=>hc (by simp [z])) e⟩) (λ_ _ _ _ n=>n)
  (λb o hc e=>⟨o,k b o (λz=>hc (by simp [z])) e⟩) (λ_ _ e=>e) (λ_ _ _ e=>e) (λb ps e=>⟨#[],by rw [e];simp⟩) (λm hm => ?_) (λb u e => ?_) I.bare
 · have e:b=it:=by simpa using hb
   subst e;exact⟨h1,hL,h2,h3⟩
 · obtain⟨o,es,ep,ho,r⟩:=hm
   exact⟨o,es,ep,k _ o (Ne.symm hL) ho,r⟩
 · refine(I.hok b u e).stay (λc v hc q=>k c v ?_ q) (λ_ q=>q) λ_ _ q=>q
   rcases hc with z|z
   · rw [z];exact nit b u e
   · exact nit c _ z
theorem Inv.tok(I:Inv X pins σ H s)(t:Nat):Inv X pins σ H { s with toks:=t }:=I.un (h':=s.heap) (t':=t) Un.refl I.hok
theorem Inv.kept{t':Nat}(I:Inv X pins σ H s)(k:∀b u,s.heap.get? b=some u->h'.get? b=some u):Inv X pins σ H { s with heap:=h',toks:=t' }:=I.un (Un.kept k) (I.hok.kept k)
theorem Inv.laid{a:Addr}{o:HO}{t':Nat}(I:Inv X pins σ H s)(k:∀b u,s.heap.get? b=some u->h'.get? b=some u)(hp:s.heap.objs.size<=a)(new:ObjOk X.prog X.w (upd H a o) h' a o) :
 Inv X pins σ (upd H a o) { s with heap:=h',toks:=t' }:=I.un (Un.laid k hp (I.hok.fresh hp)) (I.hok.laid k hp new)
theorem Inv.write {x e:Addr} {o:HO} {t':Nat} (I:Inv X pins σ H s) (mu:Mut (H x)) (he:e=x\/H e=some (.own x)) (k:∀b u,b≠e->s.heap.get? b=some u->h'.get? b=some u) (heo:∃u,h'.get? e=some u)
 (new:ObjOk X.prog X.w (upd H x o) h' x o):Inv X pins σ (upd H x o) { s with heap:=h',toks:=t' }:=I.un (Un.write mu he k heo) (I.hok.write mu he k heo new)
theorem Inv.pins_of{pins':List (Addr×Obj)}(I:Inv X pins σ H s)(h:∀p∈pins',s.heap.get? p.1=some p.2/\H p.1=none/\p.1≠X.env.locals/\p.1∉X.fs/\∀v,p.2.data ≠ .cell v):Inv X pins' σ H s:=
 ⟨I.ok,I.os,I.bare,I.base,I.loc,I.cell,I.free,I.freeC,λp hp=>(List.mem_append.mp hp).elim (λz=>I.pin p (List.mem_append_left _ z)) (h p),I.hok,I.len⟩
theorem Zbb{N:List Str}(hN:N.Nodup){i j:Nat}{x:Str}(a:N[i]? = some x)(b:N[j]? = some x):i=j:=by
 obtain⟨h1,e1⟩:=List.getElem?_eq_some_iff.mp a;obtain⟨h2,e2⟩:=List.getElem?_eq_some_iff.mp b;exact(List.getElem_inj hN).mp (e1.trans e2.symm)
theorem Zbo {M:Model} {A:Around} {E:Value->Shared->Prop} {i:Nat} {x:Str} {v:V} {u:Value} {Q:Unit->Shared->Prop} (I:Inv X pins σ H s) (hN:X.N.Nodup) (hi:X.N[i]? = some x) (hx:Loc X.env.scope x) (r:RelV v u)
 (h:∀s',Inv X pins (σ.set i (some v)) H s'->(∃a,Heap.SameBut a s.heap s'.heap/\(a=X.env.locals\/X.env.cells.lookup x=some a))->Q () s') (hf:X.fn x=true\/X.env.scope.names.lookup x=some .local:=by first|exact .inl rfl|exact .inr rfl|assumption):wpAny M A (storeName X.env x u) Q E s:=by
 obtain⟨m,hn,hl⟩:=id I.loc;have hcls:(X.env.scope.kind == .class||(X.env.scope.kind == .module&&X.env.locals != X.env.globals))=false:=by rw [I.ok.kind];rfl
 have hiσ:i<σ.length:=by rw [I.len];exact(List.getElem?_eq_some_iff.mp hi).1
 have cne:=I.cne
 have tracked:∀{a:Addr}{h':Heap},(∃o,s.heap.get? a=some o/\H a=none)->Heap.SameBut a s.heap h'->HOk X.prog X.w H h':=λ{a h'} ha hs b ob e=>by
  obtain⟨_,_,hfree⟩:=ha;refine(I.hok b ob e).stay (λc w' hc q=>(hs.2 c ?_).trans q) (λ_ q=>q) λ_ _ q=>q
  rintro rfl
  rcases hc with rfl|hc
  · rw [hfree]at e;cases e
  · rw [hfree]at hc;cases hc
 rcases hx with hk|hk
 · refine wpAny_storeName_local hk hn (λh' hn' hs => ?_) hcls
   obtain⟨oL,_,_,hoL,_⟩:=id hn;refine h _ ⟨I.ok,I.os,I.bare,⟨λb o e n hb hx => ?_,λb o e n hb hx => ?_,I.base.free,λb o e hx => ?_,I.base.tups,I.base.frzs,I.base.tbls⟩,⟨_,hn',λj y v' e1 e2 e3 => ?_⟩,λy c e => ?_,I.free,I.freeC,λp hp => ?_,tracked ⟨oL,hoL,I.free⟩ hs,by simpa using I.len⟩ ⟨_,hs,.inl rfl⟩
   · exact(hs.2 b (Nat.ne_of_lt (Nat.lt_of_lt_of_le (Heap.lt_size e) I.ok.above))).trans (I.base.keep b o e n hb hx)
   · obtain⟨sl,e1⟩:=I.base.slot b o e n hb hx
     exact⟨sl,(hs.2 b (Nat.ne_of_lt (Nat.lt_of_lt_of_le (Heap.lt_size e) I.ok.above))).trans e1⟩
   · obtain⟨o',e1⟩:=I.base.there b o e hx
     exact⟨o',(hs.2 b (Nat.ne_of_lt (Nat.lt_of_lt_of_le (Heap.lt_size e) I.ok.above))).trans e1⟩
   · by_cases hj:j=i
     · subst hj
       rw [hi]at e1;cases e1;rw [List.getElem?_set_self hiσ]at e2;cases e2;exact⟨u,r,.inl ⟨hk,by simp⟩⟩
     · rw [List.getElem?_set_ne (Ne.symm hj)]at e2
       obtain⟨u',r',q⟩:=hl j y v' e1 e2 e3;refine⟨u',r',?_⟩;rcases q with⟨k,e⟩|⟨k,c,e,z⟩
       · refine .inl ⟨k,?_⟩
         have:y≠x:=λe=>hj (Zbb hN e1 (e▸hi))
         simp [this,e]
       · exact .inr ⟨k,c,e,z.sameBut hs (cne y c e)⟩
   · obtain⟨w',z⟩:=I.cell y c e
     exact⟨w',z.sameBut hs (cne y c e)⟩
   · obtain⟨e,n,ne,nf,d⟩:=I.pin p hp
     exact⟨(hs.2 p.1 ne).trans e,n,ne,nf,d⟩
 · have hfn : X.fn x = true := by
    rcases hf with z|z
    · exact z
    · rw [z]at hk;cases hk
   obtain⟨c,hc⟩:=I.ok.has x (.inl hk);obtain⟨w',z⟩:=I.cell x c hc;refine wpAny_storeName_cell I.ok.kind hk hc z (λh' hc' hs => ?_);obtain⟨oc,hoc,hocd⟩:=id z;refine h { s with heap:=h' } ⟨I.ok,I.os,I.bare,⟨λb o e n hb hx => ?_,λb o e n hb hx => ?_,I.base.free,λb o e hx => ?_,I.base.tups,I.base.frzs,I.base.tbls⟩,⟨m,hn.sameBut hs (Ne.symm (cne x c hc)),λj y v' e1 e2 e3 => ?_⟩,λy c' e => ?_,I.free,I.freeC,λp hp => ?_,tracked ⟨oc,hoc,I.freeC x c hc⟩ hs,by simpa using I.len⟩ ⟨c,hs,.inr hc⟩
   · exact(hs.2 b (Nat.ne_of_lt (Nat.lt_of_lt_of_le (Heap.lt_size e) (I.ok.cab x c hfn hc)))).trans (I.base.keep b o e n hb hx)
   · obtain⟨sl,e1⟩:=I.base.slot b o e n hb hx
     exact⟨sl,(hs.2 b (Nat.ne_of_lt (Nat.lt_of_lt_of_le (Heap.lt_size e) (I.ok.cab x c hfn hc)))).trans e1⟩
   · obtain⟨o',e1⟩:=I.base.there b o e hx
     exact⟨o',(hs.2 b (Nat.ne_of_lt (Nat.lt_of_lt_of_le (Heap.lt_size e) (I.ok.cab x c hfn hc)))).trans e1⟩
   · by_cases hj:j=i
     · subst hj
       rw [hi]at e1;cases e1;rw [List.getElem?_set_self hiσ]at e2;cases e2;exact⟨u,r,.inr ⟨.inl hk,c,hc,hc'⟩⟩
     · rw [List.getElem?_set_ne (Ne.symm hj)]at e2
       obtain⟨u',r',q⟩:=hl j y v' e1 e2 e3;refine⟨u',r',?_⟩;rcases q with q|⟨k,c',e,z'⟩
       · exact .inl q
       · refine .inr ⟨k,c',e,z'.sameBut hs ?_⟩
         rintro rfl
         exact hj (Zbb hN e1 (I.ok.inj _ _ _ e hc▸hi))
   · by_cases hcc:c'=c
     · subst hcc;exact⟨_,hc'⟩
     · obtain⟨w2,z2⟩:=I.cell y c' e
       exact⟨w2,z2.sameBut hs hcc⟩
   · obtain⟨e,n,ne,nf,d⟩:=I.pin p hp
     refine⟨(hs.2 p.1 ?_).trans e,n,ne,nf,d⟩;intro q;rw [q,hoc]at e;have q':oc=p.2:=Option.some.inj e;exact d w' (by rw [<-q'];exact hocd)
theorem Jx {M:Model} {A:Around} {E:Value->Shared->Prop} {i:Nat} {x:Str} {v:V} {u:Value} {Q:Unit->Shared->Prop} (I:Inv X pins σ H s) (hN:X.N.Nodup) (hi:X.N[i]? = some x) (hx:Loc X.env.scope x) (r:RelV v u)
 (h:∀s',Inv X pins (σ.set i (some v)) H s'->Q () s') (hf:X.fn x=true\/X.env.scope.names.lookup x=some .local:=by first|exact .inl rfl|exact .inr rfl|assumption):wpAny M A (storeName X.env x u) Q E s:=
 Zbo I hN hi hx r (λs' I' _=>h s' I') hf
theorem Inv.call' {s':Shared} {ch:List Addr} (I:Inv X pins σ H s) (ho:s'.os=s.os) (u:Un (frs X.stack) ch H H' s.heap s'.heap) (hok:HOk X.prog X.w H' s'.heap) (hg:AllBare s'.gens)
 (hch:∀b∈ch,(b∈X.ex\/X.s₀.heap.objs.size<=b)/\b≠X.env.locals/\(∀x c,X.env.cells.lookup x=some c->c≠b)/\∀p∈X.pn++pins,p.1≠b):Inv X pins σ H' s':=by
 obtain⟨h',g',d',t',o'⟩:=s';have e:o'=s.os:=ho;subst e;exact I.call (g':=g') (t':=t') (d':=d') u hok hg hch
end
abbrev XK:=Value->Option Addr->Hp->Prop
abbrev St:=List (Option V)
abbrev VK:=V->Hp->Prop
abbrev TE:=St->Hp->VK->Prop
abbrev TT:=St->Hp->(Bool->Hp->Prop)->Prop
abbrev TA:=St->Hp->(List V->Hp->Prop)->Prop
structure Ends where
 nx:St->Hp->Prop
 rt:VK
 bk:St->Hp->Prop:=λ_ _=>False
 ct:St->Hp->Prop:=λ_ _=>False
abbrev TS:=Ends->St->Hp->Prop
def EP(X:Cx)(pins:List (Addr×Obj))(σ:St)(Q:VK)(u:Value)(s':Shared):Prop:=∃v H',Inv X pins σ H' s'/\RelV v u/\Q v H'
def TP(X:Cx)(pins:List (Addr×Obj))(σ:St)(Q:Bool->Hp->Prop)(b:Bool)(s':Shared):Prop:=∃H',Inv X pins σ H' s'/\Q b H'
def AP(X:Cx)(pins:List (Addr×Obj))(σ:St)(Q:List V->Hp->Prop)(us:List Value)(s':Shared):Prop:=∃vs H',Inv X pins σ H' s'/\Vals vs us/\Q vs H'
def SP(X:Cx)(pins:List (Addr×Obj))(D:Ends)(f:Flow)(s':Shared):Prop:=
 match f with
 | .next=>∃σ' H',Inv X pins σ' H' s'/\D.nx σ' H'
 | .brk=>∃σ' H',Inv X pins σ' H' s'/\D.bk σ' H'
 | .cont=>∃σ' H',Inv X pins σ' H' s'/\D.ct σ' H'
 | .ret u=>∃v σ' H',Inv X pins σ' H' s'/\RelV v u/\D.rt v H'
def PE(X:Cx)(e:Expr)(t:TE):Prop:=
 ∀(pins:List (Addr×Obj))(s:Shared)(σ:St)(H:Hp)(Q:VK),Inv X pins σ H s->t σ H Q->wpAny (model X.prog X.w) X.A (eval e X.env) (EP X pins σ Q) X.xe s
def PT(X:Cx)(e:Expr)(t:TT):Prop:=
 ∀(pins:List (Addr×Obj))(s:Shared)(σ:St)(H:Hp)(Q:Bool->Hp->Prop),Inv X pins σ H s->t σ H Q->wpAny (model X.prog X.w) X.A (isTrue e X.env (eval e X.env)) (TP X pins σ Q) X.xe s
def PW(X:Cx)(e:Expr)(t:TT):Prop:=
 ∀(whole:Sem Value)(pins:List (Addr×Obj))(s:Shared)(σ:St)(H:Hp)(Q:Bool->Hp->Prop),Inv X pins σ H s->t σ H Q->wpAny (model X.prog X.w) X.A (isTrue e X.env whole) (TP X pins σ Q) X.xe s
theorem PW.pt{X:Cx}{e:Expr}{t:TT}(h:PW X e t):PT X e t:=h _
def PA(X:Cx)(es:List Expr)(t:TA):Prop:=
 ∀(pos:Pos)(pins:List (Addr×Obj))(s:Shared)(σ:St)(H:Hp)(Q:List V->Hp->Prop),Inv X pins σ H s->t σ H Q->wpAny (model X.prog X.w) X.A (spliced (backTo pos (starEach es X.env))) (AP X pins σ Q) X.xe s
def PS(X:Cx)(st:Stmt)(t:TS):Prop:=
 ∀(pins:List (Addr×Obj))(s:Shared)(σ:St)(H:Hp)(D:Ends),Inv X pins σ H s->t D σ H->wpAny (model X.prog X.w) X.A (exec st X.env) (SP X pins D) X.xe s
def PSs(X:Cx)(st:List Stmt)(t:TS):Prop:=
 ∀(pins:List (Addr×Obj))(s:Shared)(σ:St)(H:Hp)(D:Ends),Inv X pins σ H s->t D σ H->wpAny (model X.prog X.w) X.A (execs st X.env) (SP X pins D) X.xe s
theorem thn{α:Type}{t:Sem α}{Q Q':α->Shared->Prop}{M:Model}{A:Around}{E:Value->Shared->Prop}{s:Shared}(h:wpAny M A t Q E s)(hQ:∀a s,Q a s->Q' a s):wpAny M A t Q' E s:=wpAny_mono h hQ λ_ _ x=>x
end L2
namespace L2
open PySem PySem.Spec PyProof.Rows
section
variable{X:Cx}
def XJ(i:Nat):TE:=λσ H Q=>∃v,σ[i]? = some (some v)/\Q v H
def tC(v:V):TE:=λ_ H Q=>Q v H
theorem ZhI {i:Nat} {x:Str} {pos:Pos} (hN:X.N[i]? = some x) (hv:Vis X.env.scope x) (hd:(x == ("__debug__" : Str))=false:=by decide) (hcd:(x == ("__classdict__" : Str))=false:=by decide):PE X (.Name x pos) (XJ i):=by
 intro pins s σ H Q I h;obtain⟨v,e,h⟩:=h;obtain⟨m,hn,hl⟩:=I.loc;obtain⟨u,r,l⟩:=hl i x v hN e hv;have fin:EP X pins σ Q u s:=⟨v,H,I,r,h⟩
 rcases l with⟨hk,hm⟩|⟨hk,c,hc,hcell⟩
 · exact wpAny_Name (wpAny_loadName_local I.ok.kind hk hn hm fin) hd
 · rcases hk with hk|hk
   · exact wpAny_Name (wpAny_loadName_cell I.ok.kind hk hc hcell fin) hd
   · exact wpAny_Name (wpAny_loadName_free I.ok.kind hk hc hcell fin hcd) hd
theorem Zh{i j pos}:PE X (.Constant (.int i) j pos) (tC (.int i)):=λ_ _ _ H _ I h=>wpAny_Constant_int ⟨.int i,H,I.tok _,⟨_,rfl⟩,h⟩
theorem X3{b j pos}:PE X (.Constant (.bool b) j pos) (tC (.bl b)):=λ_ _ _ H _ I h=>Constant_bool ⟨.bl b,H,I,rfl,h⟩
theorem ZfD{j pos}:PE X (.Constant .none j pos) (tC .non):=λ_ _ _ H _ I h=>Constant_none ⟨.non,H,I,rfl,h⟩
theorem ZhJ{x j pos}:PE X (.Constant (.str x) j pos) (tC (.str x)):=λ_ _ _ H _ I h=>Calls.Constant_str ⟨.str x,H,I.tok _,⟨_,rfl⟩,h⟩
def Gl(X:Cx)(x:Str):Prop:=X.env.kindOf x=some .globalImplicit
theorem Vg {E:Value->Shared->Prop} {pins:List (Addr×Obj)} {s:Shared} {σ:St} {H:Hp} {x:Str} {u:Value} {pos:Pos} {Q:Value->Shared->Prop} (I:Inv X pins σ H s) (hg:Gl X x) (hm:X.mg x=some u) (h:Q u s)
 (hd:(x == ("__debug__" : Str))=false:=by decide):wpAny (model X.prog X.w) X.A (eval (.Name x pos) X.env) Q E s:=
 Calls.Name_function_global I.ok.kind hg (Calls.loadGlobal_global (by rw [I.ok.glob];exact I.mod.glob.keeps I.bk) hm h) hd
theorem V3 {E:Value->Shared->Prop} {pins:List (Addr×Obj)} {s:Shared} {σ:St} {H:Hp} {x:Str} {u:Value} {pos:Pos} {Q:Value->Shared->Prop} (I:Inv X pins σ H s) (hg:Gl X x) (hm:X.mg x=none) (hv:bootBuiltins x=some u) (h:Q u s)
 (hn:x ≠ "__name__" := by decide) (hd:(x == ("__debug__" : Str))=false:=by decide):wpAny (model X.prog X.w) X.A (eval (.Name x pos) X.env) Q E s:=by
 obtain⟨mb,h1,h2⟩:=I.mod.blt;exact Calls.Name_function_global I.ok.kind hg (Calls.loadGlobal_builtin (by rw [I.ok.glob];exact I.mod.glob.keeps I.bk) hm (by rw [I.ok.blt];exact h1.keeps I.bk) ((h2 x hn).trans hv) h) hd
theorem Xb {x:Str} {v:V} {u:Value} {pos:Pos} (hg:Gl X x) (hm:X.mg x=some u) (r:RelV v u) (hd:(x == ("__debug__" : Str))=false:=by decide):PE X (.Name x pos) (tC v):=
 λ_ _ _ H _ I h=>Vg I hg hm ⟨v,H,I,r,h⟩ hd
theorem QI {x:Str} {v:V} {u:Value} {pos:Pos} (hg:Gl X x) (hm:X.mg x=none) (hv:bootBuiltins x=some u) (r:RelV v u) (hn:x ≠ "__name__" := by decide) (hd:(x == ("__debug__" : Str))=false:=by decide):PE X (.Name x pos) (tC v):=
 λ_ _ _ H _ I h=>V3 I hg hm hv ⟨v,H,I,r,h⟩ hn hd
variable{a b:Expr}{ta tb:TE}{pos:Pos}
def PC(X:Cx)(op:CmpOp)(a b:Expr)(t:TE):Prop:=
 ∀(pins:List (Addr×Obj))(s:Shared)(σ:St)(H:Hp)(Q:VK),Inv X pins σ H s->t σ H Q ->
  wpAny (model X.prog X.w) X.A (eval a X.env) (λv s₁=>wpAny (model X.prog X.w) X.A (eval b X.env) (λu s₂=>wpAny (model X.prog X.w) X.A (compareOp op v u) (EP X pins σ Q) X.xe s₂) X.xe s₁) X.xe s
theorem ZeF(b:Expr){op:CmpOp}(h:op ≠ .In)(h2:op ≠ .NotIn):behindInMarks op b=false:=by
 have e1:(op == CmpOp.In)=false:=by cases op<;>first|rfl|exact absurd rfl h
 have e2:(op == CmpOp.NotIn)=false:=by cases op<;>first|rfl|exact absurd rfl h2
 cases b<;>simp [behindInMarks,e1,e2]
def ZkV(ta:TE):TE:=λσ H Q=>ta σ H λx H1=>Q (.bl (decide (x = .non))) H1
theorem RelV.none_iff{x:V}{v:Value}(r:RelV x v):(v == Value.none)=decide (x = .non):=by
 cases x with
 |non=>cases r;rfl
 |bl _=>cases r;rfl
 |int _=>obtain⟨t,rfl⟩:=r;rfl
 |str _=>obtain⟨t,rfl⟩:=r;rfl
 |byt _=>obtain⟨t,rfl⟩:=r;rfl
 |flt _=>obtain⟨t,rfl⟩:=r;rfl
 |ref _=>cases r;rfl
 |ty _=>cases r;rfl
theorem ZfE{j pos'}(ha:PE X a ta):PC X .Is a (.Constant .none j pos') (ZkV ta):=by
 intro pins s σ H Q I h;refine thn (ha pins s σ H _ I h) λv s1 ⟨x,H1,I1,r1,q1⟩ => ?_
 exact Constant_none (is_none_gen ⟨.bl _,H1,I1,by rw [r1.none_iff];rfl,q1⟩)
def tB(t:TE):TT:=λσ H Q=>t σ H λx H1=>∃c,x = .bl c/\Q c H1
theorem ZfF{op:CmpOp}{t:TE}(h:PC X op a b t)(h1:behindInMarks op b=false:=by first|exact ZeF _ (by decide) (by decide)|rfl):PE X (.Compare a [op] [b] pos) t:=λpins s σ H Q I hw=>wpAny_Compare1 (h pins s σ H Q I hw) h1
theorem V4{e:Expr}{t:TE}(h:PE X e t)(he:∀whole,isTrue e X.env whole=(do let v <-whole;standAt e.pos;holding [v] (truthy v)):=by intro _;rfl):PT X e (tB t):=by
 intro pins s σ H Q I hw;refine isTrue_plain (thn (h pins s σ H _ I hw) λv s1 ⟨x,H1,I1,r1,q1⟩ => ?_) (he _);obtain⟨d,rfl,q⟩:=q1;cases r1;exact wpAny_truthy_bool ⟨H1,I1,q⟩
variable{tA tB':TT}{rest:List Expr}
def ZkW(t u:TT):TT:=λσ H Q=>t σ H λc H1=>if c=true then u σ H1 Q else Q false H1
def tOr(t u:TT):TT:=λσ H Q=>t σ H λc H1=>if c=true then Q true H1 else u σ H1 Q
def ZkX(t:TT):TT:=λσ H Q=>t σ H λc H1=>Q (!c) H1
theorem Zgm(ha:PT X a tA):PW X (.BoolOp .And [a] pos) tA:=by
 intro wh pins s σ H Q I h;refine isTrue_and (thn (ha pins s σ H Q I h) λc s1 e => ?_);cases c with
 |true=>exact isTrue_and_nil e
 |false=>exact e
theorem Zc5(ha:PT X a tA):PW X (.BoolOp .Or [a] pos) tA:=by
 intro wh pins s σ H Q I h;refine isTrue_or (thn (ha pins s σ H Q I h) λc s1 e => ?_);cases c with
 |false=>exact isTrue_or_nil e
 |true=>exact e
theorem ZhK(ha:PT X a tA)(hb:PW X (.BoolOp .And (b::rest) pos) tB'):PW X (.BoolOp .And (a::b::rest) pos) (ZkW tA tB'):=by
 intro wh pins s σ H Q I h;refine isTrue_and (thn (ha pins s σ H _ I h) λc s1 ⟨H1,I1,q1⟩ => ?_);cases c with
 |true=>exact hb wh pins s1 σ H1 Q I1 q1
 |false=>exact⟨H1,I1,q1⟩
theorem Jy(ha:PT X a tA)(hb:PW X (.BoolOp .Or (b::rest) pos) tB'):PW X (.BoolOp .Or (a::b::rest) pos) (tOr tA tB'):=by
 intro wh pins s σ H Q I h;refine isTrue_or (thn (ha pins s σ H _ I h) λc s1 ⟨H1,I1,q1⟩ => ?_);cases c with
 |true=>exact⟨H1,I1,q1⟩
 |false=>exact hb wh pins s1 σ H1 Q I1 q1
theorem Uu(ha:PT X a tA):PT X (.UnaryOp .Not a pos) (ZkX tA):=by
 intro pins s σ H Q I h;exact isTrue_not (ha pins s σ H (λc H1=>Q (!c) H1) I h)
def Zha(ta tb:TE):TE:=λσ H Q=>ta σ H λx H1=>∃c,x = .bl c/\if c=true then tb σ H1 Q else Q (.bl false) H1
def ZkY(ta tb:TE):TE:=λσ H Q=>ta σ H λx H1=>∃c,x = .bl c/\if c=true then Q (.bl true) H1 else tb σ H1 Q
def Zhb(ta:TE):TE:=λσ H Q=>ta σ H λx H1=>∃c,x = .bl c/\Q (.bl (!c)) H1
theorem U4{op}{t:TE}(h:PE X a t):PE X (.BoolOp op [a] pos) t:=λpins s σ H Q I hw=>BoolOp_one (h pins s σ H Q I hw)
theorem U5(ha:PE X a ta)(hb:PE X (.BoolOp .And (b::rest) pos) tb):PE X (.BoolOp .And (a::b::rest) pos) (Zha ta tb):=by
 intro pins s σ H Q I h;refine BoolOp_and (thn (ha pins s σ H _ I h) λv s1 ⟨x,H1,I1,r1,q1⟩ => ?_);obtain⟨c,rfl,q1⟩:=q1;cases r1;refine wpAny_truthy_bool ?_;cases c with
 |true=>exact hb pins s1 σ H1 Q I1 q1
 |false=>exact⟨.bl false,H1,I1,rfl,q1⟩
theorem ZjF(ha:PE X a ta)(hb:PE X (.BoolOp .Or (b::rest) pos) tb):PE X (.BoolOp .Or (a::b::rest) pos) (ZkY ta tb):=by
 intro pins s σ H Q I h;refine BoolOp_or (thn (ha pins s σ H _ I h) λv s1 ⟨x,H1,I1,r1,q1⟩ => ?_);obtain⟨c,rfl,q1⟩:=q1;cases r1;refine wpAny_truthy_bool ?_;cases c with
 |false=>exact hb pins s1 σ H1 Q I1 q1
 |true=>exact⟨.bl true,H1,I1,rfl,q1⟩
theorem ZhL(ha:PE X a ta):PE X (.UnaryOp .Not a pos) (Zhb ta):=by
 intro pins s σ H Q I h;refine UnaryOp_ (thn (ha pins s σ H _ I h) λv s1 ⟨x,H1,I1,r1,q1⟩ => ?_);obtain⟨c,rfl,q1⟩:=q1;cases r1;exact not_of (wpAny_truthy_bool ⟨.bl (!c),H1,I1,rfl,q1⟩)
end
end L2
namespace L2
open PySem PySem.Spec PyProof.Rows
def SqL(K:PySem.W.Frag)(H:Hp)(a:Addr)(xs:List V):Prop:=
 Rd H a (.lst xs) \/
  ∃(o:Obj) (its:Array Value) (n:Nat),K.lookup a=some o/\o.cls = .type "list" /\ o.dict=none/\o.data = .seq its n/\its.size<=sizeLine/\Vals xs its.toList
def SqT(K:PySem.W.Frag)(H:Hp)(a:Addr)(xs:List V):Prop:=
 Rd H a (.tup xs) \/
  ∃(o:Obj) (its:Array Value) (n:Nat),K.lookup a=some o/\o.cls = .type "tuple" /\ o.data = .seq its n/\its.size<=sizeLine/\Vals xs its.toList
def Zlk:Value->Option V
 | .none=>some .non
 | .bool b=>some (.bl b)
 | .int i _=>some (.int i)
 | .str x _=>some (.str x)
 | .bytes b _=>some (.byt b)
 | .float b _=>some (.flt b)
 | .ref a=>some (.ref a)
 | .type n=>some (.ty n)
 |_=>none
theorem RelV.abs{x:V}{u:Value}(r:RelV x u):Zlk u=some x:=by
 cases x with
 |non=>cases r;rfl
 |bl _=>cases r;rfl
 |int _=>obtain⟨t,rfl⟩:=r;rfl
 |str _=>obtain⟨t,rfl⟩:=r;rfl
 |byt _=>obtain⟨t,rfl⟩:=r;rfl
 |flt _=>obtain⟨t,rfl⟩:=r;rfl
 |ref _=>cases r;rfl
 |ty _=>cases r;rfl
theorem RelV.inj{x y:V}{u:Value}(r:RelV x u)(q:RelV y u):x=y:=Option.some.inj (r.abs.symm.trans q.abs)
theorem Vals.inj:∀{xs ys:List V}{us:List Value},Vals xs us->Vals ys us->xs=ys
 |_,_,_,.nil,.nil=>rfl
 |_,_,_,.cons r t,.cons r' t'=>by rw [r.inj r',Vals.inj t t']
section
variable{X:Cx}{pins:List (Addr×Obj)}{σ:St}{H:Hp}{s:Shared}{a:Addr}{xs ys:List V}
theorem SqL.of{K:PySem.W.Frag}(h:H a=some (.lst xs)):SqL K H a xs := .inl (.inl h)
theorem SqT.of{K:PySem.W.Frag}(h:H a=some (.tup xs)):SqT K H a xs := .inl (.inl h)
theorem Inv.list(I:Inv X pins σ H s)(h:SqL X.K H a xs):∃its:List Value,Vals xs its/\PlainL s.heap a its.toArray/\xs.length<=sizeLine:=by
 rcases h with h|⟨o,its,n,hk,hc,hd,hs,hz,r⟩
 · obtain⟨z,its,n,r,e⟩:=h.ok I.hok
   exact⟨its,r,⟨_,n,e,rfl,rfl,rfl⟩,z⟩
 · refine⟨its.toList,r,⟨o,n,I.kIn a o hk,hc,hd,by simpa using hs⟩,?_⟩
   have e:=r.length;simp only [Array.length_toList]at e;omega
theorem Inv.tuple(I:Inv X pins σ H s)(h:SqT X.K H a xs):∃its:List Value,Vals xs its/\IsTup s.heap a its.toArray/\xs.length<=sizeLine:=by
 rcases h with h|⟨o,its,n,hk,hc,hs,hz,r⟩
 · obtain⟨z,its,r,p⟩:=h.ok I.hok
   exact⟨its,r,p.tup,z⟩
 · refine⟨its.toList,r,⟨o,I.kIn a o hk,hc,n,by simpa using hs⟩,?_⟩
   have e:=r.length;simp only [Array.length_toList]at e;omega
theorem Inv.list_inj(I:Inv X pins σ H s)(h:SqL X.K H a xs)(h':SqL X.K H a ys):xs=ys:=by
 obtain⟨its,r,⟨o,n,e,_,_,d⟩,_⟩:=I.list h;obtain⟨its',r',⟨o',n',e',_,_,d'⟩,_⟩:=I.list h';rw [e]at e';cases e';rw [d]at d';injection d' with d1 _
 have:its=its':=by simpa using congrArg Array.toList d1
 subst this;exact r.inj r'
theorem Inv.tuple_inj(I:Inv X pins σ H s)(h:SqT X.K H a xs)(h':SqT X.K H a ys):xs=ys:=by
 obtain⟨its,r,⟨o,e,_,n,d⟩,_⟩:=I.tuple h;obtain⟨its',r',⟨o',e',_,n',d'⟩,_⟩:=I.tuple h';rw [e]at e';cases e';rw [d]at d';injection d' with d1 _
 have:its=its':=by simpa using congrArg Array.toList d1
 subst this;exact r.inj r'
end
abbrev Cx.wish(X:Cx)(E:Value->Shared->Prop):Cx:={ X with xe:=E }
abbrev Cx.nox(X:Cx):Cx:=X.wish λ_ _=>False
theorem Cx.Ok.wish{X:Cx}(ok:X.Ok)(E:Value->Shared->Prop):(X.wish E).Ok:=
 ⟨ok.mod,ok.kind,ok.glob,ok.blt,ok.above,ok.inj,ok.has,ok.cab,ok.hd,ok.frames,ok.stk,ok.exf,ok.bs,ok.bsz,ok.noex,ok.exfs,ok.funs,ok.frf⟩
theorem Cx.Ok.unwish{X:Cx}{E:Value->Shared->Prop}(ok:(X.wish E).Ok):X.Ok:=
 ⟨ok.mod,ok.kind,ok.glob,ok.blt,ok.above,ok.inj,ok.has,ok.cab,ok.hd,ok.frames,ok.stk,ok.exf,ok.bs,ok.bsz,ok.noex,ok.exfs,ok.funs,ok.frf⟩
section
variable{X:Cx}{pins:List (Addr×Obj)}{σ:St}{H:Hp}{s:Shared}{E:Value->Shared->Prop}
theorem Inv.wish(I:Inv X pins σ H s)(E:Value->Shared->Prop):Inv (X.wish E) pins σ H s:=⟨I.ok.wish E,I.os,I.bare,I.base,I.loc,I.cell,I.free,I.freeC,I.pin,I.hok,I.len⟩
theorem Inv.unwish(I:Inv (X.wish E) pins σ H s):Inv X pins σ H s:=⟨I.ok.unwish,I.os,I.bare,I.base,I.loc,I.cell,I.free,I.freeC,I.pin,I.hok,I.len⟩
theorem SP.unwish{D:Ends}{f:Flow}{s':Shared}(h:SP (X.wish E) pins D f s'):SP X pins D f s':=by
 cases f with
 |next=>obtain⟨σ',H',I,q⟩:=h;exact⟨σ',H',I.unwish,q⟩
 |brk=>obtain⟨σ',H',I,q⟩:=h;exact⟨σ',H',I.unwish,q⟩
 |cont=>obtain⟨σ',H',I,q⟩:=h;exact⟨σ',H',I.unwish,q⟩
 |ret u=>obtain⟨v,σ',H',I,r,q⟩:=h;exact⟨v,σ',H',I.unwish,r,q⟩
theorem PSs.nox{st:List Stmt}{t:TS}(h:PSs X.nox st t):PSs X st t:=λpins s σ H D I hw=>
 wpAny_mono (h pins s σ H D (I.wish _) hw) (λ_ _ q=>q.unwish) λ_ _ z=>False.elim z
end
section
variable{X:Cx}{st:Stmt}{rest:List Stmt}{t u:TS}{e:Expr}{te:TE}{pos:Pos}
def tNext:TS:=λD σ H=>D.nx σ H
def Uv(t u:TS):TS:=λD σ H=>t { D with nx:=u D } σ H
theorem Ye:PSs X [] tNext:=λ_ _ σ H _ I h=>wpAny_execs_nil ⟨σ,H,I,h⟩
theorem Zo(h1:PS X st t)(h2:PSs X rest u):PSs X (st::rest) (Uv t u):=by
 intro pins s σ H D I h;refine wpAny_execs_cons (thn (h1 pins s σ H { D with nx:=u D } I h) λf s1 q => ?_);cases f with
 |next=>
  obtain⟨σ',H',I',q⟩:=q;exact h2 pins s1 σ' H' D I' q
 |ret v=>exact q
 |brk=>exact q
 |cont=>exact q
theorem Zx(h1:PS X st t):PSs X [st] t:=by
 intro pins s σ H D I h;refine wpAny_execs_cons (thn (h1 pins s σ H D I h) λf s1 q => ?_);cases f with
 |next=>exact wpAny_execs_nil q
 |ret v=>exact q
 |brk=>exact q
 |cont=>exact q
theorem Inv.quiet{pins:List (Addr×Obj)}{σ:St}{H:Hp}{s:Shared}(I:Inv X pins σ H s):interactive X.env=false:=by simp [interactive,I.ok.kind]
def VB(te:TE):TS:=λD σ H=>te σ H λ_ H1=>D.nx σ H1
theorem YV(he:PE X e te)(hs:swapsWith e none pos.line X.env=pure false:=by rfl):PS X (.Expr e pos) (VB te):=by
 intro pins s σ H D I h;exact wpAny_Expr_any (thn (he pins s σ H _ I h) λv s1 ⟨x,H1,I1,r1,q1⟩=>⟨σ,H1,I1,q1⟩) I.quiet hs
def QJ(te:TE):TS:=λD σ H=>te σ H D.rt
theorem Z0(he:PE X e te):PS X (.Return (some e) pos) (QJ te):=by
 intro pins s σ H D I h;exact wpAny_Return_some (thn (he pins s σ H _ I h) λv s1 ⟨x,H1,I1,r1,q1⟩=>⟨x,σ,H1,I1,r1,q1⟩)
def Jz(c:TT)(t u:TS):TS:=λD σ H=>c σ H λb H1=>if b=true then t D σ H1 else u D σ H1
theorem Yg{c:Expr}{a b:List Stmt}{tc:TT}(hc:PT X c tc)(ha:PSs X a t)(hb:PSs X b u):PS X (.If c a b pos) (Jz tc t u):=by
 intro pins s σ H D I h;refine wpAny_If (thn (hc pins s σ H _ I h) λd s1 ⟨H1,I1,q1⟩ => ?_);cases d with
 |true=>exact ha pins s1 σ H1 D I1 q1
 |false=>exact hb pins s1 σ H1 D I1 q1
def tNever:TS:=λ_ _ _=>False
theorem ZdZ{sts:List Stmt}:PSs X sts tNever:=λ_ _ _ _ _ _ h=>h.elim
end
abbrev TG:=V->St->Hp->(St->Hp->Prop)->Prop
abbrev TGs:=List V->St->Hp->(St->Hp->Prop)->Prop
def PG(X:Cx)(target:Expr)(t:TG):Prop:=
 ∀(pins:List (Addr×Obj))(s:Shared)(σ:St)(H:Hp)(v:V)(u:Value)(Q:St->Hp->Prop),Inv X pins σ H s->RelV v u->t v σ H Q ->
  wpAny (model X.prog X.w) X.A (assign target X.env u) (λ_ s'=>∃σ' H',Inv X pins σ' H' s'/\Q σ' H') X.xe s
def PGs(X:Cx)(ts:List Expr)(t:TGs):Prop:=
 ∀(pins:List (Addr×Obj))(s:Shared)(σ:St)(H:Hp)(vs:List V)(us:List Value)(Q:St->Hp->Prop),Inv X pins σ H s->Vals vs us->t vs σ H Q ->
  wpAny (model X.prog X.w) X.A (assignInOrder ((assignEach ts X.env).map (·.2)) us) (λ_ s'=>∃σ' H',Inv X pins σ' H' s'/\Q σ' H') X.xe s
abbrev TSet:=V->V->V->Hp->(Hp->Prop)->Prop
def ZkZ(X:Cx)(t:TSet):Prop:=
 ∀(pins:List (Addr×Obj))(s:Shared)(σ:St)(H:Hp)(o i v:V)(ov iv u:Value)(Q:Hp->Prop),Inv X pins σ H s->RelV o ov->RelV i iv->RelV v u->t o i v H Q ->
  wpAny (model X.prog X.w) X.A (setItem ov iv u) (λ_ s'=>∃H',Inv X pins σ H' s'/\Q H') X.xe s
section
variable{X:Cx}{pos:Pos}
def V5(i:Nat):TG:=λv σ H Q=>Q (σ.set i (some v)) H
theorem Xo{i:Nat}{x:Str}(hN:X.N.Nodup)(hi:X.N[i]? = some x:=by rfl)(hx:Loc X.env.scope x:=by first|exact Or.inl rfl|exact Or.inr rfl)(hf:X.fn x=true\/X.env.scope.names.lookup x=some .local:=by first|exact .inl rfl|exact .inr rfl|assumption):PG X (.Name x pos) (V5 i):=by
 intro pins s σ H v u Q I r h;exact wpAny_assign_Name (Jx I hN hi hx r (λs' I'=>⟨_,H,I',h⟩) hf)
def gNil:TGs:=λvs σ H Q=>vs=[]/\Q σ H
def Zhc(t:TG)(u:TGs):TGs:=λvs σ H Q=>∃v r,vs=v::r/\t v σ H λσ' H'=>u r σ' H' Q
theorem Zgn:PGs X [] gNil:=by
 intro pins s σ H vs us Q I r h;obtain⟨e,h⟩:=h;subst e;cases r;exact assignInOrder_nil ⟨σ,H,I,h⟩
theorem Zci {e:Expr} {es:List Expr} {t:TG} {u:TGs} (h1:PG X e t) (h2:PGs X es u)
 (hs:(assignEach (e::es) X.env).map (·.2)=assign e X.env::(assignEach es X.env).map (·.2):=by rfl):PGs X (e::es) (Zhc t u):=by
 intro pins s σ H vs us Q I r h;obtain⟨v,vr,e1,h⟩:=h;subst e1;cases r with
 |cons r rr=>
  rw [hs];refine assignInOrder_cons (thn (h1 pins s σ H _ _ _ I r h) λ_ s1 ⟨σ1,H1,I1,q1⟩ => ?_);exact h2 pins s1 σ1 H1 _ _ Q I1 rr q1
def Zi1(K:PySem.W.Frag)(n:Nat)(t:TGs):TG:=λv σ H Q=>∃a xs,v = .ref a/\SqT K H a xs/\xs.length=n/\t xs σ H Q
theorem ZhM {es:List Expr} {k:Nat} {t:TGs} {n:Nat} (hc:X.calm=true) (h:PGs X es t)
 (hn:(assignEach es X.env).length=n:=by rfl) (hst:(assignEach es X.env).findIdx? (·.1)=none:=by rfl):PG X (.Tuple es k pos) (Zi1 X.K n t):=by
 intro pins s σ H v u Q I r hw;obtain⟨a,xs,e1,hq,hl,hw⟩:=hw;subst e1;cases r;obtain⟨its,rv,ht,hz⟩:=I.tuple hq;refine assign_Tuple_tuple (I.ok.hd hc) ht (by simp [hn,<-hl,rv.length]) hst λh' hx => ?_
 have I1:Inv X pins σ H { s with heap:=h' }:=I.kept (t':=s.toks) λb o e=>hx b o (Nat.ne_of_lt (Heap.lt_size e)) e
 exact h pins _ σ H xs _ Q I1 (by simpa using rv) hw
def Zk0(to ti:TE)(t:TSet):TG:=λv σ H Q=>to σ H λo H1=>ti σ H1 λi H2=>t o i v H2 λH3=>Q σ H3
theorem ZhN {o i:Expr} {to ti:TE} {t:TSet} (ho:PE X o to) (hi:PE X i ti) (hs:ZkZ X t)
 (ha:∀v,assign (.Subscript o i pos) X.env v=(do
   let ov <-holding [v] (eval o X.env)
   let iv <-holding [v,ov] (eval i X.env)
   standAt pos
   holding [v,ov,iv] (setItem ov iv v)
   release [v,ov,iv] []):=by intro _;rfl):PG X (.Subscript o i pos) (Zk0 to ti t):=by
 intro pins s σ H v u Q I r h;rw [ha];refine wpAny_bind (wpAny_holding (thn (ho pins s σ H _ I h) λov s1 ⟨x,H1,I1,r1,q1⟩ => ?_));refine wpAny_bind (wpAny_holding (thn (hi pins s1 σ H1 _ I1 q1) λiv s2 ⟨y,H2,I2,r2,q2⟩ => ?_));refine wpAny_bind (wpAny_standAt (wpAny_bind (wpAny_holding (thn (hs pins s2 σ H2 x y v ov iv u _ I2 r1 r2 r q2) λ_ s3 ⟨H3,I3,q3⟩ => ?_))));exact wpAny_release ⟨σ,H3,I3,q3⟩
def V6(te:TE)(g:TG):TS:=λD σ H=>te σ H λx H1=>g x σ H1 D.nx
theorem ZhO {tg e:Expr} {te:TE} {g:TG} (he:PE X e te) (hg:PG X tg g) (hs:swapsWithSole [tg] e pos.line X.env=pure false:=by rfl) (hw:swappedStores [tg] e X.env=pure none:=by rfl)
 (h1:(assignEach [tg] X.env).map (·.2)=[assign tg X.env]:=by rfl):PS X (.Assign [tg] e pos) (V6 te g):=by
 intro pins s σ H D I h;refine wpAny_Assign_stores (thn (he pins s σ H _ I h) λv s1 ⟨x,H1,I1,r1,q1⟩ => ?_) hs hw;rw [h1];exact thn (hg pins s1 σ H1 x v _ I1 r1 q1) λ_ s2 q=>q
theorem ZF{i:Nat}{x:Str}{e:Expr}{te:TE}{pos':Pos}(hN:X.N.Nodup)(hi:X.N[i]? = some x)(hx:Loc X.env.scope x)(he:PE X e te)(hs:swapsWith e (some (.Name x pos')) pos.line X.env=pure false:=by rfl)(hf:X.fn x=true\/X.env.scope.names.lookup x=some .local:=by first|exact .inl rfl|exact .inr rfl|assumption) :
 PS X (.Assign [.Name x pos'] e pos) (V6 te (V5 i)):=by
 intro pins s σ H D I h;refine wpAny_Assign_Name (thn (he pins s σ H _ I h) λv s1 ⟨y,H1,I1,r1,q1⟩ => ?_) hs;exact Jx I1 hN hi hx r1 (λs2 I2=>⟨_,H1,I2,q1⟩) hf
end
section
variable{X:Cx}{pos:Pos}
end
structure It where
 go:Nat->Hp->Prop
 yld:Nat->Hp->V->Hp->Prop
 stop:Nat->Hp->Prop
def XT(X:Cx)(pins:List (Addr×Obj))(H:Hp)(b:Addr):Prop:=
 H b=none/\b≠X.env.locals/\b∉X.fs/\(b∈X.ex\/X.s₀.heap.objs.size<=b)/\(∀x c,X.env.cells.lookup x=some c->c≠b)/\∀p∈X.pn++pins,p.1≠b
theorem Inv.fpOk{X:Cx}{pins:List (Addr×Obj)}{σ:St}{H H':Hp}{s:Shared}{b:Addr}(I:Inv X pins σ H s)(hb:s.heap.objs.size<=b)(hn:H' b=none):XT X pins H' b:=by
 refine⟨hn,Nat.ne_of_gt (Nat.lt_of_lt_of_le I.lt hb),I.nofs hb,.inr (Nat.le_trans I.sz hb),λx c e z => ?_,λp hp z => ?_⟩
 · obtain⟨v,q⟩:=I.cell x c e
   exact absurd (Nat.lt_of_lt_of_le q.lt (by rw [z];exact hb)) (Nat.lt_irrefl _)
 · exact absurd (Nat.lt_of_lt_of_le (Heap.lt_size (I.pin p hp).1) (by rw [z];exact hb)) (Nat.lt_irrefl _)
structure Turn(P:Program)(w:World)(K:PySem.W.Frag)(tg:Expr)(J:It)(fp:List Addr)(it:Addr)(tn:Nat->Heap->Prop):Prop where
 mem:it∈fp
 obj:∀i h,tn i h->∀b∈fp,∃o,h.get? b=some o/\∀v,o.data ≠ .cell v
 keep:∀i h h',tn i h->(∀b∈fp,∀o,h.get? b=some o->h'.get? b=some o)->tn i h'
 item:∀(X:Cx),X.prog=P->X.w=w->X.K=K->X.calm=true->∀(i:Nat)(pins:List (Addr×Obj))(s:Shared)(σ:St)(H:Hp)(E:Value->Shared->Prop),Inv X pins σ H s->(∀b∈fp,XT X pins H b)->tn i s.heap->J.go i H ->
  wpAny (model P w) X.A (pyNext (.ref it)) (λr s1=>∃u,r=some u /\
   wpAny (model P w) X.A (letOwnedTupleGo tg (.ref it) u) (λ_ s2=>∃x H',Inv X pins σ H' s2/\RelV x u/\J.yld i H x H'/\tn (i+1) s2.heap/\∀b∈fp,H' b=none) E s1) E s
 done:∀(X:Cx),X.prog=P->X.w=w->X.K=K->X.calm=true->∀(i:Nat)(pins:List (Addr×Obj))(s:Shared)(σ:St)(H:Hp)(E:Value->Shared->Prop),Inv X pins σ H s->(∀b∈fp,XT X pins H b)->tn i s.heap->J.stop i H ->
  wpAny (model P w) X.A (pyNext (.ref it)) (λr s1=>r=none/\Inv X pins σ H s1) E s
 self:∀(A:Around)(i:Nat)(s:Shared)(Q:Value->Shared->Prop)(E:Value->Shared->Prop),tn i s.heap->Q (.ref it) s->wpAny (model P w) A (pyIter (.ref it)) Q E s
abbrev TI:=St->Hp->(It->Hp->Prop)->Prop
def PIE(X:Cx)(pins:List (Addr×Obj))(σ:St)(tg:Expr)(R:It->Hp->Prop)(itv:Value)(s2:Shared):Prop:=
 ∃(it:Addr) (fp:List Addr) (tn:Nat->Heap->Prop) (J:It) (H':Hp),itv = .ref it/\Inv X pins σ H' s2/\Turn X.prog X.w X.K tg J fp it tn/\tn 0 s2.heap/\(∀b∈fp,XT X pins H' b)/\R J H'
def PI(X:Cx)(tg iter:Expr)(wi:TI):Prop:=
 ∀(pins:List (Addr×Obj))(s:Shared)(σ:St)(H:Hp)(R:It->Hp->Prop),Inv X pins σ H s->wi σ H R ->
  wpAny (model X.prog X.w) X.A (eval iter X.env) (λv s1=>wpAny (model X.prog X.w) X.A (pyIter v) (PIE X pins σ tg R) X.xe s1) X.xe s
theorem QK {M:Model} {A:Around} {E:Value->Shared->Prop} {s:Shared} {tg:Expr} {it:Addr} {u:Value} {o:Obj} {n:String} {vs:Array Value} {Q:Unit->Shared->Prop} (ho:s.heap.get? it=some o) (hc:o.cls = .type n) (hd:o.data = .fields vs)
 (hn:["enumerate", "zip", "dict_itemiterator", "dict_reverseitemiterator", "odict_iterator", "itertools.zip_longest", "itertools.pairwise"].contains n=false) (hQ:Q () s):wpAny M A (letOwnedTupleGo tg (.ref it) u) Q E s:=by
 unfold letOwnedTupleGo
 cases tg<;>first
  |exact wpAny_pure hQ
  | (cases u <;> first
      |exact wpAny_pure hQ
      | (refine wpAny_bind (wpAny_load ho ?_)
         rw [hc,hd];show wpAny M A (if(["enumerate", "zip", "dict_itemiterator", "dict_reverseitemiterator", "odict_iterator", "itertools.zip_longest", "itertools.pairwise"].contains n&&vs[0]? == some (rawInt _))=true then _ else _) Q E s;rw [if_neg (by intro h;rw [hn,Bool.false_and]at h;cases h)];exact wpAny_pure hQ))
def Itl(K:PySem.W.Frag)(a:Addr):It:=
 ⟨λi H=>∃xs x,SqL K H a xs/\xs[i]? = some x,λi H x H'=>H'=H/\∀xs,SqL K H a xs->xs[i]? = some x,λi H=>∃xs,SqL K H a xs/\xs.length<=i⟩
def Itt(K:PySem.W.Frag)(a:Addr):It:=
 ⟨λi H=>∃xs x,SqT K H a xs/\xs[i]? = some x,λi H x H'=>H'=H/\∀xs,SqT K H a xs->xs[i]? = some x,λi H=>∃xs,SqT K H a xs/\xs.length<=i⟩
def Itr(lo:Int)(n:Nat):It:=⟨λi _=>i<n,λi H x H'=>H'=H/\x = .int (lo+i),λi _=>n<=i⟩
theorem Zd0{P:Program}{w:World}{K:PySem.W.Frag}{tg:Expr}(a it:Addr):Turn P w K tg (Itl K a) [it] it (λi h=>h.IsListIter it a i) where
 mem:=by simp
 obj:=λi h st b hb=>by
  have e:b=it:=by simpa using hb
  subst e;obtain⟨o,e,c,d⟩:=st;exact⟨o,e,λv z=>by rw [d]at z;cases z⟩
 keep:=λi h h' st k=>st.at λo e=>k it (by simp) o e
 item:=by
  intro X hP hw hK hc i pins s σ H E I hf st hg;subst hP hw hK;obtain⟨xs,x,hq,hx⟩:=hg;obtain⟨its,rv,p,hz⟩:=I.list hq;obtain⟨u,hu,ru⟩:=rv.get hx;obtain⟨f0,f1,f2,f3,f4,f5⟩:=hf it (by simp);refine wpAny_pyNext_list_item st p.isList (x:=u) (by simpa using hu) λh' st' sb => ?_
  have I1:Inv X pins σ H { s with heap:=h' }:=I.turned (t':=s.toks) (λb o hb e=>(sb.2 b hb).trans e) f0 f1 f3 f4 f5;obtain⟨o,e,c,d⟩:=id st';exact⟨u,rfl,QK (s:={ s with heap:=h' }) e c d (by decide) ⟨x,H,I1,ru,⟨rfl,λys hy=>by rw [I.list_inj hy hq];exact hx⟩,st',λb hb=>(hf b hb).1⟩⟩
 done:=by
  intro X hP hw hK hc i pins s σ H E I hf st hg;subst hP hw hK;obtain⟨xs,hq,hx⟩:=hg;obtain⟨its,rv,p,hz⟩:=I.list hq;obtain⟨f0,f1,f2,f3,f4,f5⟩:=hf it (by simp);have hl:=rv.length;exact wpAny_pyNext_list_end (I.ok.hd hc) st p.isList (by simp;omega) λh' eb=>⟨rfl,I.turned (t':=s.toks) (λb o hb e=>eb b o hb e) f0 f1 f3 f4 f5⟩
 self:=λ_ _ _ _ _ st h=>wpAny_pyIter_listiter st h
theorem ZaU{P:Program}{w:World}{K:PySem.W.Frag}{tg:Expr}(a it:Addr):Turn P w K tg (Itt K a) [it] it (λi h=>h.IsTupleIter it a i) where
 mem:=by simp
 obj:=λi h st b hb=>by
  have e:b=it:=by simpa using hb
  subst e;obtain⟨o,e,c,d⟩:=st;exact⟨o,e,λv z=>by rw [d]at z;cases z⟩
 keep:=λi h h' st k=>st.at λo e=>k it (by simp) o e
 item:=by
  intro X hP hw hK hc i pins s σ H E I hf st hg;subst hP hw hK;obtain⟨xs,x,hq,hx⟩:=hg;obtain⟨its,rv,p,hz⟩:=I.tuple hq;obtain⟨u,hu,ru⟩:=rv.get hx;obtain⟨f0,f1,f2,f3,f4,f5⟩:=hf it (by simp);refine wpAny_pyNext_tuple_item st (show s.heap.IsTuple a its.toArray from p) (x:=u) (by simpa using hu) λh' st' sb => ?_
  have I1:Inv X pins σ H { s with heap:=h' }:=I.turned (t':=s.toks) (λb o hb e=>(sb.2 b hb).trans e) f0 f1 f3 f4 f5;obtain⟨o,e,c,d⟩:=id st';exact⟨u,rfl,QK (s:={ s with heap:=h' }) e c d (by decide) ⟨x,H,I1,ru,⟨rfl,λys hy=>by rw [I.tuple_inj hy hq];exact hx⟩,st',λb hb=>(hf b hb).1⟩⟩
 done:=by
  intro X hP hw hK hc i pins s σ H E I hf st hg;subst hP hw hK;obtain⟨xs,hq,hx⟩:=hg;obtain⟨its,rv,p,hz⟩:=I.tuple hq;obtain⟨f0,f1,f2,f3,f4,f5⟩:=hf it (by simp);have hl:=rv.length;exact wpAny_pyNext_tuple_end (I.ok.hd hc) st (show s.heap.IsTuple a its.toArray from p) (by simp;omega) λh' eb=>⟨rfl,I.turned (t':=s.toks) (λb o hb e=>eb b o hb e) f0 f1 f3 f4 f5⟩
 self:=λ_ _ _ _ _ st h=>wpAny_pyIter_tupleiter st h
theorem ZcN{P:Program}{w:World}{K:PySem.W.Frag}{tg:Expr}(it:Addr)(lo:Int)(n:Nat):Turn P w K tg (Itr lo n) [it] it (λi h=>IsRangeIter h it (lo+(i:Nat)*1) ((n:Int)-(i:Nat)) 1) where
 mem:=by simp
 obj:=λi h st b hb=>by
  have e:b=it:=by simpa using hb
  subst e
  exact⟨_,st,λv z=>by
   have z':Data.fields _=Data.cell v:=z;cases z'⟩
 keep:=λi h h' st k=>k it (by simp) _ st
 item:=by
  intro X hP hw hK hc i pins s σ H E I hf st hg;subst hP hw hK;obtain⟨f0,f1,f2,f3,f4,f5⟩:=hf it (by simp);have W:=Walks.range (prog:=X.prog) (w:=X.w) (I.ok.hd hc) it lo 1 n;refine W.item i s _ _ hg st λv h' tk hv st' kk => ?_
  obtain⟨t,rfl⟩:=hv;have I1:Inv X pins σ H { s with heap:=h',toks:=tk }:=I.turned (λb o hb e=>kk b o (by simpa using hb) e) f0 f1 f3 f4 f5;refine⟨_,rfl,QK (s:={ s with heap:=h',toks:=tk }) (n:="range_iterator") st' rfl rfl (by decide) ⟨.int (lo+i),H,I1,⟨t,?_⟩,⟨rfl,rfl⟩,st',λb hb=>(hf b hb).1⟩⟩;rw [Int.mul_one]
 done:=by
  intro X hP hw hK hc i pins s σ H E I hf st hg;subst hP hw hK;obtain⟨f0,f1,f2,f3,f4,f5⟩:=hf it (by simp);exact wpAny_pyNext_range_end (I.ok.hd hc) st (by have:n<=i:=hg;omega) λh' eb=>⟨rfl,I.turned (t':=s.toks) (λb o hb e=>eb b o hb e) f0 f1 f3 f4 f5⟩
 self:=λ_ _ _ _ _ st h=>wpAny_pyIter_rangeiter st h
end L2
namespace L2
open PySem PySem.Spec PyProof.Rows
section
variable{X:Cx}{tg:Expr}
def Zll(K:PySem.W.Frag)(tl:TE):TI:=λσ H R=>tl σ H λx H1=>∃a,x = .ref a/\(∃xs,SqT K H1 a xs)/\R (Itt K a) H1
theorem ZhP{l:Expr}{tl:TE}(hl:PE X l tl):PI X tg l (Zll X.K tl):=by
 intro pins s σ H R I h;refine thn (hl pins s σ H _ I h) λv s1 ⟨x,H1,I1,r1,q1⟩ => ?_
 obtain⟨a,e,⟨xs,hq⟩,q⟩:=q1;subst e;cases r1;obtain⟨its,rv,p,hz⟩:=I1.tuple hq;refine wpAny_pyIter_tuple (show s1.heap.IsTuple a its.toArray from p) ?_;refine⟨s1.heap.objs.size,[s1.heap.objs.size],_,_,H1,rfl,I1.kept (t':=s1.toks) λb o e=>Heap.get?_push_of_some _ e,ZaU a _,⟨_,Heap.get?_push_size _ rfl,rfl,rfl⟩,λb hb => ?_,q⟩;have e:b=s1.heap.objs.size:=by simpa using hb
 subst e;exact I1.fpOk (Nat.le_refl _) (I1.hok.fresh (Nat.le_refl _))
theorem ZeG {pins:List (Addr×Obj)} {σ:St} {H:Hp} {s:Shared} {R:It->Hp->Prop} {E:Value->Shared->Prop} {lo hi:Int} {t u v:Tok} {tk:Nat} (I:Inv X pins σ H s) (h1 : -(2 ^ 62)<=lo) (h2:lo<2 ^ 62) (h3 : -(2 ^ 62)<=hi) (h4:hi<2 ^ 62)
 (q:R (Itr lo (hi-lo).toNat) H):wpAny (model X.prog X.w) X.A (pyIter (.ref s.heap.objs.size)) (PIE X pins σ tg R) E { s with heap:=s.heap.push { cls := .type "range",data := .fields #[.int lo t,.int hi u,.int 1 v] },toks:=tk }:=by
 refine wpAny_pyIter_range (IsRange.new ..) (small_one h1 h2 h3 h4) ?_;have I1:Inv X pins σ H { s with heap:=s.heap.push { cls := .type "range",data := .fields #[.int lo t,.int hi u,.int 1 v] },toks:=tk }:=I.kept λb o e=>Heap.get?_push_of_some _ e
 refine⟨(s.heap.push { cls := .type "range",data := .fields #[.int lo t,.int hi u,.int 1 v] }).objs.size,[(s.heap.push { cls := .type "range",data := .fields #[.int lo t,.int hi u,.int 1 v] }).objs.size],_,_,H,rfl,
  I1.kept (t':=tk) λb o e=>Heap.get?_push_of_some _ e,ZcN _ lo (hi-lo).toNat,?_,λb hb => ?_,q⟩
 · have e1:lo+((0:Nat):Int)*1=lo:=by simp
   have e2:(((hi-lo).toNat:Nat):Int)-((0:Nat):Int)=Builtin.Range.rangeSize lo hi 1:=by rw [rangeSize_one];split<;>omega
   show IsRangeIter _ _ (lo+((0:Nat):Int)*1) ((((hi-lo).toNat:Nat):Int)-((0:Nat):Int)) 1;rw [e1,e2];exact Heap.get?_push_size _ rfl
 · have e:b=(s.heap.push { cls := .type "range",data := .fields #[.int lo t,.int hi u,.int 1 v] }).objs.size:=by simpa using hb
   subst e;exact I1.fpOk (Nat.le_refl _) (I1.hok.fresh (Nat.le_refl _))
def Zhd(ta:TA):TI:=λσ H R=>ta σ H λvs H1=>∃j:Int,vs=[.int j] /\ -(2 ^ 62)<=j/\j<2 ^ 62/\R (Itr 0 j.toNat) H1
theorem Uw {a:Expr} {ta:TA} {p pos:Pos} (hg:Gl X "range") (hm:X.mg "range" = none) (ha:PA X [a] ta) (hs:starEach [a] X.env=[(false,eval a X.env)]:=by rfl):PI X tg (.Call (.Name "range" p) [a] [] pos) (Zhd ta):=by
 intro pins s σ H R I h;refine Call_ (V3 I hg hm boot_range (PyProof.Rows.callWith_type1 (thn (ha pos pins s σ H _ I h) λus s1 ⟨vs,H1,I1,r1,q1⟩ => ?_) hs rfl));obtain⟨j,e,q1,q2,q⟩:=q1;subst e;cases r1 with
 |cons r rr=>
  cases rr;obtain⟨t,rfl⟩:=r;exact call_range_1 (ZeG I1 (by omega) (by omega) q1 q2 (by simpa using q))
def Zk1(wi:TI)(g:TG)(tb:TS):TS:=λD σ H=>wi σ H λJ H1=>∃W:Nat->Nat->St->Hp->Prop,(∃m,W 0 m σ H1)/\∀i m σ H,W i m σ H ->
 (J.stop i H/\D.nx σ H)\/(J.go i H/\∃N:St->Hp->Prop,(∀σ' H',N σ' H'->∃m',m'<m/\W (i+1) m' σ' H')/\∀x H',J.yld i H x H'->g x σ H' λσ2 H2=>tb { D with nx:=N,ct:=N,bk:=D.nx } σ2 H2)
def Vo(fp:List Addr)(h:Heap):List (Addr×Obj):=fp.filterMap λb=>(h.get? b).map λo=>(b,o)
theorem JA{fp:List Addr}{h:Heap}{b:Addr}{o:Obj}(hb:b∈fp)(e:h.get? b=some o):(b,o)∈Vo fp h:=List.mem_filterMap.mpr ⟨b,hb,by rw [e];rfl⟩
theorem Zbp{fp:List Addr}{h:Heap}{p:Addr×Obj}(hp:p∈Vo fp h):p.1∈fp/\h.get? p.1=some p.2:=by
 obtain⟨b,hb,e⟩:=List.mem_filterMap.mp hp;cases q:h.get? b with
 |none=>rw [q]at e;cases e
 |some o=>
  rw [q]at e;have e':(b,o)=p:=Option.some.inj e;subst e';exact⟨hb,q⟩
theorem Inv.pinned{pins:List (Addr×Obj)}{σ:St}{H:Hp}{s:Shared}{fp:List Addr}(I:Inv X pins σ H s)(hf:∀b∈fp,XT X pins H b)(ho:∀b∈fp,∃o,s.heap.get? b=some o/\∀v,o.data ≠ .cell v):Inv X (pins++Vo fp s.heap) σ H s:=
 I.pins_of λp hp=>(List.mem_append.mp hp).elim (λz=>I.pin p (List.mem_append_right _ z)) λz=>by
  obtain⟨hb,e⟩:=Zbp z;obtain⟨f0,f1,f2,_⟩:=hf p.1 hb;obtain⟨o,e',d⟩:=ho p.1 hb;rw [e]at e';cases e';exact⟨e,f0,f1,f2,d⟩
theorem Inv.unpinned{pins pl:List (Addr×Obj)}{σ:St}{H:Hp}{s:Shared}(I:Inv X (pins++pl) σ H s):Inv X pins σ H s:=I.pins_of λp hp=>I.pin p (List.mem_append_right _ (List.mem_append_left _ hp))
theorem Zc6 {iter:Expr} {body:List Stmt} {wi:TI} {g:TG} {tb:TS} {pos:Pos} (hp:PassesOwn (model X.prog X.w) X.A X.env X.xe) (hc:X.calm=true) (hi:PI X tg iter wi) (hg:PG X tg g) (hb:PSs X body tb)
 (hs:∀x,foldedSetIterable iter X.env x=pure x:=by intro _;rfl):PS X (.For tg iter body [] pos) (Zk1 wi g tb):=by
 intro pins s σ H D I h;refine wpAny_For (thn (hi pins s σ H _ I h) λv s1 h1=>thn h1 λitv s2 h2 => ?_) hs;obtain⟨it,fp,tn,J,H2,e,I2,T,st2,f2,W,⟨m0,w0⟩,turn⟩:=h2;subst e;have stat:∀{H':Hp},(∀b∈fp,H' b=none)->∀b∈fp,XT X pins H' b:=λhn b hb=>⟨hn b hb,(f2 b hb).2⟩
 refine codeAny_forLoop_any (λn s'=>∃i σ' H',Inv X pins σ' H' s'/\tn i s'.heap/\(∀b∈fp,H' b=none)/\W i n σ' H') ?_ m0 ⟨0,σ,H2,I2,st2,λb hb=>(f2 b hb).1,w0⟩
 rintro n s3 ⟨i,σ3,H3,I3,st3,fr3,w3⟩
 rcases turn i n σ3 H3 w3 with⟨stop,qn⟩|⟨go,N,hN,step⟩
 · refine wpAny_passesOwn hp (thn (T.done X rfl rfl rfl hc i pins s3 σ3 H3 X.xe I3 (stat fr3) st3 stop) λr s4 ⟨hr,I4⟩ => ?_)
   subst hr;exact wpAny_execs_nil ⟨σ3,H3,I4,qn⟩
 · refine wpAny_passesOwn hp (thn (T.item X rfl rfl rfl hc i pins s3 σ3 H3 X.xe I3 (stat fr3) st3 go) λr s4 ⟨u,hr,h4⟩ => ?_)
   subst hr;refine wpAny_passesOwn hp (thn h4 λ_ s5 ⟨x,H5,I5,r5,y5,st5,fr5⟩ => ?_);have I5':=I5.pinned (stat fr5) (T.obj _ _ st5);refine wpAny_passesOwn hp (thn (hg _ s5 σ3 H5 x u _ I5' r5 (step x H5 y5)) λ_ s6 ⟨σ6,H6,I6,q6⟩ => ?_);refine wpAny_passesOwn hp (thn (hb _ s6 σ6 H6 _ I6 q6) λf s7 q7 => ?_)
   have again:∀{σ7:St}{H7:Hp},Inv X (pins++Vo fp s5.heap) σ7 H7 s7->N σ7 H7->∃m,m<n/\∃i σ' H',Inv X pins σ' H' s7/\tn i s7.heap/\(∀b∈fp,H' b=none)/\W i m σ' H':=λ{σ7 H7} I7 n7=>by
    obtain⟨m',hm,w7⟩:=hN σ7 H7 n7;refine⟨m',hm,i+1,σ7,H7,I7.unpinned,T.keep _ _ _ st5 λb hb o e=>(I7.pin (b,o) (List.mem_append_right _ (List.mem_append_right _ (JA hb e)))).1,λb hb => ?_,w7⟩;obtain⟨o,e,d⟩:=T.obj _ _ st5 b hb;exact(I7.pin (b,o) (List.mem_append_right _ (List.mem_append_right _ (JA hb e)))).2.1
   cases f with
   |next=>obtain⟨σ7,H7,I7,n7⟩:=q7;exact again I7 n7
   |cont=>obtain⟨σ7,H7,I7,n7⟩:=q7;exact again I7 n7
   |brk=>obtain⟨σ7,H7,I7,q7⟩:=q7;exact⟨σ7,H7,I7.unpinned,q7⟩
   |ret v=>obtain⟨x7,σ7,H7,I7,r7,q7⟩:=q7;exact⟨x7,σ7,H7,I7.unpinned,r7,q7⟩
end
end L2
namespace L2
open PySem PySem.Spec PyProof.Rows
abbrev R2:=V->V->Hp->VK->Prop
def OpR(X:Cx)(f:Value->Value->Sem Value)(r:R2):Prop:=
 ∀(pins:List (Addr×Obj))(s:Shared)(σ:St)(H:Hp)(x y:V)(v u:Value)(Q:VK),Inv X pins σ H s->RelV x v->RelV y u->r x y H Q ->
  wpAny (model X.prog X.w) X.A (f v u) (EP X pins σ Q) X.xe s
def UnR(X:Cx)(f:Value->Sem Value)(r:V->Hp->VK->Prop):Prop:=
 ∀(pins:List (Addr×Obj))(s:Shared)(σ:St)(H:Hp)(x:V)(v:Value)(Q:VK),Inv X pins σ H s->RelV x v->r x H Q ->
  wpAny (model X.prog X.w) X.A (f v) (EP X pins σ Q) X.xe s
def Xh(X:Cx)(f:Value)(r:List V->Hp->VK->Prop):Prop:=
 ∀(pins:List (Addr×Obj))(s:Shared)(σ:St)(H:Hp)(xs:List V)(us:List Value)(Q:VK),Inv X pins σ H s->Vals xs us->r xs H Q ->
  wpAny (model X.prog X.w) X.A (call f us) (EP X pins σ Q) X.xe s
def tOp(r:R2)(ta tb:TE):TE:=λσ H Q=>ta σ H λx H1=>tb σ H1 λy H2=>r x y H2 Q
def tUn(r:V->Hp->VK->Prop)(ta:TE):TE:=λσ H Q=>ta σ H λx H1=>r x H1 Q
def rI(C:Int->Int->Prop)(g:Int->Int->V):R2:=λx y H Q=>∃i j,x = .int i/\y = .int j/\C i j/\Q (g i j) H
def rI0(g:Int->Int->V):R2:=λx y H Q=>∃i j,x = .int i/\y = .int j/\Q (g i j) H
def rU(g:Int->V):V->Hp->VK->Prop:=λx H Q=>∃i,x = .int i/\Q (g i) H
section
variable{X:Cx}{a b c:Expr}{ta tb tc:TE}{pos:Pos}
theorem Zi2 (ha:PE X a ta) (hb:PE X b tb) {pins:List (Addr×Obj)} {s:Shared} {σ:St} {H:Hp} {R:V->V->Hp->Prop} (I:Inv X pins σ H s)
 (h:ta σ H λx H1=>tb σ H1 λy H2=>R x y H2) {Q:Value->Shared->Prop} {f:Value->Value->Sem Value}
 (hf:∀v u s2 x y H2,Inv X pins σ H2 s2->RelV x v->RelV y u->R x y H2->wpAny (model X.prog X.w) X.A (f v u) Q X.xe s2) :
 wpAny (model X.prog X.w) X.A (eval a X.env) (λv s₁=>wpAny (model X.prog X.w) X.A (eval b X.env) (λu s₂=>wpAny (model X.prog X.w) X.A (f v u) Q X.xe s₂) X.xe s₁) X.xe s:=by
 refine thn (ha pins s σ H _ I h) λv s1 ⟨x,H1,I1,r1,q1⟩ => ?_
 refine thn (hb pins s1 σ H1 _ I1 q1) λu s2 ⟨y,H2,I2,r2,q2⟩ => ?_
 exact hf v u s2 x y H2 I2 r1 r2 q2
theorem Zr{op:Operator}{r:R2}(ho:OpR X (binaryOp op) r)(ha:PE X a ta)(hb:PE X b tb):PE X (.BinOp a op b pos) (tOp r ta tb):=by
 intro pins s σ H Q I h;exact wpAny_BinOp (Zi2 ha hb I h λv u s2 x y H2 I2 rx ry q=>ho pins s2 σ H2 x y v u Q I2 rx ry q)
theorem U6{op:UnaryOp}{r:V->Hp->VK->Prop}(ho:UnR X (unaryOp op) r)(ha:PE X a ta):PE X (.UnaryOp op a pos) (tUn r ta):=by
 intro pins s σ H Q I h;exact UnaryOp_ (thn (ha pins s σ H _ I h) λv s1 ⟨x,H1,I1,r1,q1⟩=>ho pins s1 σ H1 x v Q I1 r1 q1)
theorem opI {f:Value->Value->Sem Value} {C:Int->Int->Prop} {g:Int->Int->Int}
 (rule:∀(i j:Int)(t u:Tok)(s:Shared)(Q:Value->Shared->Prop)(E:Value->Shared->Prop),C i j->Q (.int (g i j) s.toks) { s with toks:=s.toks+1 }->wpAny (model X.prog X.w) X.A (f (.int i t) (.int j u)) Q E s) :
 OpR X f (rI C λi j => .int (g i j)):=by
 intro pins s σ H x y v u Q I rx ry h;obtain⟨i,j,rfl,rfl,hc,q⟩:=h;obtain⟨t,rfl⟩:=rx;obtain⟨t',rfl⟩:=ry;exact rule i j t t' s _ _ hc ⟨.int (g i j),H,I.tok _,⟨_,rfl⟩,q⟩
theorem Zk2 {f:Value->Value->Sem Value} {g:Int->Int->Int}
 (rule:∀(i j:Int)(t u:Tok)(s:Shared)(Q:Value->Shared->Prop)(E:Value->Shared->Prop),Q (.int (g i j) s.toks) { s with toks:=s.toks+1 }->wpAny (model X.prog X.w) X.A (f (.int i t) (.int j u)) Q E s) :
 OpR X f (rI0 λi j => .int (g i j)):=by
 intro pins s σ H x y v u Q I rx ry h;obtain⟨i,j,rfl,rfl,q⟩:=h;obtain⟨t,rfl⟩:=rx;obtain⟨t',rfl⟩:=ry;exact rule i j t t' s _ _ ⟨.int (g i j),H,I.tok _,⟨_,rfl⟩,q⟩
theorem Zi3 {f:Value->Value->Sem Value} {g:Int->Int->Bool}
 (rule:∀(i j:Int)(t u:Tok)(s:Shared)(Q:Value->Shared->Prop)(E:Value->Shared->Prop),Q (.bool (g i j)) s->wpAny (model X.prog X.w) X.A (f (.int i t) (.int j u)) Q E s) :
 OpR X f (rI0 λi j => .bl (g i j)):=by
 intro pins s σ H x y v u Q I rx ry h;obtain⟨i,j,rfl,rfl,q⟩:=h;obtain⟨t,rfl⟩:=rx;obtain⟨t',rfl⟩:=ry;exact rule i j t t' s _ _ ⟨.bl (g i j),H,I,rfl,q⟩
def Z1(i j:Int):Prop:=0<j/\j<1073741824
def Ux(i j:Int):Prop:=0<=j/\j<=1000000/\i.natAbs<2 ^ 64
def CMul(i j:Int):Prop:=(-(2 ^ 64)<i/\i<2 ^ 64)\/(-(2 ^ 64)<j/\j<2 ^ 64)
theorem CMul.ok{i j:Int}(h:CMul i j):IntMulOk i j:=by
 rcases h with⟨h1,h2⟩|⟨h1,h2⟩
 · exact .of_left (intBits_le_64 h1 h2)
 · exact .of_right (intBits_le_64 h1 h2)
theorem op_add:OpR X (binaryOp .Add) (rI0 λi j => .int (i+j)):=Zk2 λ_ _ _ _ _ _ _ q=>add_int q
theorem Uy:OpR X (binaryOp .Sub) (rI0 λi j => .int (i-j)):=Zk2 λ_ _ _ _ _ _ _ q=>sub_int q
theorem op_mul:OpR X (binaryOp .Mult) (rI CMul λi j => .int (i*j)):=opI λ_ _ _ _ _ _ _ hc q=>mul_int q hc.ok
theorem Y4:OpR X (binaryOp .FloorDiv) (rI Z1 λi j => .int (i / j)):=opI λi j _ _ _ _ _ hc q=>by
 have h1:(0:Int)<j:=hc.1;have h2:j<1073741824:=hc.2;exact floordiv_int (by omega) (by rw [Int.fdiv_eq_ediv_of_nonneg i (by omega)];exact q) (.inl (PyProof.noPylong_small (by omega)))
theorem ZU:OpR X (binaryOp .Mod) (rI (λ_ j=>0<j) λi j => .int (i % j)):=opI λi j _ _ _ _ _ hc q=>by
 have h1:(0:Int)<j:=hc;exact mod_int' (by omega) (by rw [Int.fmod_eq_emod_of_nonneg i (by omega)];exact q)
theorem ZfG:OpR X (binaryOp .Pow) (rI Ux λi j => .int (i ^ j.toNat)):=opI λ_ _ _ _ _ _ _ hc q=>pow_int_small hc.1 hc.2.1 hc.2.2 q
theorem unI {f:Value->Sem Value} {g:Int->Int}
 (rule:∀(i:Int)(t:Tok)(s:Shared)(Q:Value->Shared->Prop)(E:Value->Shared->Prop),Q (.int (g i) s.toks) { s with toks:=s.toks+1 }->wpAny (model X.prog X.w) X.A (f (.int i t)) Q E s) :
 UnR X f (rU λi => .int (g i)):=by
 intro pins s σ H x v Q I rx h;obtain⟨i,rfl,q⟩:=h;obtain⟨t,rfl⟩:=rx;exact rule i t s _ _ ⟨.int (g i),H,I.tok _,⟨_,rfl⟩,q⟩
theorem U7:UnR X (unaryOp .USub) (rU λi => .int (-i)):=unI λ_ _ _ _ _ q=>neg_int q
end
def Vp:V->V->Bool
 | .non,.non=>true | .non,.int _=>true | .int _,.non=>true | .non,.bl _=>true | .bl _,.non=>true | .non,.str _=>true | .str _,.non=>true
 | .int _,.int _=>true | .bl _,.bl _=>true | .str _,.str _=>true | .byt _,.byt _=>true
 | .int _,.str _=>true | .str _,.int _=>true | .bl _,.str _=>true | .str _,.bl _=>true
 |_,_=>false
def rEq:R2:=λx y H Q=>Vp x y=true/\Q (.bl (decide (x=y))) H
def rNe:R2:=λx y H Q=>Vp x y=true/\Q (.bl (!decide (x=y))) H
theorem Zdk{i j:Int}:decide (V.int i=V.int j)=(i == j):=by
 rw [Bool.eq_iff_iff];simp
theorem ZfH{i j:Bool}:decide (V.bl i=V.bl j)=(i == j):=by
 rw [Bool.eq_iff_iff];simp
theorem Zdl{i j:Str}:decide (V.str i=V.str j)=(i == j):=by
 rw [Bool.eq_iff_iff];simp
theorem Zdm{i j:Array UInt8}:decide (V.byt i=V.byt j)=(i.toList == j.toList):=by
 rw [Bool.eq_iff_iff];cases i;cases j;simp
section
variable{X:Cx}{a b c:Expr}{ta tb tc:TE}{pos:Pos}
theorem Ym{pins:List (Addr×Obj)}{σ:St}{H:Hp}{s:Shared}{Q:VK}{k k':Bool}(I:Inv X pins σ H s)(q:Q (.bl k) H)(e:k=k'):EP X pins σ Q (.bool k') s:=by
 subst e;exact⟨.bl k,H,I,rfl,q⟩
theorem ZjG:OpR X (compareOp .Eq) rEq:=by
 intro pins s σ H x y v u Q I rx ry h;obtain⟨hs,q⟩:=h;cases x with
 |non=>
  cases rx;cases y with
  |non=>cases ry;exact PySem.EqNone.eq_none_none (Ym I q (by simp))
  |bl j=>cases ry;exact PySem.EqNone.eq_none_bool (Ym I q (by simp))
  |int j=>obtain⟨t',rfl⟩:=ry;exact PySem.EqNone.eq_none_int (Ym I q (by simp))
  |str j=>obtain⟨t',rfl⟩:=ry;exact PySem.EqNone.eq_none_str (Ym I q (by simp))
  |_=>exact absurd (show false=true from hs) Bool.false_ne_true
 |bl i=>
  cases rx;cases y with
  |non=>cases ry;exact PySem.EqNone.eq_bool_none (Ym I q (by simp))
  |bl j=>cases ry;exact eq_bool (Ym I q ZfH)
  |str j=>obtain⟨t',rfl⟩:=ry;exact PySem.EqMixed.eq_bool_str (Ym I q (by simp))
  |_=>exact absurd (show false=true from hs) Bool.false_ne_true
 |int i=>
  obtain⟨t,rfl⟩:=rx;cases y with
  |non=>cases ry;exact PySem.EqNone.eq_int_none (Ym I q (by simp))
  |int j=>obtain⟨t',rfl⟩:=ry;exact eq_int (Ym I q Zdk)
  |str j=>obtain⟨t',rfl⟩:=ry;exact PySem.EqMixed.eq_int_str (Ym I q (by simp))
  |_=>exact absurd (show false=true from hs) Bool.false_ne_true
 |str i=>
  obtain⟨t,rfl⟩:=rx;cases y with
  |non=>cases ry;exact PySem.EqNone.eq_str_none (Ym I q (by simp))
  |bl j=>cases ry;exact PySem.EqMixed.eq_str_bool (Ym I q (by simp))
  |int j=>obtain⟨t',rfl⟩:=ry;exact PySem.EqMixed.eq_str_int (Ym I q (by simp))
  |str j=>obtain⟨t',rfl⟩:=ry;exact eq_str (Ym I q Zdl)
  |_=>exact absurd (show false=true from hs) Bool.false_ne_true
 |byt i=>
  obtain⟨t,rfl⟩:=rx;cases y with
  |byt j=>obtain⟨t',rfl⟩:=ry;exact PySem.W.eq_bytes (Ym I q Zdm)
  |_=>exact absurd (show false=true from hs) Bool.false_ne_true
 |_=>cases y<;>exact absurd (show false=true from hs) Bool.false_ne_true
theorem ZjH:OpR X (compareOp .NotEq) rNe:=by
 intro pins s σ H x y v u Q I rx ry h;obtain⟨hs,q⟩:=h;cases x with
 |non=>
  cases rx;cases y with
  |non=>cases ry;exact PySem.EqNone.ne_none_none (Ym I q (by simp))
  |bl j=>cases ry;exact PySem.EqNone.ne_none_bool (Ym I q (by simp))
  |int j=>obtain⟨t',rfl⟩:=ry;exact PySem.EqNone.ne_none_int (Ym I q (by simp))
  |str j=>obtain⟨t',rfl⟩:=ry;exact PySem.EqNone.ne_none_str (Ym I q (by simp))
  |_=>exact absurd (show false=true from hs) Bool.false_ne_true
 |bl i=>
  cases rx;cases y with
  |non=>cases ry;exact PySem.EqNone.ne_bool_none (Ym I q (by simp))
  |bl j=>cases ry;exact ne_bool (Ym I q (congrArg not ZfH))
  |str j=>obtain⟨t',rfl⟩:=ry;exact PySem.EqMixed.ne_bool_str (Ym I q (by simp))
  |_=>exact absurd (show false=true from hs) Bool.false_ne_true
 |int i=>
  obtain⟨t,rfl⟩:=rx;cases y with
  |non=>cases ry;exact PySem.EqNone.ne_int_none (Ym I q (by simp))
  |int j=>obtain⟨t',rfl⟩:=ry;exact ne_int (Ym I q (congrArg not Zdk))
  |str j=>obtain⟨t',rfl⟩:=ry;exact PySem.EqMixed.ne_int_str (Ym I q (by simp))
  |_=>exact absurd (show false=true from hs) Bool.false_ne_true
 |str i=>
  obtain⟨t,rfl⟩:=rx;cases y with
  |non=>cases ry;exact PySem.EqNone.ne_str_none (Ym I q (by simp))
  |bl j=>cases ry;exact PySem.EqMixed.ne_str_bool (Ym I q (by simp))
  |int j=>obtain⟨t',rfl⟩:=ry;exact PySem.EqMixed.ne_str_int (Ym I q (by simp))
  |str j=>obtain⟨t',rfl⟩:=ry;exact ne_str (Ym I q (congrArg not Zdl))
  |_=>exact absurd (show false=true from hs) Bool.false_ne_true
 |byt i=>
  obtain⟨t,rfl⟩:=rx;cases y with
  |byt j=>obtain⟨t',rfl⟩:=ry;exact PySem.W.ne_bytes (Ym I q (congrArg not Zdm))
  |_=>exact absurd (show false=true from hs) Bool.false_ne_true
 |_=>cases y<;>exact absurd (show false=true from hs) Bool.false_ne_true
theorem Zhe:OpR X (compareOp .Lt) (rI0 λi j => .bl (decide (i<j))):=Zi3 λ_ _ _ _ _ _ _ q=>lt_int q
theorem QL:OpR X (compareOp .LtE) (rI0 λi j => .bl (decide (i<=j))):=Zi3 λ_ _ _ _ _ _ _ q=>le_int q
theorem U8:OpR X (compareOp .Gt) (rI0 λi j => .bl (decide (j<i))):=Zi3 λ_ _ _ _ _ _ _ q=>gt_int q
theorem Zd1:OpR X (compareOp .In) (λx y H Q=>∃i j,x = .str i/\y = .str j/\Q (.bl (!(Builtin.Str.occurrences j i 0 j.length 1).isEmpty)) H):=by
 intro pins s σ H x y v u Q I rx ry h;obtain⟨i,j,rfl,rfl,q⟩:=h;obtain⟨t,rfl⟩:=rx;obtain⟨t',rfl⟩:=ry;exact in_str (Ym I q rfl)
theorem ZbM:OpR X (compareOp .NotIn) (λx y H Q=>∃i j,x = .str i/\y = .str j/\Q (.bl (!(!(Builtin.Str.occurrences j i 0 j.length 1).isEmpty))) H):=by
 intro pins s σ H x y v u Q I rx ry h;obtain⟨i,j,rfl,rfl,q⟩:=h;obtain⟨t,rfl⟩:=rx;obtain⟨t',rfl⟩:=ry;exact notIn_str (Ym I q rfl)
theorem OpR.or{f:Value->Value->Sem Value}{r r':R2}(h:OpR X f r)(h':OpR X f r'):OpR X f (λx y H Q=>r x y H Q\/r' x y H Q):=by
 intro pins s σ H x y v u Q I rx ry q;rcases q with q|q
 · exact h pins s σ H x y v u Q I rx ry q
 · exact h' pins s σ H x y v u Q I rx ry q
theorem ZV(b:Expr){op:CmpOp}(h:op ≠ .In:=by decide)(h2:op ≠ .NotIn:=by decide):behindInMarks op b=false:=by
 have e1:(op == CmpOp.In)=false:=by cases op<;>first|rfl|exact absurd rfl h
 have e2:(op == CmpOp.NotIn)=false:=by cases op<;>first|rfl|exact absurd rfl h2
 cases b<;>simp [behindInMarks,e1,e2]
theorem XC{op:CmpOp}{r:R2}(ho:OpR X (compareOp op) r)(ha:PE X a ta)(hb:PE X b tb)(hm:behindInMarks op b=false):PE X (.Compare a [op] [b] pos) (tOp r ta tb):=by
 intro pins s σ H Q I h;exact wpAny_Compare1 (Zi2 ha hb I h λv u s2 x y H2 I2 rx ry q=>ho pins s2 σ H2 x y v u Q I2 rx ry q) hm
def Zhf(t:TE):TT:=λσ H Q=>t σ H λx H'=>∃k,x = .bl k/\Q k H'
theorem Yp{op:CmpOp}{r:R2}(ho:OpR X (compareOp op) r)(ha:PE X a ta)(hb:PE X b tb)(hm:behindInMarks op b=false):PT X (.Compare a [op] [b] pos) (Zhf (tOp r ta tb)):=by
 intro pins s σ H Q I h
 refine wpAny_isTrue_Compare1 (thn (ha pins s σ H _ I h) λv s1 ⟨x,H1,I1,r1,q1⟩=>thn (hb pins s1 σ H1 _ I1 q1) λu s2 ⟨y,H2,I2,r2,q2⟩=>
  thn (ho pins s2 σ H2 x y v u _ I2 r1 r2 q2) λc s3 ⟨z,H3,I3,r3,k,e,q3⟩ => ?_) hm
 subst e;cases r3;exact wpAny_truthy_bool ⟨H3,I3,q3⟩
def ZfI(r r':R2)(ta tb tc:TE):TE:=λσ H Q=>ta σ H λx H1=>tb σ H1 λy H2=>r x y H2 λz H3=>∃k,z = .bl k /\
 (if k=true then tc σ H3 λw' H4=>r' y w' H4 Q else Q (.bl false) H3)
theorem Zcj {op op':CmpOp} {r r':R2} (ho:OpR X (compareOp op) r) (ho':OpR X (compareOp op') r') (ha:PE X a ta) (hb:PE X b tb) (hc:PE X c tc)
 (hm:lastMarks [op,op'] [b,c]=false:=by with_unfolding_all rfl):PE X (.Compare a [op,op'] [b,c] pos) (ZfI r r' ta tb tc):=by
 intro pins s σ H Q I h
 refine Compare_chain (thn (ha pins s σ H _ I h) λv s1 ⟨x,H1,I1,r1,q1⟩=>chain_link (thn (hb pins s1 σ H1 _ I1 q1) λu s2 ⟨y,H2,I2,r2,q2⟩=>
  thn (ho pins s2 σ H2 x y v u _ I2 r1 r2 q2) λd s3 ⟨z,H3,I3,r3,k,e,q3⟩ => ?_)) hm
 subst e;cases r3;refine wpAny_truthy_bool ?_;cases k with
 |false=>exact ite_ff ⟨.bl false,H3,I3,rfl,q3⟩
 |true=>exact ite_tt (chain_last (thn (hc pins s3 σ H3 _ I3 q3) λw' s4 ⟨z',H4,I4,r4,q4⟩=>ho' pins s4 σ H4 y z' u w' Q I4 r2 r4 q4))
theorem U9:(sizeLine:Nat)<2 ^ 63:=by rw [sizeLine_eq];decide
theorem ZcO:OpR X (binaryOp .Add) (λx y H Q=>∃i j,x = .str i/\y = .str j/\i.length+j.length<=sizeLine/\Q (.str (i++j)) H):=by
 intro pins s σ H x y v u Q I rx ry h;obtain⟨i,j,rfl,rfl,hz,q⟩:=h;obtain⟨t,rfl⟩:=rx;obtain⟨t',rfl⟩:=ry;exact add_str (λt' tk=>⟨.str (i++j),H,I.tok _,⟨_,rfl⟩,q⟩) hz
theorem X4{x:V}{us:List Value}(r:Vals [x] us):∃u,us=[u]/\RelV x u:=by
 cases r with
 |cons r1 r2=>cases r2;exact⟨_,rfl,r1⟩
theorem QM{x y:V}{us:List Value}(r:Vals [x,y] us):∃u w',us=[u,w']/\RelV x u/\RelV y w':=by
 cases r with
 |cons r1 r2=>
  cases r2 with
  |cons r3 r4=>cases r4;exact⟨_,_,rfl,r1,r3⟩
theorem Zd2:Xh X (.type "int") (λxs H Q=>(∃i,xs=[.int i]/\Q (.int i) H)\/∃k,xs=[.bl k]/\Q (.int (if k then 1 else 0)) H):=by
 intro pins s σ H xs us Q I r h;rcases h with⟨i,rfl,q⟩|⟨k,rfl,q⟩
 · obtain⟨u,rfl,t,rfl⟩:=X4 r
   exact call_int_int ⟨.int i,H,I,⟨_,rfl⟩,q⟩
 · obtain⟨u,rfl,r1⟩:=X4 r
   cases r1;exact call_int_bool ⟨.int (if k then 1 else 0),H,I.tok _,⟨_,rfl⟩,q⟩
end
end L2
namespace L2
open PySem PySem.Spec PyProof.Rows
structure ObjM(h:Heap)(x dx C:Addr)(mA:Str->Option Value):Prop where
 obj:h.get? x=some (instObj C dx)
 ns:h.Ns1 dx mA
 ne:dx≠x
theorem Zbq{h:Heap}{dx:Addr}{mA:Str->Option Value}(n:h.Ns1 dx mA):∃od,h.get? dx=some od/\∀name,PySem.W.lookIn name od=some (mA name):=by
 obtain⟨o,es,ep,ho,hd,hk,_,hm⟩:=n;refine⟨o,ho,λname => ?_⟩;have e:=hm name;unfold nsFind findBy at e;rw [<-Array.find?_toList]at e;unfold PySem.W.lookIn;rw [hd];dsimp only
 split
 · rename_i y q
   rw [q]at e;exact congrArg some e
 · rename_i q
   rw [q]at e
   have a:es.toList.any (·.refKey)=false:=by
    rw [List.any_eq_false];intro y hy;obtain⟨z,t,hkey⟩:=hk y (Array.mem_toList_iff.mp hy);simp [DictEntry.refKey,hkey]
   have a':¬es.toList.any (·.refKey)=true:=by rw [a];exact Bool.false_ne_true
   rw [if_neg a'];exact congrArg some e
theorem ObjM.look{h:Heap}{x dx C:Addr}{mA:Str->Option Value}(I:ObjM h x dx C mA):∃od,PySem.W.InstAt h x (instObj C dx) C (some od)/\∀name,PySem.W.lookIn name od=some (mA name):=
 let⟨od,ho,hl⟩:=Zbq I.ns
 ⟨od,⟨I.obj,rfl,rfl,ho⟩,hl⟩
section
variable{prog:Program}{w:World}{A:Around}{E:Value->Shared->Prop}{s:Shared}{K:PySem.W.Frag}{x dx C f:Addr}{mA:Str->Option Value}{name:Str}{v:Value}
theorem Zgo {expr:Bool} {Q:Value->Shared->Prop} (X:K.In s.heap) (I:ObjM s.heap x dx C mA) (hg:PySem.W.plainGet K C name=true) (hh:PySem.W.hasDictIn K C=true)
 (ha:PySem.W.findIn K (.ref C) name=some none) (hv:mA name=some v) (hv':PySem.W.handedIn v=true) (h:Q v { s with toks:=s.toks+1 }) :
 wpAny (model prog w) A (getAttr (.ref x) name expr) Q E s:=by
 obtain⟨od,J,hl⟩:=I.look;exact PySem.W.get_value X J (PySem.W.plainGet_of hg).1 (PySem.W.findObj_own hh ha rfl (by rw [hl,hv])) hv' h
theorem ZeH {pl:Sem Bool} {Q:Value×List Value->Shared->Prop} (X:K.In s.heap) (I:ObjM s.heap x dx C mA) (hg:PySem.W.plainGet K C name=true)
 (hf:PySem.W.findIn K (.ref C) name=some (some (.ref f))) (ht:PySem.W.isFn K (.ref f)=true) (hv:mA name=none) (h:Q (.ref f,[.ref x]) s) :
 wpAny (model prog w) A (getMethod (.ref x) name pl) Q E s:=by
 obtain⟨od,J,hl⟩:=I.look;exact PySem.W.method_fn X J (PySem.W.plainGet_of hg).1 (PySem.W.plainGet_of hg).2 hf (beq_iff_eq.mp ht) (by show(PySem.W.lookIn name od).map (·.isSome)=some false;rw [hl,hv];rfl) h
theorem Zgp {ns:List Str} {Q:Unit->Shared->Prop} (X:K.In s.heap) (I:ObjM s.heap x dx C mA)
 (hs:PySem.W.findIn K (.ref C) "__setattr__" = some (some (.builtin "object.__setattr__"))) (hp:PySem.W.plainOver K C=true) (ht:PySem.W.takerIn K C name=some none) (hh:PySem.W.hasDictIn K C=true)
 (hw:PySem.Within mA ns) (hsz:ns.length<=sizeLine)
 (h:∀h',ObjM h' x dx C (λy=>if y=name then some v else mA y)->Heap.SameBut dx s.heap h'->Q () { s with heap:=h',toks:=s.toks+2 }) :
 wpAny (model prog w) A (setAttr (.ref x) name v) Q E s:=by
 obtain⟨od,J,hl⟩:=I.look;refine PySem.W.set_plain X J hs (PySem.W.osa_open (s:={ s with toks:=s.toks+1 }) (r:=none) X J hp ht λb => ?_);obtain⟨cd,hc,hd'⟩:=PySem.W.any_some hh;have hx:s.heap.get? x=some ⟨.ref C,some dx,.plain,#[]⟩:=I.obj;refine wpAny_bind (wpAny_pure (wpAny_bind (wpAny_bind (wpAny_loadPart hx (wpAny_bind (PySem.W.Looks.here (s:={ s with toks:=s.toks+1 }) (PySem.W.looks_clsIn X hc) ?_))))))
 rw [hd'];refine wpAny_pure (a:=some dx) (wpAny_bind (wpAny_pure (wpAny_bind ?_)));refine wpAny_nsSet1 (s:={ s with toks:=s.toks+1 }) I.ns λh' hn2 hs2 => ?_
 obtain⟨oD,esD,epD,hoD,hdD,hcD⟩:=hn2.count (PySem.Within.cons name v hw);refine wpAny_bind (wpAny_lookBehind hoD (by rw [hdD];exact pastItsLine_dict (Nat.le_trans hcD (by rw [List.length_cons];omega))) ?_);exact wpAny_pure (h _ ⟨(hs2.2 _ (Ne.symm I.ne)).trans I.obj,hn2,I.ne⟩ hs2)
theorem ZeI {R:Result->Shared->Prop} {vs:List Value} {kw:List (Str×Value)} (X:K.In s.heap) (hm:PySem.W.makesIn K C=true)
 (hi:PySem.W.findIn K (.ref C) "__init__" = some (some (.ref f))) (hf:PySem.W.typeIn K (.ref f)=some (.type "function"))
 (h:codeAny (model prog w) (A.under (.builtin "type.__call__" ⟨.ref C::vs,kw⟩)) (.call (.ref f) ⟨.ref (s.heap.objs.size+1)::vs,kw⟩) (PySem.W.InitBack (s.heap.objs.size+1) R)
   { s with heap:=(s.heap.push emptyDict).push (instObj C s.heap.objs.size) }) :
 codeAny (model prog w) A (.call (.ref C) ⟨vs,kw⟩) R s:=by
 obtain⟨hh,g,d,t,os⟩:=s;exact PySem.W.make_core (PySem.W.makes_of X hm) (PySem.W.looks_findIn X hi) (λself=>PySem.W.bind_fn X self hf) (.inl rfl) h
end
def Xc(f:Str)(v:V):List (Str×V)->List (Str×V)
 | []=>[(f,v)]
 |(g,x)::r=>if g=f then(g,v)::r else(g,x)::Xc f v r
theorem ZaN(f g:Str)(v:V):∀fs:List (Str×V),(Xc f v fs).lookup g=if g=f then some v else fs.lookup g
 | []=>by
  show List.lookup g [(f,v)]=_
  by_cases h:g=f
  · have hb:(g == f)=true:=beq_iff_eq.mpr h
    simp only [List.lookup,hb,if_pos h]
  · have hb:(g == f)=false:=beq_eq_false_iff_ne.mpr h
    simp only [List.lookup,hb,if_neg h]
 |(k,x)::r=>by
  have ih:=ZaN f g v r;rw [show Xc f v ((k,x)::r)=(if k=f then(k,v)::r else(k,x)::Xc f v r)from rfl]
  by_cases hk:k=f
  · rw [if_pos hk]
    by_cases h:g=k
    · have hb:(g == k)=true:=beq_iff_eq.mpr h
      simp only [List.lookup,hb,if_pos (h.trans hk)]
    · have hb:(g == k)=false:=beq_eq_false_iff_ne.mpr h
      simp only [List.lookup,hb,if_neg (λe:g=f=>h (e.trans hk.symm))]
  · rw [if_neg hk]
    by_cases h:g=k
    · have hb:(g == k)=true:=beq_iff_eq.mpr h
      simp only [List.lookup,hb,if_neg (λe:g=f=>hk (h.symm.trans e))]
    · have hb:(g == k)=false:=beq_eq_false_iff_ne.mpr h
      simp only [List.lookup,hb];exact ih
theorem ZaF(f:Str)(v:V):∀fs:List (Str×V),f∈(Xc f v fs).map (·.1)/\∀g,g∈fs.map (·.1)->g∈(Xc f v fs).map (·.1)
 | []=>⟨by simp [Xc],λg h=>by simp at h⟩
 |(k,x)::r=>by
  obtain⟨i1,i2⟩:=ZaF f v r;rw [show Xc f v ((k,x)::r)=(if k=f then(k,v)::r else(k,x)::Xc f v r)from rfl]
  by_cases hk:k=f
  · rw [if_pos hk]
    subst hk;exact⟨by simp,λg h=>by simpa using h⟩
  · rw [if_neg hk]
    refine⟨?_,λg h => ?_⟩
    · rw [List.map_cons]
      exact List.mem_cons_of_mem _ i1
    · rw [List.map_cons]at h ⊢
      rcases List.mem_cons.mp h with e|e
      · exact List.mem_cons.mpr (.inl e)
      · exact List.mem_cons_of_mem _ (i2 g e)
theorem ZaO(f:Str)(v:V):∀fs:List (Str×V),(Xc f v fs).length<=fs.length+1
 | []=>by simp [Xc]
 |(k,x)::r=>by
  have ih:=ZaO f v r;rw [show Xc f v ((k,x)::r)=(if k=f then(k,v)::r else(k,x)::Xc f v r)from rfl]
  by_cases hk:k=f
  · rw [if_pos hk,List.length_cons,List.length_cons];omega
  · rw [if_neg hk,List.length_cons,List.length_cons];omega
theorem RelO.some_of{v:V}{o:Option Value}(r:RelO (some v) o):∃u,o=some u/\RelV v u:=by
 cases o with
 |none=>exact(show False from r).elim
 |some u=>exact⟨u,rfl,r⟩
theorem RelO.none_of{o:Option Value}(r:RelO none o):o=none:=by
 cases o with
 |none=>rfl
 |some u=>exact(show False from r).elim
theorem Zbr{v:V}{u:Value}(r:RelV v u):PySem.W.handedIn u=true:=by
 cases v with
 |non=>cases(show u=Value.none from r);rfl
 |bl b=>cases(show u=Value.bool b from r);rfl
 |int i=>obtain⟨t,e⟩:=(show ∃t,u=Value.int i t from r);cases e;rfl
 |str x=>obtain⟨t,e⟩:=(show ∃t,u=Value.str x t from r);cases e;rfl
 |byt b=>obtain⟨t,e⟩:=(show ∃t,u=Value.bytes b t from r);cases e;rfl
 |flt b=>obtain⟨t,e⟩:=(show ∃t,u=Value.float b t from r);cases e;rfl
 |ref a=>cases(show u=Value.ref a from r);rfl
 |ty n=>cases(show u=Value.type n from r);rfl
section
variable{P:Program}{w:World}{H H':Hp}{h h':Heap}{a C dx:Addr}{fs fs':List (Str×V)}
theorem JB(hok:HOk P w H h)(e:H a=some (.ins C dx fs)):∃mA,ObjM h a dx C mA/\(∀f,RelO (fs.lookup f) (mA f))/\PySem.Within mA (fs.map (·.1))/\fs.length<=1000/\H dx=some (.own a):=by
 obtain⟨d,z,ne,ob,mA,n,r,q⟩:=(show ObjOk P w H h a (.ins C dx fs)from hok a _ e)
 exact⟨mA,⟨ob,n,ne⟩,r,q,z,d⟩
end
structure Cls(K:PySem.W.Frag)(C:Addr):Prop where
 pg:PySem.W.plainGet K C Str.empty=true
 hd:PySem.W.hasDictIn K C=true
 po:PySem.W.plainOver K C=true
 sa:PySem.W.findIn K (.ref C) "__setattr__" = some (some (.builtin "object.__setattr__"))
theorem Cls.get{K:PySem.W.Frag}{C:Addr}(c:Cls K C)(f:Str):PySem.W.plainGet K C f=true:=c.pg
def NoAttr(K:PySem.W.Frag)(C:Addr)(f:Str):Prop:=PySem.W.findIn K (.ref C) f=some none
theorem NoAttr.taker{K:PySem.W.Frag}{C:Addr}{f:Str}(n:NoAttr K C f):PySem.W.takerIn K C f=some none:=by
 unfold PySem.W.takerIn;rw [show PySem.W.findIn K (.ref C) f=some none from n];rfl
structure Con(K:PySem.W.Frag)(C:Addr)(f:Str)(v:V)(u:Value):Prop where
 at_:PySem.W.findIn K (.ref C) f=some (some u)
 rel:RelV v u
 get:PySem.W.specialIn K u "__get__" = some none
 cp:PySem.W.copiedNames.contains f=false
structure Meth(K:PySem.W.Frag)(C:Addr)(m:Str)(f:Addr):Prop where
 at_:PySem.W.findIn K (.ref C) m=some (some (.ref f))
 fn:PySem.W.isFn K (.ref f)=true
 kp:PySem.W.keepIn K (.ref f)=true
section
variable{X:Cx}{pins:List (Addr×Obj)}{σ:St}{H:Hp}{s:Shared}{a C dx:Addr}{fs:List (Str×V)}{f:Str}{v:V}{A:Around}{E:Value->Shared->Prop}
theorem ZcP {b:Bool} {Q:Value->Shared->Prop} (I:Inv X pins σ H s) (e:H a=some (.ins C dx fs)) (c:Cls X.K C) (n:NoAttr X.K C f) (l:fs.lookup f=some v)
 (h:∀u s',Inv X pins σ H s'->RelV v u->Q u s'):wpAny (model X.prog X.w) A (getAttr (.ref a) f b) Q E s:=by
 obtain⟨mA,O,r,_,_,_⟩:=JB I.hok e;obtain⟨u,hu,ru⟩:=RelO.some_of (v:=v) (o:=mA f) (by rw [<-l];exact r f);exact Zgo I.kIn O (c.get f) c.hd n hu (Zbr ru) (h u _ (I.tok _) ru)
theorem ZaV {m:Str} {g:Addr} {pl:Sem Bool} {Q:Value×List Value->Shared->Prop} (I:Inv X pins σ H s) (e:H a=some (.ins C dx fs)) (c:Cls X.K C) (k:Meth X.K C m g) (l:fs.lookup m=none)
 (h:Q (.ref g,[.ref a]) s):wpAny (model X.prog X.w) A (getMethod (.ref a) m pl) Q E s:=by
 obtain⟨mA,O,r,_,_,_⟩:=JB I.hok e;have hn:mA m=none:=RelO.none_of (by rw [<-l];exact r m);exact ZeH I.kIn O (c.get m) k.at_ k.fn hn h
theorem ZcQ {y:V} {u:Value} {Q:Unit->Shared->Prop} (I:Inv X pins σ H s) (e:H a=some (.ins C dx fs)) (c:Cls X.K C) (n:NoAttr X.K C f) (hl:fs.length<1000) (ry:RelV y u)
 (h:∀s',Inv X pins σ (upd H a (.ins C dx (Xc f y fs))) s'->Q () s'):wpAny (model X.prog X.w) A (setAttr (.ref a) f u) Q E s:=by
 obtain⟨mA,O,r,wi,_,ho⟩:=JB I.hok e;have hz:(fs.map (·.1)).length<=sizeLine:=by rw [List.length_map,sizeLine_eq];omega
 refine Zgp I.kIn O c.sa c.po n.taker c.hd wi hz λh' O' sb=>h _ ?_
 have hd:∃o,h'.get? dx=some o:=let⟨o,_,_,e',_⟩:=O'.ns;⟨o,e'⟩
 refine I.write (x:=a) (e:=dx) (by rw [e];exact True.intro) (.inr ho) (λb q hb z=>(sb.2 b hb).trans z) hd ?_;refine⟨by rw [ZJ O.ne];exact ho,?_,O.ne,O'.obj,_,O'.ns,λg => ?_,λg hg => ?_⟩
 · have:=ZaO f y fs;omega
 · show RelO ((Xc f y fs).lookup g) (if g=f then some u else mA g)
   rw [ZaN]
   by_cases q:g=f
   · rw [if_pos q,if_pos q];exact ry
   · rw [if_neg q,if_neg q];exact r g
 · by_cases q:g=f
   · rw [q];exact(ZaF f y fs).1
   · refine(ZaF f y fs).2 g (wi g λz=>hg ?_)
     show(if g=f then some u else mA g)=none;rw [if_neg q];exact z
theorem Inv.made(I:Inv X pins σ H s):Inv X pins σ (upd (upd H s.heap.objs.size (.own (s.heap.objs.size+1))) (s.heap.objs.size+1) (.ins C s.heap.objs.size []))
 { s with heap:=(s.heap.push emptyDict).push (instObj C s.heap.objs.size) }:=by
 have e1:(s.heap.push emptyDict).get? s.heap.objs.size=some emptyDict:=Heap.get?_push_size s.heap rfl
 have e2:((s.heap.push emptyDict).push (instObj C s.heap.objs.size)).get? (s.heap.objs.size+1)=some (instObj C s.heap.objs.size):=by
  have:=Heap.get?_push_size (s.heap.push emptyDict) (o:=instObj C s.heap.objs.size) rfl
  rwa [Heap.size_push]at this
 have e3:(s.heap.push emptyDict).Ns s.heap.objs.size (λ_=>none):=⟨emptyDict,#[],_,e1,rfl,(λe he=>absurd he (by simp)),λ_=>rfl⟩
 have I1:=I.laid (a:=s.heap.objs.size) (o:=.own (s.heap.objs.size+1)) (h':=s.heap.push emptyDict) (t':=s.toks) (λb u q=>Heap.get?_push_of_some _ q) (Nat.le_refl _) ⟨_,e1⟩;refine I1.laid (a:=s.heap.objs.size+1) (o:=.ins C s.heap.objs.size []) (t':=s.toks) (λb u q=>Heap.get?_push_of_some _ q) (Nat.le_of_eq (Heap.size_push _ _)) ?_;have ne:s.heap.objs.size≠s.heap.objs.size+1:=Nat.ne_of_lt (Nat.lt_succ_self _)
 refine⟨by rw [ZJ ne,YH],Nat.zero_le _,ne,e2,λ_=>none,(Heap.Ns1.of_empty e3).at λo q=>Heap.get?_push_of_some _ q,λ_=>True.intro,λy hy=>absurd rfl hy⟩
theorem Zdn {prog:Program} {w:World} {env:Env} {e:Expr} {f:Str} {pos:Pos} {s:Shared} {Q:Value->Shared->Prop} (hb:attributeBase e f env (eval e env)=eval e env)
 (h:wpAny (model prog w) A (eval e env) (λo s₁=>wpAny (model prog w) A (getAttr o f true) Q E s₁) E s):wpAny (model prog w) A (eval (.Attribute e f pos) env) Q E s:=
 Attribute_any_ h (by rw [arm_eval_Attribute,hb])
end
def Zi4(K:PySem.W.Frag)(ta:TE)(f:Str):TE:=λσ H Q=>ta σ H λx H1=>∃a C dx fs v,x = .ref a/\H1 a=some (.ins C dx fs)/\Cls K C/\NoAttr K C f/\fs.lookup f=some v/\Q v H1
def Zk3(K:PySem.W.Frag)(ta tv:TE)(f:Str):TS:=λD σ H=>tv σ H λy H1=>ta σ H1 λx H2=>∃a C dx fs,x = .ref a/\H2 a=some (.ins C dx fs)/\Cls K C/\NoAttr K C f/\fs.length<1000 /\
 D.nx σ (upd H2 a (.ins C dx (Xc f y fs)))
section
variable{X:Cx}{o e value:Expr}{f:Str}{pos pos' tpos:Pos}{ta tv:TE}
theorem ZhQ(he:PE X e ta)(hb:attributeBase e f X.env (eval e X.env)=eval e X.env):PE X (.Attribute e f pos) (Zi4 X.K ta f):=by
 intro pins s σ H Q I h;refine Zdn hb (thn (he pins s σ H _ I h) λu s1 ⟨x,H1,I1,rx,a,C,dx,fs,v,ex,ea,c,n,l,q⟩ => ?_);subst ex;obtain rfl:u=Value.ref a:=rx;exact ZcP I1 ea c n l λu' s2 I2 ru=>⟨v,H1,I2,ru,q⟩
theorem XU(ha:PE X o ta)(hv:PE X value tv)(hs:swapsWith value (some (.Attribute o f pos')) pos.line X.env=pure false):PS X (.Assign [.Attribute o f pos'] value pos) (Zk3 X.K ta tv f):=by
 intro pins s σ H D I h;refine plainObj_wpAny_Assign_Attribute (thn (hv pins s σ H _ I h) λu s1 ⟨y,H1,I1,ry,q⟩=>thn (ha pins s1 σ H1 _ I1 q) λov s2 ⟨x,H2,I2,rx,a,C,dx,fs,ex,ea,c,n,l,q2⟩ => ?_) hs;subst ex;obtain rfl:ov=Value.ref a:=rx;exact ZcQ I2 ea c n l ry λs3 I3=>⟨σ,_,I3,q2⟩
end
section
variable{X:Cx}{pins:List (Addr×Obj)}{σ:St}{H:Hp}{s:Shared}{A:Around}{E:Value->Shared->Prop}{Q:Value->Shared->Prop}{c:Value}{b:Bool}
inductive TyOf(K:PySem.W.Frag)(H:Hp):V->Value->Prop where
 |non:TyOf K H .non (.type "NoneType")
 |bl (x:Bool):TyOf K H (.bl x) (.type "bool")
 |int (i:Int):TyOf K H (.int i) (.type "int")
 |str (x:Str):TyOf K H (.str x) (.type "str")
 |flt (x:UInt64):TyOf K H (.flt x) (.type "float")
 |lst {a:Addr} {xs:List V} (e:H a=some (.lst xs)):TyOf K H (.ref a) (.type "list")
 |frz {a:Addr} {o:Obj} {xs:List V} (e:H a=some (.frz o (.lst xs))):TyOf K H (.ref a) (.type "list")
 |tup {a:Addr} {xs:List V} (e:H a=some (.tup xs)):TyOf K H (.ref a) (.type "tuple")
 |dK {a:Addr} {kvs:List (Key×V)} (e:H a=some (.dK kvs)):TyOf K H (.ref a) (.type "dict")
 |dT {a:Addr} {kvs:List (List Key×V)} (e:H a=some (.dT kvs)):TyOf K H (.ref a) (.type "dict")
 |ins {a C dx:Addr} {fs:List (Str×V)} (e:H a=some (.ins C dx fs)) (cl:Cls K C) (ha:PySem.W.findIn K (.ref C) "__class__" = some (some (.builtin "object.__class__")))
  (hn:PySem.W.specialIn K (.builtin "object.__class__") "__get__" = some (some (.builtin "getset_descriptor.__get__"))) (htk:PySem.W.takesIn K (.builtin "object.__class__")=some true)
  (hm:PySem.W.mroIn K C (.type "object")=some true):TyOf K H (.ref a) (.ref C)
theorem Zd3{x:V}{u t:Value}(I:Inv X pins σ H s)(rx:RelV x u)(ty:TyOf X.K H x t)(e:PySem.W.kitOne X.K t c=some b)(h:∀tk,Q (.bool b) { s with toks:=tk }) :
 wpAny (model X.prog X.w) A (call (.builtin "isinstance") [u,c]) Q E s:=by
 cases ty with
 |non=>cases(show u=Value.none from rx);exact PySem.W.kia_one PySem.W.kitx_none I.kIn True.intro e (λz=>nomatch z) h
 |bl y=>cases(show u=Value.bool y from rx);exact PySem.W.kia_one PySem.W.kitx_bool I.kIn True.intro e (λz=>nomatch z) h
 |int i=>obtain⟨t,q⟩:=(show ∃t,u=Value.int i t from rx);cases q;exact PySem.W.kia_one PySem.W.kitx_int I.kIn True.intro e (λz=>nomatch z) h
 |str y=>obtain⟨t,q⟩:=(show ∃t,u=Value.str y t from rx);cases q;exact PySem.W.kia_one PySem.W.kitx_str I.kIn True.intro e (λz=>nomatch z) h
 |flt y=>obtain⟨t,q⟩:=(show ∃t,u=Value.float y t from rx);cases q;exact PySem.W.kia_one PySem.W.kitx_float I.kIn True.intro e (λz=>nomatch z) h
 | @lst a xs ea=>
  cases(show u=Value.ref a from rx);obtain⟨_,_,n,_,h1⟩:=(show ObjOk X.prog X.w H s.heap a (.lst xs)from I.hok a _ ea)
  exact PySem.W.kia_one PySem.W.kitx_list I.kIn ⟨_,h1,rfl⟩ e (λz=>nomatch z) h
 | @frz a ob xs ea=>
  cases(show u=Value.ref a from rx);obtain⟨_,_,_,n,_,h1⟩:=(show ObjOk X.prog X.w H s.heap a (.frz ob (.lst xs))from I.hok a _ ea)
  exact PySem.W.kia_one PySem.W.kitx_list I.kIn ⟨_,h1,rfl⟩ e (λz=>nomatch z) h
 | @tup a xs ea=>
  cases(show u=Value.ref a from rx);obtain⟨_,_,_,p⟩:=(show ObjOk X.prog X.w H s.heap a (.tup xs)from I.hok a _ ea)
  obtain⟨o,h1,h2,_⟩:=p;exact PySem.W.kia_one PySem.W.kitx_tuple I.kIn ⟨o,h1,h2⟩ e (λz=>nomatch z) h
 | @dK a kvs ea=>
  cases(show u=Value.ref a from rx);obtain⟨_,_,vs,_,p⟩:=(show ObjOk X.prog X.w H s.heap a (.dK kvs)from I.hok a _ ea)
  obtain⟨o,es,ep,h1,h2,_⟩:=p;exact PySem.W.kia_one PySem.W.kitx_dict I.kIn ⟨o,h1,h2.1⟩ e (λz=>nomatch z) h
 | @dT a kvs ea=>
  cases(show u=Value.ref a from rx);obtain⟨_,_,xs,_,o,es,ep,h1,h2,_⟩:=(show ObjOk X.prog X.w H s.heap a (.dT kvs)from I.hok a _ ea)
  exact PySem.W.kia_one PySem.W.kitx_dict I.kIn ⟨o,h1,h2.1⟩ e (λz=>nomatch z) h
 | @ins a C dx fs ea cl ha hn htk hm=>
  cases(show u=Value.ref a from rx);obtain⟨mA,O,_⟩:=JB I.hok ea;obtain⟨od,J,_⟩:=O.look;exact PySem.W.kia_one (PySem.W.kitx_own (cl.get _) cl.hd ha hn htk hm) I.kIn J e (λz=>nomatch z) h
end
end L2
namespace L2
open PySem PySem.Spec PyProof.Rows
structure Room(k:Nat)(A:Around):Prop where
 hd:A.handled=none
 dp:A.depth+3*k+5<recursionLimit
 un:A.units+16*k+200<cLine
theorem Room.mono{j k:Nat}{A:Around}(r:Room k A)(h:j<=k):Room j A:=⟨r.hd,by have:=r.dp;omega,by have:=r.un;omega⟩
theorem Room.deeper{k:Nat}{A:Around}(r:Room (k+1) A)(env:Env):Room k (A.deeper env):=
 ⟨r.hd,by have:=r.dp;show A.depth+1+3*k+5<_;omega,by have:=r.un;show A.units+3+16*k+200<_;omega⟩
theorem ZcR{A:Around}{C:Addr}{us:List Value}{kw:List (Str×Value)}:(A.under (.builtin "type.__call__" ⟨.ref C::us,kw⟩)).depth=A.depth+1:=by
 first|rfl|simp [Around.under,Code.weight,Code.isCreation,Code.isGuard,Code.isCaller,Code.frames,Code.isFrame,guardIds]
theorem ZcS{A:Around}{C:Addr}{us:List Value}{kw:List (Str×Value)}:(A.under (.builtin "type.__call__" ⟨.ref C::us,kw⟩)).units=A.units+1:=by
 first|rfl|simp [Around.under,Code.cUnits,Code.frames,Code.isFrame]
theorem Room.make{k:Nat}{A:Around}(r:Room (k+1) A)(C:Addr)(us:List Value)(kw:List (Str×Value)):Room k (A.under (.builtin "type.__call__" ⟨.ref C::us,kw⟩)):=
 ⟨r.hd,by have:=r.dp;rw [ZcR];omega,by have:=r.un;rw [ZcS];omega⟩
theorem Room.depth{k:Nat}{A:Around}(r:Room k A):A.depth<recursionLimit:=by have:=r.dp;omega
theorem Room.units{k:Nat}{A:Around}(r:Room k A):A.units+64<cLine:=by have:=r.un;omega
def tNil:TA:=λ_ H Q=>Q [] H
def Y5(ta:TE)(tr:TA):TA:=λσ H Q=>ta σ H λx H1=>tr σ H1 λxs H2=>Q (x::xs) H2
section
variable{X:Cx}{e:Expr}{es:List Expr}{te:TE}{t:TA}{pos:Pos}
theorem Zj:PA X [] tNil:=λ_ _ _ _ H Q I h=>Calls.spliced_nil ⟨[],H,I,.nil,h⟩
theorem Zc(ha:PE X e te)(hr:PA X es t)(hs:starEach (e::es) X.env=(false,eval e X.env)::starEach es X.env:=by rfl):PA X (e::es) (Y5 te t):=by
 intro pos pins s σ H Q I h;rw [hs];show wpAny _ _ (spliced ((false,eval e X.env)::backTo pos (starEach es X.env))) _ _ s;refine Calls.spliced_cons (thn (ha pins s σ H _ I h) λu s1 ⟨x,H1,I1,r1,q1⟩ => ?_);exact thn (hr pos pins s1 σ H1 _ I1 q1) λus s2 ⟨xs,H2,I2,r2,q2⟩=>⟨x::xs,H2,I2,.cons r1 r2,q2⟩
def Zi5(t:TA):TE:=λσ H Q=>t σ H λxs H1=>xs.length<=sizeLine/\∀p,H1 p=none->Q (.ref p) (upd H1 p (.tup xs))
def Zk4(t:TA):TE:=λσ H Q=>t σ H λxs H1=>xs.length<=sizeLine/\∀p,H1 p=none->Q (.ref p) (upd H1 p (.lst xs))
theorem Zc7{x1}(h:PA X es t):PE X (.Tuple es x1 pos) (Zi5 t):=by
 intro pins s σ H Q I hq;refine wpAny_Tuple_spliced (thn (h pos pins s σ H _ I hq) λus s1 ⟨xs,H1,I1,r,z,q⟩=>⟨by rw [<-r.length];exact z,?_⟩);have hf:H1 s1.heap.objs.size=none:=I1.hok.fresh (Nat.le_refl _);refine⟨.ref s1.heap.objs.size,upd H1 s1.heap.objs.size (.tup xs),I1.laid (t':=s1.toks) (λb u e=>Heap.get?_push_of_some _ e) (Nat.le_refl _) ?_,rfl,q _ hf⟩;exact⟨z,us,r,⟨_,Heap.get?_push_size _ rfl,rfl,⟨_,rfl⟩,rfl⟩⟩
theorem Yn(h:PA X es t):PE X (.List es pos) (Zk4 t):=by
 intro pins s σ H Q I hq;refine wpAny_List_spliced (thn (h pos pins s σ H _ I hq) λus s1 ⟨xs,H1,I1,r,z,q⟩=>⟨by rw [<-r.length];exact z,?_⟩);have hf:H1 s1.heap.objs.size=none:=I1.hok.fresh (Nat.le_refl _);refine⟨.ref s1.heap.objs.size,upd H1 s1.heap.objs.size (.lst xs),I1.laid (t':=s1.toks) (λb u e=>Heap.get?_push_of_some _ e) (Nat.le_refl _) ?_,rfl,q _ hf⟩;exact⟨z,us,0,r,Heap.get?_push_size _ rfl⟩
end
abbrev Sp:=List V->Hp->VK->XK->Prop
abbrev CXT:=List Env->Hp->Shared->XK->Value->Shared->Prop
structure Env0(P:Program)(w:World)(K:PySem.W.Frag)(mg:Str->Option Value)(base:Heap)(A:Around)(outer:List Env)(s:Shared)(H:Hp):Prop where
 frames:A.frames=some outer
 mod:Mod K mg base
 bs:∀b o,base.get? b=some o->s.heap.get? b=some o/\H b=none
 bsz:base.objs.size<=s.heap.objs.size
 funs:s.heap.FunFrames base outer
 frf:∀b∈frs outer,H b=none
 hok:HOk P w H s.heap
 bare:AllBare s.gens
def CE(outer:List Env)(P:Program)(w:World)(H:Hp)(s:Shared)(Q:VK)(u:Value)(s':Shared):Prop:=
 ∃v H',s'.os=s.os/\AllBare s'.gens/\Un (frs outer) [] H H' s.heap s'.heap/\HOk P w H' s'.heap/\RelV v u/\Q v H'
def CR(CX:CXT)(outer:List Env)(P:Program)(w:World)(H:Hp)(s:Shared)(Q:VK)(E:XK)(r:Result)(s':Shared):Prop:=
 match r with
 | .ok (.ret u)=>CE outer P w H s Q u s'
 | .ok _=>False
 | .error e=>CX outer H s E e s'
structure FnOk(P:Program)(w:World)(K:PySem.W.Frag)(mg:Str->Option Value)(base:Heap)(CX:CXT)(k:Nat)(f:Addr)(fd:FuncData)(ps:List Str)(sp:Sp):Prop where
 len:∀vs H Q E,sp vs H Q E->vs.length=ps.length
 run:∀(A:Around)(outer:List Env)(s:Shared)(H:Hp)(args:Args)(us:List Value)(vs:List V)(Q:VK)(E:XK),Room k A->Env0 P w K mg base A outer s H->BindsTo s fd args (ps.zip us)->Vals vs us->sp vs H Q E ->
  codeAny (model P w) A (.call (.ref f) args) (CR CX outer P w H s Q E) s
theorem FnOk.mono{P:Program}{w:World}{K:PySem.W.Frag}{mg:Str->Option Value}{base:Heap}{CX:CXT}{j k:Nat}{f:Addr}{fd:FuncData}{ps:List Str}{sp:Sp}(F:FnOk P w K mg base CX j f fd ps sp)(h:j<=k) :
 FnOk P w K mg base CX k f fd ps sp:=⟨F.len,λA outer s H args us vs Q E hr=>F.run A outer s H args us vs Q E (hr.mono h)⟩
theorem FnOk.imp {P:Program} {w:World} {K:PySem.W.Frag} {mg:Str->Option Value} {base:Heap} {CX:CXT} {k:Nat} {f:Addr} {fd:FuncData} {ps:List Str} {sp sp':Sp} (F:FnOk P w K mg base CX k f fd ps sp)
 (h:∀vs H Q E,sp' vs H Q E->sp vs H Q E):FnOk P w K mg base CX k f fd ps sp':=
 ⟨λvs H Q E q=>F.len vs H Q E (h _ _ _ _ q),λA outer s H args us vs Q E hr he hb hv hs=>F.run A outer s H args us vs Q E hr he hb hv (h _ _ _ _ hs)⟩
theorem Env0.make{P:Program}{w:World}{K:PySem.W.Frag}{mg:Str->Option Value}{base:Heap}{A:Around}{outer:List Env}{s:Shared}{H:Hp}(e:Env0 P w K mg base A outer s H)(C:Addr)(us:List Value)(kw:List (Str×Value)) :
 Env0 P w K mg base (A.under (.builtin "type.__call__" ⟨.ref C::us,kw⟩)) outer s H:=⟨by first|exact e.frames|(simpa [Around.under,Code.envs,Code.isFrame,pushEnvs]using e.frames),e.mod,e.bs,e.bsz,e.funs,e.frf,e.hok,e.bare⟩
section
variable{X:Cx}{pins:List (Addr×Obj)}{σ:St}{H:Hp}{s s':Shared}
theorem Inv.env0(I:Inv X pins σ H s):Env0 X.prog X.w X.K X.mg X.base X.A X.stack s H:=
 ⟨I.ok.frames,I.ok.mod,I.bs,Nat.le_trans I.ok.bsz I.sz,I.stack,I.stkFree,I.hok,I.bare⟩
theorem Inv.after{Q:VK}{u:Value}(I:Inv X pins σ H s)(h:CE X.stack X.prog X.w H s Q u s'):EP X pins σ Q u s':=by
 obtain⟨v,H',os,bare,un,hok,r,q⟩:=h;obtain⟨hh,g,d,t,os'⟩:=s';obtain rfl:os'=s.os:=os;exact⟨v,H',I.call (h':=hh) (g':=g) (d':=d) (t':=t) (ch:=[]) un hok bare (λb z=>absurd z (by simp)),r,q⟩
end
def X5(sp:Sp)(dvs:List V)(E:XK)(t:TA):TE:=λσ H Q=>t σ H λvs H1=>sp (vs++dvs) H1 Q E
def JC(C:Addr)(sp:Sp)(dvs:List V)(E:XK)(t:TA):TE:=λσ H Q=>t σ H λvs H1=>∀x dx,H1 x=none->H1 dx=none->dx≠x ->
 sp (.ref x::(vs++dvs)) (upd (upd H1 dx (.own x)) x (.ins C dx [])) (λv H2=>v = .non/\Q (.ref x) H2) E
def Binds(K:PySem.W.Frag)(fd:FuncData)(ps:List Str)(ds:List Value):Prop:=
 ∀(s:Shared)(us:List Value),K.In s.heap->(us++ds).length=ps.length->BindsTo s fd ⟨us,[]⟩ (ps.zip (us++ds))
theorem Binds.all{K:PySem.W.Frag}{fd:FuncData}{ps:List Str}(h:∀us:List Value,us.length=ps.length->bindArgs fd ⟨us,[]⟩=pure (ps.zip us)):Binds K fd ps []:=λs us _ hl=>by
 rw [List.append_nil]at hl ⊢;exact .of_eq (h us hl)
def XV(CX:CXT)(X:Cx)(E:XK):Prop:=∀(pins:List (Addr×Obj))(σ:St)(H:Hp)(s:Shared)(e:Value)(s':Shared),Inv X pins σ H s->CX X.stack H s E e s'->X.xe e s'
section
variable{X:Cx}{CX:CXT}{k:Nat}{f C:Addr}{fd:FuncData}{ps:List Str}{sp:Sp}{dvs:List V}{ds:List Value}{E:XK}{x m:Str}{p pos apos:Pos}{e o:Expr}{es:List Expr}{ta:TE}{t:TA}
theorem QN {pins:List (Addr×Obj)} {σ:St} {H:Hp} {s:Shared} {Q:VK} {us:List Value} {vs:List V} (F:FnOk X.prog X.w X.K X.mg X.base CX k f fd ps sp) (hr:Room k X.A) (hb:Binds X.K fd ps ds) (hd:Vals dvs ds) (hx:XV CX X E)
 (I:Inv X pins σ H s) (r:Vals vs us) (h:sp (vs++dvs) H Q E):wpAny (model X.prog X.w) X.A (call (.ref f) us) (EP X pins σ Q) X.xe s:=by
 have r2:Vals (vs++dvs) (us++ds):=r.append hd;have hl:(us++ds).length=ps.length:=by rw [<-r2.length];exact F.len _ _ _ _ h
 refine wpAny_call (codeAny_mono (F.run X.A X.stack s H ⟨us,[]⟩ (us++ds) (vs++dvs) Q E hr I.env0 (hb s us I.kIn hl) r2 h) λr s' hq => ?_);cases r with
 |error e=>exact hx pins σ H s e s' I hq
 |ok fl=>
  cases fl with
  |ret u=>exact I.after hq
  |next=>exact False.elim hq
  |brk=>exact False.elim hq
  |cont=>exact False.elim hq
theorem ZL (F:FnOk X.prog X.w X.K X.mg X.base CX k f fd ps sp) (hr:Room k X.A) (hg:Gl X x) (hm:X.mg x=some (.ref f)) (hk:PySem.W.keepIn X.K (.ref f)=true) (hb:Binds X.K fd ps ds) (hd:Vals dvs ds) (hx:XV CX X E)
 (ha:PA X (e::es) t) (hdb:(x == ("__debug__" : Str))=false:=by decide) (he:starEach (e::es) X.env=(false,eval e X.env)::starEach es X.env:=by rfl) (hpl:(backTo pos (starEach es X.env)).any (·.1)=false:=by rfl) :
 PE X (.Call (.Name x p) (e::es) [] pos) (X5 sp dvs E t):=by
 intro pins s σ H Q I h;refine wpAny_Call_Name_kw (Vg I hg hm ?_ hdb);refine PySem.W.callWith_K (h₀:=X.base) I.ok.mod.kin hk (thn (ha pos pins s σ H _ I h) λus s1 ⟨vs,H1,I1,r,q⟩=>⟨I1.kIn,?_⟩) he hpl;exact QN F hr hb hd hx I1 r q
theorem ZeJ (F:FnOk X.prog X.w X.K X.mg X.base CX k f fd ps sp) (hr:Room k X.A) (hg:Gl X x) (hm:X.mg x=some (.ref f)) (hk:PySem.W.keepIn X.K (.ref f)=true) (hb:Binds X.K fd ps ds) (hd:Vals dvs ds) (hx:XV CX X E)
 (hdb:(x == ("__debug__" : Str))=false:=by decide):PE X (.Call (.Name x p) [] [] pos) (X5 sp dvs E tNil):=by
 intro pins s σ H Q I h;refine wpAny_Call_Name_kw (Vg I hg hm ?_ hdb);exact PySem.W.callWith_K0 I.kIn hk (QN (us:=[]) F hr hb hd hx I .nil h)
structure Mk(K:PySem.W.Frag)(C f:Addr):Prop where
 makes:PySem.W.makesIn K C=true
 init:PySem.W.findIn K (.ref C) "__init__" = some (some (.ref f))
 fn:PySem.W.isFn K (.ref f)=true
 kp:PySem.W.keepIn K (.ref C)=true
theorem ZeK {pins:List (Addr×Obj)} {σ:St} {H:Hp} {s:Shared} {Q:VK} {us:List Value} {vs:List V} (M:Mk X.K C f) (F:FnOk X.prog X.w X.K X.mg X.base CX k f fd ps sp) (hr:Room (k+1) X.A) (hb:Binds X.K fd ps ds) (hd:Vals dvs ds)
 (hx:XV CX X E) (I:Inv X pins σ H s) (r:Vals vs us)
 (h:∀x dx,H x=none->H dx=none->dx≠x->sp (.ref x::(vs++dvs)) (upd (upd H dx (.own x)) x (.ins C dx [])) (λv H2=>v = .non/\Q (.ref x) H2) E) :
 wpAny (model X.prog X.w) X.A (call (.ref C) us) (EP X pins σ Q) X.xe s:=by
 have hq:=h (s.heap.objs.size+1) s.heap.objs.size (I.hok.fresh (Nat.le_succ _)) (I.hok.fresh (Nat.le_refl _)) (Nat.ne_of_lt (Nat.lt_succ_self _));have I2:=Inv.made (C:=C) I;have r2:Vals (V.ref (s.heap.objs.size+1)::(vs++dvs)) (Value.ref (s.heap.objs.size+1)::(us++ds)) := .cons rfl (r.append hd)
 have hl:(Value.ref (s.heap.objs.size+1)::us++ds).length=ps.length:=by
  have e:=r2.length;rw [F.len _ _ _ _ hq]at e;exact e.symm
 refine wpAny_call (ZeI (f:=f) I.kIn M.makes M.init (beq_iff_eq.mp M.fn) (codeAny_mono (F.run _ X.stack _ _ ⟨Value.ref (s.heap.objs.size+1)::us,[]⟩ (Value.ref (s.heap.objs.size+1)::(us++ds)) _ _ E (hr.make C us [])
  (I2.env0.make C us []) (hb _ (Value.ref (s.heap.objs.size+1)::us) I2.kIn hl) r2 hq) λr s' hq' => ?_))
 cases r with
 |error e=>exact hx pins σ _ _ e s' I2 hq'
 |ok fl=>
  cases fl with
  |ret u=>
   obtain⟨v,H',I3,rv,ev,q3⟩:=I2.after hq';subst ev;exact⟨rv,⟨V.ref (s.heap.objs.size+1),H',I3,rfl,q3⟩⟩
  |next=>exact False.elim hq'
  |brk=>exact False.elim hq'
  |cont=>exact False.elim hq'
theorem XM (M:Mk X.K C f) (F:FnOk X.prog X.w X.K X.mg X.base CX k f fd ps sp) (hr:Room (k+1) X.A) (hg:Gl X x) (hm:X.mg x=some (.ref C)) (hb:Binds X.K fd ps ds) (hd:Vals dvs ds) (hx:XV CX X E)
 (ha:PA X (e::es) t) (hdb:(x == ("__debug__" : Str))=false:=by decide) (he:starEach (e::es) X.env=(false,eval e X.env)::starEach es X.env:=by rfl) (hpl:(backTo pos (starEach es X.env)).any (·.1)=false:=by rfl) :
 PE X (.Call (.Name x p) (e::es) [] pos) (JC C sp dvs E t):=by
 intro pins s σ H Q I h;refine wpAny_Call_Name_kw (Vg I hg hm ?_ hdb);refine PySem.W.callWith_K (h₀:=X.base) I.ok.mod.kin M.kp (thn (ha pos pins s σ H _ I h) λus s1 ⟨vs,H1,I1,r,q⟩=>⟨I1.kIn,?_⟩) he hpl;exact ZeK M F hr hb hd hx I1 r q
end
section
variable{X:Cx}{CX:CXT}{k:Nat}{f C:Addr}{fd:FuncData}{ps ks:List Str}{sp:Sp}{E:XK}{x m:Str}{p pos apos kpos:Pos}{e o:Expr}{es:List Expr}{kws:List Keyword}{te ta:TE}{t tk:TA}{nm:Option Str}
structure KBinds(K:PySem.W.Frag)(fd:FuncData)(ps ks:List Str)(g:List Value->List Value->List Value)(gV:List V->List V->List V):Prop where
 to:∀(s:Shared)(us ws:List Value),K.In s.heap->(g us ws).length=ps.length->BindsTo s fd ⟨us,ks.zip ws⟩ (ps.zip (g us ws))
 rel:∀{vs:List V}{us:List Value}{zs:List V}{ws:List Value},Vals vs us->Vals zs ws->Vals (gV vs zs) (g us ws)
variable{g:List Value->List Value->List Value}{gV:List V->List V->List V}
end
structure FnScope(N P:List Str)(sc:Scope):Prop where
 kind:sc.kind = .function
 co:sc.isCoroutine=false
 gen:sc.isGenerator=false
 nd:N.Nodup
 pre:N.take P.length=P
 par:∀x∈P,sc.names.lookup x=some .local\/sc.names.lookup x=some .cell
 nofree:∀y∈sc.names,y.2 ≠ .free
theorem Zbs{kindOf:Str->Option NameKind}{x:Str}:∀{binds:List (Str×Value)}{m:Str->Option Value},(∀v,(x,v)∉binds)->bindL kindOf binds m x=m x
 | [],_,_=>rfl
 |(n,v)::r,m,h=>by
  unfold bindL;rw [Zbs λw hw=>h w (List.mem_cons_of_mem _ hw)]
  split
  · have:x≠n:=by rintro rfl;exact h v List.mem_cons_self
    simp [this]
  · rfl
theorem Zbt{kindOf:Str->Option NameKind}{x:Str}:∀{binds:List (Str×Value)}{m:Str->Option Value},(∀v,(x,v)∉binds)->bindC kindOf binds m x=m x
 | [],_,_=>rfl
 |(n,v)::r,m,h=>by
  unfold bindC;rw [Zbt λw hw=>h w (List.mem_cons_of_mem _ hw)]
  split
  · rfl
  · have:x≠n:=by rintro rfl;exact h v List.mem_cons_self
    simp [this]
theorem Zbu{kindOf:Str->Option NameKind}{x:Str}{v:Value}:∀{P:List Str}{vs:List Value}{i:Nat}{m:Str->Option Value},P.Nodup->P[i]? = some x->vs[i]? = some v->kindOf x=some .local ->
 bindL kindOf (P.zip vs) m x=some v
 | [],_,_,_,_,h,_,_=>by simp at h
 |_::_,[],_,_,_,_,h,_=>by simp at h
 |p::P,w::vs,0,m,nd,h1,h2,hk=>by
  simp at h1 h2;subst h1;subst h2;show bindL kindOf ((p,w)::P.zip vs) m p=_;unfold bindL;rw [Zbs λv hv=>(List.nodup_cons.mp nd).1 (List.of_mem_zip hv).1,if_pos hk];simp
 |p::P,w::vs,i+1,m,nd,h1,h2,hk=>by
  show bindL kindOf ((p,w)::P.zip vs) m x=_;unfold bindL;exact Zbu (i:=i) (List.nodup_cons.mp nd).2 (by simpa using h1) (by simpa using h2) hk
theorem Zbv{kindOf:Str->Option NameKind}{x:Str}{v:Value}:∀{P:List Str}{vs:List Value}{i:Nat}{m:Str->Option Value},P.Nodup->P[i]? = some x->vs[i]? = some v->kindOf x≠some .local ->
 bindC kindOf (P.zip vs) m x=some v
 | [],_,_,_,_,h,_,_=>by simp at h
 |_::_,[],_,_,_,_,h,_=>by simp at h
 |p::P,w::vs,0,m,nd,h1,h2,hk=>by
  simp at h1 h2;subst h1;subst h2;show bindC kindOf ((p,w)::P.zip vs) m p=_;unfold bindC;rw [Zbt λv hv=>(List.nodup_cons.mp nd).1 (List.of_mem_zip hv).1,if_neg hk];simp
 |p::P,w::vs,i+1,m,nd,h1,h2,hk=>by
  show bindC kindOf ((p,w)::P.zip vs) m x=_;unfold bindC;exact Zbv (i:=i) (List.nodup_cons.mp nd).2 (by simpa using h1) (by simpa using h2) hk
def start(N:List Str)(vs:List V):St:=vs.map some++List.replicate (N.length-vs.length) none
def YO(CX:CXT)(P:Program)(w:World)(K:PySem.W.Frag)(mg:Str->Option Value)(base:Heap)(N:List Str)(qual:Str)(scope:Scope)(f:Addr)(cd:Value)(A:Around)(outer:List Env)(s:Shared)(H:Hp)(E:XK):Cx where
 prog:=P
 w:=w
 K:=K
 mg:=mg
 base:=base
 A:=A.deeper (envOfC qual scope s.heap.objs.size f cd)
 N:=N
 s₀:=s
 H₀:=H
 env:=envOfC qual scope s.heap.objs.size f cd
 outer:=outer
 stack:=envOfC qual scope s.heap.objs.size f cd::outer
 ex:=[]
 calm:=true
 fn:=λ_=>true
 pn:=[]
 xe:=λe s'=>wpAny (model P w) (A.deeper (envOfC qual scope s.heap.objs.size f cd)) (leaving (envOfC qual scope s.heap.objs.size f cd) e) (λ_ s''=>CX outer H s E e s'') (λe' s''=>CX outer H s E e' s'') s'
theorem Zck{sc:Scope}{n:Nat}{x:Str}(h:sc.names.lookup x=some .cell):∃c,(cellsFrom n sc.names []).lookup x=some c:=by
 have q:=PySem.W.cellsFrom_some sc.names n [] (.inl h);exact Option.isSome_iff_exists.mp q
theorem Zd4 {CX:CXT} {P:Program} {w:World} {K:PySem.W.Frag} {mg:Str->Option Value} {base:Heap} {N ps:List Str} {qual:Str} {scope:Scope} {f:Addr} {cd:Value} {A:Around} {outer:List Env} {s s1:Shared} {H:Hp} {E:XK} {us:List Value} {vs:List V}
 (S:FnScope N ps scope) (hd:A.handled=none) (e0:Env0 P w K mg base A outer s H) (hl:vs.length=ps.length) (r:Vals vs us)
 (x:InCallC s s.heap.objs.size (bindL (envOfC qual scope s.heap.objs.size f cd).kindOf (ps.zip us) λ_=>none) (cellsFrom (s.heap.objs.size+1) scope.names []) (bindC (envOfC qual scope s.heap.objs.size f cd).kindOf (ps.zip us) λ_=>none) s1) :
 Inv (YO CX P w K mg base N qual scope f cd A outer s H E) [] (start N vs) H s1:=by
 have hpl:ps.length<=N.length:=by have:=congrArg List.length S.pre;rw [List.length_take]at this;omega
 obtain⟨h1,tk,rfl,hk⟩:=x.done;have noA:∀b:Addr,b∉(YO CX P w K mg base N qual scope f cd A outer s H E).ex:=λb z=>absurd (show b∈([]:List Addr)from z) (by simp)
 refine⟨⟨e0.mod,S.kind,rfl,rfl,Nat.le_refl _,λy z c h1 h2 => ?_,λy hy => ?_,λy c _ h => ?_,λ_=>hd,Around.frames_deeper e0.frames,.inr ⟨rfl,rfl⟩,λb z=>absurd z (noA b),e0.bs,e0.bsz,λb _ _=>noA b,λb z=>absurd z (noA b),e0.funs,e0.frf⟩,
  rfl,e0.bare,Un.kept hk,⟨_,x.toInCall.ns,λi y v h1 h2 h3 => ?_⟩,λy c h=>⟨_,x.cell y c h⟩,e0.hok.fresh (Nat.le_refl _),λy c h => ?_,λp hp=>absurd (show p∈([]:List (Addr×Obj))from hp) (by simp),e0.hok.kept hk,?_⟩
 · exact name_of_addr x.apart (PySem.mem_of_lookup h1) (PySem.mem_of_lookup h2)
 · have hy:scope.names.lookup y=some .cell\/scope.names.lookup y=some .free:=hy
   rcases hy with hy|hy
   · exact Zck hy
   · exact absurd rfl (S.nofree _ (PySem.mem_of_lookup hy))
 · exact Nat.le_of_lt (x.above y c (PySem.mem_of_lookup h))
 · have hi : i < vs.length := by
    unfold start at h2
    by_cases hi:i<vs.length
    · exact hi
    · rw [List.getElem?_append_right (by simpa using hi)]at h2
      rw [List.getElem?_replicate]at h2
      split at h2<;>cases h2
   have ha:vs[i]? = some v:=by
    unfold start at h2;rw [List.getElem?_append_left (by simpa using hi),List.getElem?_map]at h2;cases e:vs[i]? with
    |none=>rw [e]at h2;cases h2
    |some a=>rw [e]at h2;cases h2;rfl
   obtain⟨u,hu,rv⟩:=r.get ha
   have hp:ps[i]? = some y:=by
    rw [<-S.pre,List.getElem?_take_of_lt (by omega)];exact h1
   have ndP:ps.Nodup:=by rw [<-S.pre];exact S.nd.sublist (List.take_sublist _ _)
   refine⟨u,rv,?_⟩;rcases S.par y (List.mem_of_getElem? hp)with k|k
   · exact .inl ⟨k,Zbu ndP hp hu k⟩
   · obtain⟨c,e⟩:=Zck (n:=s.heap.objs.size+1) k
     refine .inr ⟨.inl k,c,e,?_⟩;have q:=x.cell y c e;rw [Zbv ndP hp hu (by show scope.names.lookup y≠_;rw [k];decide)]at q;exact q
 · exact e0.hok.fresh (Nat.le_of_lt (x.above y c (PySem.mem_of_lookup h)))
 · unfold start
   show _=N.length;rw [List.length_append,List.length_map,List.length_replicate];omega
theorem JD {CX:CXT} {P:Program} {w:World} {K:PySem.W.Frag} {mg:Str->Option Value} {base:Heap} {k:Nat} {f:Addr} {name qual:Str} {params:Arguments} {body:List Stmt} {scope:Scope} {dV kV doc pm cdv ct oc:Value} {an od:Option Addr}
 {osl:Array (Option Value)} {N ps:List Str} {sp:Sp} (lk:K.lookup f=some ⟨oc,od,.func (fnOf name qual params body scope dV kV doc pm an cdv ct),osl⟩) (hcd:codeIn K cdv qual=true) (S:FnScope N ps scope)
 (len:∀vs H Q E,sp vs H Q E->vs.length=ps.length)
 (hbody:∀(A:Around)(outer:List Env)(s:Shared)(H:Hp)(vs:List V)(Q:VK)(E:XK),Room k (A.deeper (envOfC qual scope s.heap.objs.size f cdv))->sp vs H Q E ->
   ∃t,PSs (YO CX P w K mg base N qual scope f cdv A outer s H E) body t/\t { nx:=λ_ H'=>Q .non H',rt:=Q } (start N vs) H) :
 FnOk P w K mg base CX (k+1) f (fnOf name qual params body scope dV kV doc pm an cdv ct) ps sp:=by
 refine⟨len,λA outer s H args us vs Q E hr e0 hb r hsp => ?_⟩;have hl:=len _ _ _ _ hsp;have KX:K.In s.heap:=e0.mod.kin.keeps λb o e=>(e0.bs b o e).1
 have lim:s.heap.NoLimit:=e0.mod.nolimit.keeps λb o e=>(e0.bs b o e).1
 have hkind:∀y∈ps.zip us,scope.names.lookup y.1=some .local\/(scope.names.lookup y.1=some .cell/\((cellsFrom (s.heap.objs.size+1) scope.names []).lookup y.1).isSome=true):=λ⟨n,v⟩ hy=>by
  rcases S.par n (List.of_mem_zip hy).1 with q|q
  · exact .inl q
  · exact .inr ⟨q,PySem.W.cellsFrom_some _ _ _ (.inl q)⟩
 refine codeAny_call_function hr.depth (KX _ _ lk) rfl S.co S.gen rfl (PySem.W.codeRec_of KX hcd) (hb _ _ _ _ ?_);refine wpAny_newFunctionEnv_cells S.kind hkind λenv he s1 x => ?_
 subst he;refine⟨lim.keeps x.toInCall.keep,codeAny_func ?_⟩;obtain⟨t,ht,hq⟩:=hbody A outer s H vs Q E (hr.deeper _) hsp;have I:Inv (YO CX P w K mg base N qual scope f cdv A outer s H E) [] (start N vs) H s1:=Zd4 S hr.hd e0 hl r x;refine wpAny_mono (ht [] s1 (start N vs) H _ I hq) (λfl s' hs => ?_) λe s' hs=>hs
 have fin:∀{σ':St}{H':Hp}{v:V}{u:Value},Inv (YO CX P w K mg base N qual scope f cdv A outer s H E) [] σ' H' s'->RelV v u->Q v H'->CE outer P w H s Q u s':=
  λ{σ' H' v u} J rv q=>⟨v,H',J.os,J.bare,J.base,J.hok,rv,q⟩
 cases fl with
 |ret u=>
  obtain⟨v,σ',H',J,rv,q⟩:=hs;exact fin J rv q
 |next=>
  obtain⟨σ',H',J,q⟩:=hs;exact fin (v:=V.non) (u:=Value.none) J rfl q
 |brk=>
  obtain⟨_,_,_,q⟩:=hs;exact False.elim q
 |cont=>
  obtain⟨_,_,_,q⟩:=hs;exact False.elim q
end L2
namespace L2
open PySem PySem.Spec PyProof.Rows
section
variable{X:Cx}{x:Str}{p pos:Pos}{e:Expr}{es:List Expr}{t:TA}{id T:String}{r:List V->Hp->VK->Prop}
def tCB(r:List V->Hp->VK->Prop)(t:TA):TE:=λσ H Q=>t σ H λvs H1=>r vs H1 Q
theorem ZO (hc:Xh X (.builtin id) r) (hg:Gl X x) (hm:X.mg x=none) (hv:bootBuiltins x=some (.builtin id)) (ha:PA X (e::es) t) (hn:x ≠ "__name__" := by decide) (hdb:(x == ("__debug__" : Str))=false:=by decide)
 (he:starEach (e::es) X.env=(false,eval e X.env)::starEach es X.env:=by rfl) (hpl:(backTo pos (starEach es X.env)).any (·.1)=false:=by rfl):PE X (.Call (.Name x p) (e::es) [] pos) (tCB r t):=by
 intro pins s σ H Q I h;refine wpAny_Call_Name_kw (V3 I hg hm hv ?_ hn hdb);exact PyProof.Rows.callWith_builtin1 (thn (ha pos pins s σ H _ I h) λus s1 ⟨vs,H1,I1,r1,q1⟩=>hc pins s1 σ H1 vs us Q I1 r1 q1) he hpl
theorem V7 (hc:Xh X (.type T) r) (hg:Gl X x) (hm:X.mg x=none) (hv:bootBuiltins x=some (.type T)) (ha:PA X (e::es) t) (hn:x ≠ "__name__" := by decide) (hdb:(x == ("__debug__" : Str))=false:=by decide)
 (he:starEach (e::es) X.env=(false,eval e X.env)::starEach es X.env:=by rfl) (hpl:(backTo pos (starEach es X.env)).any (·.1)=false:=by rfl):PE X (.Call (.Name x p) (e::es) [] pos) (tCB r t):=by
 intro pins s σ H Q I h;refine wpAny_Call_Name_kw (V3 I hg hm hv ?_ hn hdb);exact PyProof.Rows.callWith_type1 (thn (ha pos pins s σ H _ I h) λus s1 ⟨vs,H1,I1,r1,q1⟩=>hc pins s1 σ H1 vs us Q I1 r1 q1) he hpl
end
end L2
namespace HT
open PySem PyProof.Rows
section
open PySem.SeqAt
open PySem.AutoSeq1 (wpAny_loadPart')
open PySem.MeetsSeq PySem.MeetsSeq2 PySem.MeetsSeq3
end
section
variable{prog:Program}{w:World}{A:Around}{E:Value->Shared->Prop}{s:Shared}
def sIx(n d:Nat):Option Int->Nat
 |none=>d
 |some v=>if v<0 then(v+(n:Int)).toNat else min v.toNat n
theorem ZhR(n d:Nat)(hd:d<=n)(o:Option Int):sIx n d o<=n:=by
 cases o with
 |none=>exact hd
 |some v=>
  show(if v<0 then(v+(n:Int)).toNat else min v.toNat n)<=n
  by_cases hv:v<0
  · rw [if_pos hv];omega
  · rw [if_neg hv];exact Nat.min_le_right _ _
theorem Zdo(v:Int)(n d:Nat):(if v<0 then max (v+(n:Int)) 0 else min v (n:Int))=((sIx n d (some v):Nat):Int):=by
 show(if v<0 then max (v+(n:Int)) 0 else min v (n:Int))=(((if v<0 then(v+(n:Int)).toNat else min v.toNat n):Nat):Int)
 by_cases hv:v<0
 · simp only [if_pos hv];omega
 · simp only [if_neg hv];omega
theorem ZcT(lo hi:Option Int)(n:Nat):Builtin.Slice.sliceAdjust lo hi 1 (n:Int)=(((sIx n 0 lo:Nat):Int),((sIx n n hi:Nat):Int)):=by
 have h1:¬((1:Int)<0):=by omega
 unfold Builtin.Slice.sliceAdjust;simp only [h1,if_false];refine Prod.ext ?_ ?_
 · cases lo with
   |none=>rfl
   |some v=>exact Zdo v n 0
 · cases hi with
   |none=>rfl
   |some v=>exact Zdo v n n
theorem ZcU(i j:Nat):Builtin.Slice.slicePlaces (i:Int) (j:Int) 1=j-i:=by
 unfold Builtin.Slice.slicePlaces;have h1:(1:Int)>0:=by omega
 simp only [h1,if_true,Int.ediv_one]
 split<;>omega
theorem ZaW{v:Value}{o:Option Int}{Q:Option Int->Shared->Prop}(p:IsPart v o)(h:Q o s):wpAny (model prog w) A (Builtin.Slice.slicePartIndex v) Q E s:=by
 cases p with
 |none=>exact slicePart_none h
 |int i t=>exact slicePart_int h
theorem ZaA {sl:Addr} {vl vu:Value} {lo hi:Option Int} {n:Nat} {Q:Int×Int×Nat->Shared->Prop} (hs:s.heap.IsSliceOf sl vl vu .none) (pl:IsPart vl lo) (pu:IsPart vu hi)
 (h:Q (((sIx n 0 lo:Nat):Int),1,sIx n n hi-sIx n 0 lo) s):wpAny (model prog w) A (Builtin.Slice.sliceApplied (.ref sl) (pure (n:Int))) Q E s:=by
 obtain⟨os,hos,hcs,hds⟩:=id hs;unfold Builtin.Slice.sliceApplied Builtin.Slice.sliceFields;refine wpAny_bind (wpAny_bind (wpAny_field hos hds (x:=vl) rfl (wpAny_bind (wpAny_field hos hds (x:=vu) rfl (wpAny_bind (wpAny_field hos hds (x:=.none) rfl (wpAny_pure ?_)))))));refine wpAny_bind (slicePart_none ?_);show wpAny _ _ (if((1:Int) == 0)=true then _ else _) _ _ s;rw [if_neg (by decide)]
 refine wpAny_bind (ZaW pl (wpAny_bind (ZaW pu (wpAny_bind (wpAny_pure ?_)))));show wpAny _ _ (match Builtin.Slice.sliceAdjust lo hi 1 (n:Int)with|(lo,hi)=>pure (lo,(1:Int),Builtin.Slice.slicePlaces lo hi 1)) _ _ s;rw [ZcT lo hi n];show wpAny _ _ (pure (((sIx n 0 lo:Nat):Int),(1:Int),Builtin.Slice.slicePlaces ((sIx n 0 lo:Nat):Int) ((sIx n n hi:Nat):Int) 1)) _ _ s;rw [ZcU]
 exact wpAny_pure h
theorem ZeL(xs:Array Value)(i k:Nat):((List.range k).filterMap λ(m:Nat)=>xs[((i:Int)+(m:Int)*1).toNat]?).toArray=((xs.toList.drop i).take k).toArray:=by
 have e:(λ(m:Nat)=>xs[((i:Int)+(m:Int)*1).toNat]?)=λm=>xs[i+m]? := by
  funext m
  have:((i:Int)+(m:Int)*1).toNat=i+m:=by omega
  rw [this]
 rw [e];have:=pick_run xs i k;rw [List.filterMap_map]at this;have e2:((λx=>xs[x]?)∘λx=>i+x)=λm=>xs[i+m]? := rfl
 rw [e2]at this;rw [this]
theorem getItem_tuple_cut {t sl:Addr} {items:Array Value} {vl vu:Value} {lo hi:Option Int} {Q:Value->Shared->Prop} (ht:IsTup s.heap t items) (hs:s.heap.IsSliceOf sl vl vu .none) (pl:IsPart vl lo) (pu:IsPart vu hi)
 (hw:¬(sIx items.size 0 lo=0/\sIx items.size items.size hi=items.size))
 (h:Q (.ref s.heap.objs.size) { s with heap:=s.heap.push { cls := .type "tuple",data := .seq ((items.toList.drop (sIx items.size 0 lo)).take (sIx items.size items.size hi-sIx items.size 0 lo)).toArray } })
 (hsz:items.size<=sizeLine):wpAny (model prog w) A (getItem (.ref t) (.ref sl)) Q E s:=by
 have htake:sizeOk (.seq ((items.toList.drop (sIx items.size 0 lo)).take (sIx items.size items.size hi-sIx items.size 0 lo)).toArray):=by
  show((items.toList.drop (sIx items.size 0 lo)).take (sIx items.size items.size hi-sIx items.size 0 lo)).toArray.size<=sizeLine;rw [List.size_toArray,List.length_take,List.length_drop,Array.length_toList];omega
 have hj:sIx items.size items.size hi<=items.size:=ZhR _ _ (Nat.le_refl _) hi;obtain⟨os,hos,hcs,hds⟩:=id hs;have hTs:s.TypeIs (.ref sl) "slice" := ⟨os,hos,hcs⟩
 unfold getItem
 try with_reducible refine wpAny_holding ?_
 first|refine wpAny_bind (wpAny_pure ?_)|skip
 refine wpAny_bind (wpAny_sequenceKey ht.typeIs (by decide) ?_)
 refine wpAny_bind (wpAny_callSpecial?_slot (name:=Str.ofString "__getitem__") ht.typeIs PyProof.Rows.slot_tuple_getitem
  (wpAny_call_entry PyProof.Rows.slot_tuple_getitem ht.typeIs entry_tuple_getitem ?_ (args_tuple_getitem _ _)))
 show wpAny _ _ (Builtin.Tuple.tupleItemsOf (.ref t) >>= _) _ _ s;refine wpAny_bind (tupleItemsOf_ ht ?_);refine wpAny_bind (wpAny_typeOf hTs ?_);rw [if_pos (by decide)];refine wpAny_bind (ZaA hs pl pu ?_)
 have hno:¬((((sIx items.size 0 lo:Nat):Int) == 0&&(1:Int) == 1&&(sIx items.size items.size hi-sIx items.size 0 lo) == items.size)=true):=by
  intro q;rw [Bool.and_eq_true,Bool.and_eq_true]at q;have q1:((sIx items.size 0 lo:Nat):Int)=0:=eq_of_beq q.1.1;have q2:sIx items.size items.size hi-sIx items.size 0 lo=items.size:=eq_of_beq q.2;exact hw ⟨by omega,by omega⟩
 show wpAny _ _ (if(((sIx items.size 0 lo:Nat):Int) == 0&&(1:Int) == 1&&(sIx items.size items.size hi-sIx items.size 0 lo) == items.size)=true then _ else _) _ _ s;rw [if_neg hno,ZeL]
 first
  |exact wpAny_bind (m:=Builtin.Tuple.tupleExact _) (wpAny_newObj_type (wpAny_pure ⟨_,rfl,wpAny_pure h⟩) htake)
  |exact wpAny_bind (m:=Builtin.Tuple.tupleExact _) (wpAny_newObj_type (wpAny_bind (wpAny_pure (wpAny_pure ⟨_,rfl,wpAny_pure h⟩))) htake)
  |exact wpAny_bind (wpAny_bind (m:=Builtin.Tuple.tupleExact _) (wpAny_newObj_type (wpAny_pure (wpAny_pure ⟨_,rfl,wpAny_pure h⟩)) htake))
  |exact wpAny_bind (wpAny_bind (m:=Builtin.Tuple.tupleExact _) (wpAny_newObj_type (wpAny_pure ⟨_,rfl,wpAny_pure h⟩) htake))
end
end HT
namespace L2
open PySem PySem.Spec PyProof.Rows
abbrev TO:=St->Hp->(Option Int->Hp->Prop)->Prop
def PO(X:Cx)(e:Option Expr)(t:TO):Prop:=
 ∀(pins:List (Addr×Obj))(s:Shared)(σ:St)(H:Hp)(Q:Option Int->Hp->Prop),Inv X pins σ H s->t σ H Q ->
  wpAny (model X.prog X.w) X.A (evalPart e X.env) (λu s'=>∃o H',Inv X pins σ H' s'/\IsPart u o/\Q o H') X.xe s
def tNoPart:TO:=λ_ H Q=>Q none H
def Zhg(t:TE):TO:=λσ H Q=>t σ H λx H1=>∃i,x = .int i/\Q (some i) H1
section
variable{X:Cx}{e:Expr}{te:TE}{lo hi:Option Expr}{tl th:TO}{pos p2:Pos}
theorem VC:PO X none tNoPart:=by
 intro pins s σ H Q I h;rw [evalPart_none];exact wpAny_pure ⟨none,H,I,.none,h⟩
theorem VD(h:PE X e te):PO X (some e) (Zhg te):=by
 intro pins s σ H Q I hw;rw [evalPart_some];refine thn (h pins s σ H _ I hw) λu s1 ⟨x,H1,I1,r1,q1⟩ => ?_
 obtain⟨i,rfl,q⟩:=q1;obtain⟨t,rfl⟩:=r1;exact⟨some i,H1,I1,.int i t,q⟩
def SlR(X:Cx)(r:V->Option Int->Option Int->Hp->VK->Prop):Prop:=
 ∀(pins:List (Addr×Obj))(s:Shared)(σ:St)(H:Hp)(x:V)(v vl vu:Value)(lo hi:Option Int)(sl:Addr)(Q:VK),Inv X pins σ H s->RelV x v->s.heap.IsSliceOf sl vl vu .none->IsPart vl lo->IsPart vu hi->r x lo hi H Q ->
  ∃T id,typeLookup (.type T) "__getitem__" = pure (some (.builtin id))/\s.TypeIs v T/\wpAny (model X.prog X.w) X.A (getItem v (.ref sl)) (EP X pins σ Q) X.xe s
theorem SlR.or{r r':V->Option Int->Option Int->Hp->VK->Prop}(h:SlR X r)(h':SlR X r'):SlR X (λx lo hi H Q=>r x lo hi H Q\/r' x lo hi H Q):=by
 intro pins s σ H x v vl vu lo hi sl Q I rx hs pl pu q;rcases q with q|q
 · exact h pins s σ H x v vl vu lo hi sl Q I rx hs pl pu q
 · exact h' pins s σ H x v vl vu lo hi sl Q I rx hs pl pu q
def tSl(r:V->Option Int->Option Int->Hp->VK->Prop)(te:TE)(tl th:TO):TE:=λσ H Q=>te σ H λx H1=>tl σ H1 λl H2=>th σ H2 λu H3=>r x l u H3 Q
theorem VL{r:V->Option Int->Option Int->Hp->VK->Prop}(hr:SlR X r)(he:PE X e te)(hl:PO X lo tl)(hu:PO X hi th):PE X (.Subscript e (.Slice lo hi none p2) pos) (tSl r te tl th):=by
 intro pins s σ H Q I h;refine Subscript_ (thn (he pins s σ H _ I h) λv s1 ⟨x,H1,I1,r1,q1⟩ => ?_);refine wpAny_Slice (thn (hl pins s1 σ H1 _ I1 q1) λvl s2 ⟨l,H2,I2,pl,q2⟩=>thn (hu pins s2 σ H2 _ I2 q2) λvu s3 ⟨u,H3,I3,pu,q3⟩ => ?_);rw [evalPart_none];refine wpAny_pure ?_;have I4:Inv X pins σ H3 { s3 with heap:=s3.heap.push { cls := .type "slice",data := .fields #[vl,vu,.none] } }:=I3.kept (t':=s3.toks) λb ob q=>Heap.get?_push_of_some _ q
 obtain⟨T,id,hT,ht,hg⟩:=hr pins { s3 with heap:=s3.heap.push { cls := .type "slice",data := .fields #[vl,vu,.none] } } σ H3 x v vl vu l u s3.heap.objs.size Q I4 r1 (Heap.IsSliceOf.new ..) pl pu q3;show wpAny (model X.prog X.w) X.A (subscriptTail e (.Slice lo hi none p2) v (.ref s3.heap.objs.size)) (EP X pins σ Q) X.xe { s3 with heap:=s3.heap.push { cls := .type "slice",data := .fields #[vl,vu,.none] } }
 exact tail_any (ops:=[.ref s3.heap.objs.size,v]) ht hT hg (by with_unfolding_all rfl)
def V8(xs:List V)(lo hi:Option Int):List V:=(xs.drop (HT.sIx xs.length 0 lo)).take (HT.sIx xs.length xs.length hi-HT.sIx xs.length 0 lo)
theorem ZaP(xs:List V)(lo hi:Option Int):(V8 xs lo hi).length<=xs.length:=by
 unfold V8;rw [List.length_take,List.length_drop];omega
def Zk5(K:PySem.W.Frag):V->Option Int->Option Int->Hp->VK->Prop:=λx lo hi H Q=>∃a xs,x = .ref a/\SqT K H a xs /\
 ¬(HT.sIx xs.length 0 lo=0/\HT.sIx xs.length xs.length hi=xs.length)/\∀p,H p=none->Q (.ref p) (upd H p (.tup (V8 xs lo hi)))
theorem ZhS:SlR X (Zk5 X.K):=by
 intro pins s σ H x v vl vu lo hi sl Q I rx hs pl pu h;obtain⟨a,xs,rfl,hx,hw,q⟩:=h;cases rx;obtain⟨its,r,ht,hz⟩:=I.tuple hx;have hlen:its.toArray.size=xs.length:=by rw [List.size_toArray];exact r.length.symm
 refine⟨"tuple",_,PyProof.Rows.slot_tuple_getitem.lookup,ht.typeIs,?_⟩;refine HT.getItem_tuple_cut ht hs pl pu (by rw [hlen];exact hw) ?_ (by rw [hlen];exact hz);rw [hlen];refine⟨.ref s.heap.objs.size,_,I.laid (t':=s.toks) (o:=.tup (V8 xs lo hi)) (λb ob q=>Heap.get?_push_of_some _ q) (Nat.le_refl _) ?_,rfl,q _ (I.hok.fresh (Nat.le_refl _))⟩;exact⟨Nat.le_trans (ZaP xs lo hi) hz,_,(r.drop (HT.sIx xs.length 0 lo)).take (HT.sIx xs.length xs.length hi-HT.sIx xs.length 0 lo),TupN.new _ _⟩
end
end L2
namespace L2
open PySem PySem.Spec PyProof.Rows
def ixN(n:Nat)(i:Int):Option Nat:=if 0<=i then(if i<n then some i.toNat else none)else if -(n:Int)<=i then some (i+n).toNat else none
def atI{α:Type}(xs:List α)(i:Int):Option α:=(ixN xs.length i).bind λj=>xs[j]?
theorem Zdp{n:Nat}{i:Int}{j:Nat}(h:ixN n i=some j):seqIndex? i n=some j/\j<n /\ -(n:Int)<=i/\i<n:=by
 unfold ixN at h
 by_cases h0:0<=i
 · rw [if_pos h0]at h
   by_cases h1:i<n
   · rw [if_pos h1]at h
     have e:i.toNat=j:=Option.some.inj h;exact⟨by rw [seqIndex_of h0 h1,e],by omega,by omega,h1⟩
   · rw [if_neg h1]at h;cases h
 · rw [if_neg h0]at h
   by_cases h1 : -(n:Int)<=i
   · rw [if_pos h1]at h
     have e:(i+n).toNat=j:=Option.some.inj h;exact⟨by rw [seqIndex_neg (by omega) h1,e],by omega,h1,by omega⟩
   · rw [if_neg h1]at h;cases h
theorem ZbT{α:Type}{xs:List α}{i:Int}{v:α}(h:atI xs i=some v):∃j,seqIndex? i xs.length=some j/\xs[j]? = some v/\j<xs.length /\ -(xs.length:Int)<=i/\i<xs.length:=by
 unfold atI at h;cases e:ixN xs.length i with
 |none=>rw [e]at h;cases h
 |some j=>
  rw [e]at h;obtain⟨h1,h2,h3,h4⟩:=Zdp e;exact⟨j,h1,h,h2,h3,h4⟩
theorem JE{α:Type}{xs:List α}{j:Nat}{v:α}(h:xs[j]? = some v):atI xs (j:Int)=some v:=by
 have hj:j<xs.length:=(List.getElem?_eq_some_iff.mp h).1
 have e:ixN xs.length (j:Int)=some j:=by
  unfold ixN;rw [if_pos (by omega),if_pos (by omega)];simp
 unfold atI;rw [e];exact h
def Zgq(b:Expr):Prop:=∀o i,subscripted b false o i=operate [o,i] (getItem o i)
def IxR(X:Cx)(r:R2):Prop:=
 ∀(value slice:Expr)(pins:List (Addr×Obj))(s:Shared)(σ:St)(H:Hp)(x y:V)(v u:Value)(Q:VK),Inv X pins σ H s->RelV x v->RelV y u->r x y H Q ->
  subscripted slice false v u=operate [v,u] (getItem v u)->wpAny (model X.prog X.w) X.A (subscriptTail value slice v u) (EP X pins σ Q) X.xe s
def MtR(X:Cx)(id:String)(r:V->List V->Hp->VK->Prop):Prop:=
 ∀(pins:List (Addr×Obj))(s:Shared)(σ:St)(H:Hp)(x:V)(xs:List V)(v:Value)(us:List Value)(Q:VK),Inv X pins σ H s->RelV x v->Vals xs us->r x xs H Q ->
  wpAny (model X.prog X.w) X.A (call (.builtin id) (v::us)) (EP X pins σ Q) X.xe s
section
variable{X:Cx}{a b:Expr}{ta tb:TE}{pos:Pos}
theorem IxR.or{r r':R2}(h:IxR X r)(h':IxR X r'):IxR X (λx y H Q=>r x y H Q\/r' x y H Q):=by
 intro value slice pins s σ H x y v u Q I rx ry q hs;rcases q with q|q
 · exact h value slice pins s σ H x y v u Q I rx ry q hs
 · exact h' value slice pins s σ H x y v u Q I rx ry q hs
theorem Zt{r:R2}(hr:IxR X r)(ha:PE X a ta)(hb:PE X b tb)(hs:Zgq b):PE X (.Subscript a b pos) (tOp r ta tb):=by
 intro pins s σ H Q I h;exact Subscript_ (Zi2 ha hb I h λv u s2 x y H2 I2 rx ry q=>hr a b pins s2 σ H2 x y v u Q I2 rx ry q (hs _ _))
def Zk6(K:PySem.W.Frag):R2:=λx y H Q=>∃p xs i v,x = .ref p/\y = .int i/\SqL K H p xs/\atI xs i=some v/\Q v H
def Zk7(K:PySem.W.Frag):R2:=λx y H Q=>∃p xs i v,x = .ref p/\y = .int i/\SqT K H p xs/\atI xs i=some v/\Q v H
def rIxS:R2:=λx y H Q=>∃z i c,x = .str z/\y = .int i/\z.length<=sizeLine/\atI z.cps.toList i=some c/\Q (.str ⟨#[c]⟩) H
theorem ix_list:IxR X (Zk6 X.K):=by
 intro value slice pins s σ H x y v u Q I rx ry h hs;obtain⟨p,xs,i,z,rfl,rfl,hq,he,q⟩:=h;cases rx;obtain⟨t,rfl⟩:=ry;obtain⟨its,r,pl,hz⟩:=I.list hq;obtain⟨j,h1,h2,h3,h4,h5⟩:=ZbT he;obtain⟨w,ew,rw'⟩:=r.get h2;have hl:=r.length;have hn:=U9;have fin:EP X pins σ Q w s:=⟨z,H,I,rw',q⟩
 by_cases h0:0<=i
 · have hj : i.toNat = j := by
    rw [seqIndex_of h0 h5]at h1;exact Option.some.inj h1
   exact item_listR pl.isList h0 (by omega) (by rw [hj];simpa using ew) fin hs
 · have hj : (i + (its.toArray.size : Int)).toNat = j := by
    rw [seqIndex_neg (by omega) h4]at h1;rw [List.size_toArray,<-hl];exact Option.some.inj h1
   exact subscriptTail_builtinR (x:=w) pl.isList.typeIs slot_list_getitem.lookup
    (wpAny_getItem_list_neg (Q:=λr s'=>r=w/\EP X pins σ Q r s') pl.isList (by omega) (by rw [List.size_toArray]<;>omega) (by omega) (by rw [hj];simpa using ew) ⟨rfl,fin⟩) hs
theorem ix_tup:IxR X (Zk7 X.K):=by
 intro value slice pins s σ H x y v u Q I rx ry h hs;obtain⟨p,xs,i,z,rfl,rfl,hq,he,q⟩:=h;cases rx;obtain⟨t,rfl⟩:=ry;obtain⟨its,r,pl,hz⟩:=I.tuple hq;obtain⟨j,h1,h2,h3,h4,h5⟩:=ZbT he;obtain⟨w,ew,rw'⟩:=r.get h2;have hl:=r.length;have hn:=U9;have fin:EP X pins σ Q w s:=⟨z,H,I,rw',q⟩
 exact subscriptTail_builtinR (x:=w) pl.typeIs slot_tuple_getitem.lookup
  (getItem_tuple (j:=j) (Q:=λr s'=>r=w/\EP X pins σ Q r s') pl (by omega) (by omega) (by rw [List.size_toArray,<-hl];exact h1) (by simpa using ew) ⟨rfl,fin⟩) hs
theorem ix_str:IxR X rIxS:=by
 intro value slice pins s σ H x y v u Q I rx ry h hs;obtain⟨z,i,c,rfl,rfl,hz,he,q⟩:=h;obtain⟨t,rfl⟩:=rx;obtain⟨t',rfl⟩:=ry;obtain⟨j,h1,h2,h3,h4,h5⟩:=ZbT he;have hl:z.cps.toList.length=z.length:=by simp [Str.length]
 rw [hl]at h1 h4 h5;have hn:=U9
 exact tail_any (typeIs_str s z t) slot_str_getitem.lookup (getItem_str (c:=c) (by
  have e1:decide (i < -(2 ^ 63:Int))=false:=decide_eq_false (by omega);have e2:decide (i ≥ 2 ^ 63)=false:=decide_eq_false (by omega);rw [e1,e2,Bool.or_false]) (by rw [h1];simpa using h2) ⟨.str ⟨#[c]⟩,H,I.tok _,⟨_,rfl⟩,q⟩) hs
theorem ZcV(its:List Value)(n j:Nat)(u:Value):Obj.mapSeq (·.setIfInBounds j u) { cls := .type "list",data := .seq its.toArray n }={ cls := .type "list",data := .seq (its.set j u).toArray n }:=by
 simp [Obj.mapSeq]
theorem Inv.lst{pins:List (Addr×Obj)}{σ:St}{H:Hp}{s:Shared}{p:Addr}{xs:List V}(I:Inv X pins σ H s)(h:H p=some (.lst xs)) :
 ∃(its:List Value) (n:Nat),Vals xs its/\s.heap.get? p=some { cls := .type "list",data := .seq its.toArray n }/\xs.length<=sizeLine:=by
 obtain⟨z,its,n,r,e⟩:=I.hok p _ h;exact⟨its,n,r,e,z⟩
theorem Inv.lstUpd {pins:List (Addr×Obj)} {σ:St} {H:Hp} {s:Shared} {p:Addr} {xs ys:List V} {its its':List Value} {n n':Nat} {f:Obj->Obj} (I:Inv X pins σ H s) (h:H p=some (.lst xs))
 (ho:s.heap.get? p=some { cls := .type "list",data := .seq its.toArray n }) (hf:f { cls := .type "list",data := .seq its.toArray n }={ cls := .type "list",data := .seq its'.toArray n' }) (r:Vals ys its') (hz:ys.length<=sizeLine) (t:Nat) :
 Inv X pins σ (upd H p (.lst ys)) { s with heap:=s.heap.update p f,toks:=t }:=by
 have e:(s.heap.update p f).get? p=some { cls := .type "list",data := .seq its'.toArray n' }:=by
  rw [Heap.get?_update_self f ho (by rw [hf]<;>rfl),hf]
 refine I.write (x:=p) (e:=p) (by rw [h];trivial) (.inl rfl) (λb u hb q=>(Heap.get?_update_other _ _ (Ne.symm hb)).trans q) ⟨_,e⟩ ?_;exact⟨hz,its',n',r,e⟩
def rSetL:V->V->V->Hp->(Hp->Prop)->Prop:=λo i v H Q=>∃p xs k j,o = .ref p/\i = .int k/\H p=some (.lst xs)/\ixN xs.length k=some j/\Q (upd H p (.lst (xs.set j v)))
theorem ZeM:ZkZ X rSetL:=by
 intro pins s σ H o i v ov iv u Q I ro ri rv h;obtain⟨p,xs,k,j,rfl,rfl,hp,hj,q⟩:=h;cases ro;obtain⟨t,rfl⟩:=ri;obtain⟨its,n,r,ho,hz⟩:=I.lst hp;obtain⟨h1,h2,h3,h4⟩:=Zdp hj;have hl:=r.length;have hn:=U9
 have I':Inv X pins σ (upd H p (.lst (xs.set j v))) { s with heap:=s.heap.update p (Obj.mapSeq (·.setIfInBounds j u)) }:=
  I.lstUpd hp ho (ZcV its n j u) (r.set rv j) (by rw [List.length_set];exact hz) s.toks
 by_cases h0:0<=k
 · have hk : k.toNat = j := by
    rw [seqIndex_of h0 h4]at h1;exact Option.some.inj h1
   exact PySem.W.ki_setAt ho h0 (by omega) (by rw [List.size_toArray,<-hl];exact h4) (by rw [hk];exact⟨_,I',q⟩)
 · have hk : (k + (its.toArray.size : Int)).toNat = j := by
    rw [seqIndex_neg (by omega) h3]at h1;rw [List.size_toArray,<-hl];exact Option.some.inj h1
   exact PySem.W.ki_setBack ho (by omega) (by rw [List.size_toArray,<-hl];exact h3) (by omega) (by rw [hk];exact⟨_,I',q⟩)
theorem ZbN(lo hi:Option Int)(n:Nat):(sliceBounds lo hi none n).1=((HT.sIx n 0 lo:Nat):Int)/\(sliceBounds lo hi none n).2.1=((HT.sIx n n hi:Nat):Int)/\(sliceBounds lo hi none n).2.2=1:=by
 refine⟨?_,?_,rfl⟩
 · cases lo with
   |none=>simp [sliceBounds,HT.sIx]
   |some i=>
    simp only [sliceBounds,HT.sIx,Option.getD_none,show(1:Int)>0 by decide,if_true]
    by_cases h:i<0
    · simp only [h,if_true]<;>omega
    · simp only [h,if_false]<;>omega
 · cases hi with
   |none=>simp [sliceBounds,HT.sIx]
   |some i=>
    simp only [sliceBounds,HT.sIx,Option.getD_none,show(1:Int)>0 by decide,if_true]
    by_cases h:i<0
    · simp only [h,if_true]<;>omega
    · simp only [h,if_false]<;>omega
theorem Zbi(its:List Value)(lo hi:Option Int):slicePick its.toArray lo hi none=((its.drop (HT.sIx its.length 0 lo)).take (HT.sIx its.length its.length hi-HT.sIx its.length 0 lo)).toArray:=by
 obtain⟨h1,h2,h3⟩:=ZbN lo hi its.toArray.size;unfold slicePick;rw [h1,h2,h3];simp only [sliceRange_one,pick_run,List.size_toArray]<;>rfl
def Zk8(K:PySem.W.Frag):V->Option Int->Option Int->Hp->VK->Prop:=λx lo hi H Q=>∃a xs,x = .ref a/\SqL K H a xs/\∀p,H p=none->Q (.ref p) (upd H p (.lst (V8 xs lo hi)))
theorem sl_list:SlR X (Zk8 X.K):=by
 intro pins s σ H x v vl vu lo hi sl Q I rx hs pl pu h;obtain⟨a,xs,rfl,hx,q⟩:=h;cases rx;obtain⟨its,r,ht,hz⟩:=I.list hx;have hlen:=r.length;refine⟨"list",_,slot_list_getitem.lookup,ht.isList.typeIs,?_⟩;refine wpAny_getItem_list_slice ht.isList hs pl pu .none (by simp) ?_ (by rw [List.size_toArray]<;>omega);rw [Zbi,<-hlen];refine⟨.ref s.heap.objs.size,_,I.laid (t':=s.toks) (o:=.lst (V8 xs lo hi)) (λb ob q=>Heap.get?_push_of_some _ q) (Nat.le_refl _) ?_,rfl,q _ (I.hok.fresh (Nat.le_refl _))⟩
 exact⟨Nat.le_trans (ZaP xs lo hi) hz,_,0,(r.drop (HT.sIx xs.length 0 lo)).take (HT.sIx xs.length xs.length hi-HT.sIx xs.length 0 lo),Heap.get?_push_size _ rfl⟩
def XW:V->Bool
 | .non=>true
 | .bl _=>true
 | .int _=>true
 | .str _=>true
 |_=>false
def eqV:V->V->Bool
 | .non,.non=>true
 | .bl a,.bl b=>a == b
 | .bl a,.int b=>(if a then 1 else 0) == b
 | .int a,.bl b=>a == (if b then 1 else 0)
 | .int a,.int b=>a == b
 | .str a,.str b=>a == b
 |_,_=>false
theorem ZhT{A:Around}{s:Shared}{y x:V}{u v:Value}(ry:RelV y u)(rx:RelV x v)(fy:XW y=true)(fx:XW x=true):SeqAt.EqAt A s u v (eqV y x):=by
 cases y with
 |non=>
  cases ry;cases x with
  |non=>cases rx;exact SeqAt.EqAt.same _
  |bl b=>cases rx;exact SeqAt.EqAt.none_bool b
  |int b=>obtain⟨t,rfl⟩:=rx;exact SeqAt.EqAt.none_int b t
  |str b=>obtain⟨t,rfl⟩:=rx;exact SeqAt.EqAt.none_str b t
  |_=>exact absurd (show false=true from fx) Bool.false_ne_true
 |bl a=>
  cases ry;cases x with
  |non=>cases rx;exact SeqAt.EqAt.bool_none a
  |bl b=>cases rx;exact SeqAt.EqAt.bool_bool a b
  |int b=>obtain⟨t,rfl⟩:=rx;exact SeqAt.EqAt.bool_int a b t
  |str b=>obtain⟨t,rfl⟩:=rx;exact SeqAt.EqAt.bool_str a b t
  |_=>exact absurd (show false=true from fx) Bool.false_ne_true
 |int a=>
  obtain⟨t',rfl⟩:=ry;cases x with
  |non=>cases rx;exact SeqAt.EqAt.int_none a t'
  |bl b=>cases rx;exact SeqAt.EqAt.int_bool a t' b
  |int b=>obtain⟨t,rfl⟩:=rx;exact SeqAt.EqAt.int_int a t' b t
  |str b=>obtain⟨t,rfl⟩:=rx;exact SeqAt.EqAt.int_str a t' b t
  |_=>exact absurd (show false=true from fx) Bool.false_ne_true
 |str a=>
  obtain⟨t',rfl⟩:=ry;cases x with
  |non=>cases rx;exact SeqAt.EqAt.str_none a t'
  |bl b=>cases rx;exact SeqAt.EqAt.str_bool a t' b
  |int b=>obtain⟨t,rfl⟩:=rx;exact SeqAt.EqAt.str_int a t' b t
  |str b=>obtain⟨t,rfl⟩:=rx;exact SeqAt.EqAt.str_str a t' b t
  |_=>exact absurd (show false=true from fx) Bool.false_ne_true
 |_=>exact absurd (show false=true from fy) Bool.false_ne_true
def eqU(x:V)(u:Value):Bool:=match u with
 | .none=>eqV .non x
 | .bool b=>eqV (.bl b) x
 | .int i _=>eqV (.int i) x
 | .str z _=>eqV (.str z) x
 |_=>false
theorem Zc8{x y:V}{u:Value}(r:RelV y u)(f:XW y=true):eqU x u=eqV y x:=by
 cases y with
 |non=>cases r;rfl
 |bl b=>cases r;rfl
 |int i=>obtain⟨t,rfl⟩:=r;rfl
 |str z=>obtain⟨t,rfl⟩:=r;rfl
 |_=>exact absurd (show false=true from f) Bool.false_ne_true
theorem QO{x:V}:∀{xs:List V}{us:List Value},Vals xs us->xs.all XW=true->us.any (eqU x)=xs.any λy=>eqV y x
 |_,_,.nil,_=>rfl
 |y::xs,u::us,.cons r t,f=>by
  rw [List.all_cons,Bool.and_eq_true]at f;rw [List.any_cons,List.any_cons,Zc8 r f.1,QO t f.2]
theorem Qa{A:Around}{s:Shared}{x:V}{v:Value}(rx:RelV x v)(fx:XW x=true):∀{xs:List V}{us:List Value},Vals xs us->xs.all XW=true->∀u∈us,SeqAt.EqAt A s u v (eqU x u)
 |_,_,.nil,_=>λu hu=>by cases hu
 |y::xs,u::us,.cons r t,f=>λu' hu=>by
  rw [List.all_cons,Bool.and_eq_true]at f;rcases List.mem_cons.mp hu with rfl|hu
  · rw [Zc8 r f.1];exact ZhT r rx f.1 fx
  · exact Qa rx fx t f.2 u' hu
def inV(x:V)(xs:List V):Bool:=xs.any λy=>eqV y x
def rIn(K:PySem.W.Frag)(neg:Bool):R2:=λx y H Q=>∃p xs,y = .ref p/\(SqL K H p xs\/SqT K H p xs)/\XW x=true/\xs.all XW=true/\Q (.bl (if neg then !inV x xs else inV x xs)) H
theorem Zd5:OpR X (compareOp .In) (rIn X.K false):=by
 intro pins s σ H x y v u Q I rx ry h;obtain⟨p,xs,rfl,hq,fx,fs,q⟩:=h;cases ry;rcases hq with hq|hq
 · obtain⟨its,r,pl,hz⟩:=I.list hq
   refine SeqAt.in_listAt (eqU x) pl.isList (λw hw=>Qa rx fx r fs w (by simpa using hw)) ⟨.bl _,H,I,rfl,?_⟩;rw [show its.toArray.any (eqU x)=its.any (eqU x) by simp,QO r fs];exact q
 · obtain⟨its,r,pl,hz⟩:=I.tuple hq
   refine SeqAt.in_tupleAt (eqU x) pl (λw hw=>Qa rx fx r fs w (by simpa using hw)) ⟨.bl _,H,I,rfl,?_⟩;rw [show its.toArray.any (eqU x)=its.any (eqU x) by simp,QO r fs];exact q
theorem ZbO:OpR X (compareOp .NotIn) (rIn X.K true):=by
 intro pins s σ H x y v u Q I rx ry h;obtain⟨p,xs,rfl,hq,fx,fs,q⟩:=h;cases ry;rcases hq with hq|hq
 · obtain⟨its,r,pl,hz⟩:=I.list hq
   refine SeqAt.notIn_listAt (eqU x) pl.isList (λw hw=>Qa rx fx r fs w (by simpa using hw)) ⟨.bl _,H,I,rfl,?_⟩;rw [show its.toArray.any (eqU x)=its.any (eqU x) by simp,QO r fs];exact q
 · obtain⟨its,r,pl,hz⟩:=I.tuple hq
   refine SeqAt.notIn_tupleAt (eqU x) pl (λw hw=>Qa rx fx r fs w (by simpa using hw)) ⟨.bl _,H,I,rfl,?_⟩;rw [show its.toArray.any (eqU x)=its.any (eqU x) by simp,QO r fs];exact q
theorem ZbP:Xh X (.builtin "len") (λxs H Q=>∃p ys,xs=[.ref p]/\(SqL X.K H p ys\/SqT X.K H p ys)/\Q (.int ys.length) H):=by
 intro pins s σ H xs us Q I r h;obtain⟨p,ys,rfl,hq,q⟩:=h;obtain⟨u,rfl,rx⟩:=X4 r;cases rx;have hn:=U9;rcases hq with hq|hq
 · obtain⟨its,r',pl,hz⟩:=I.list hq
   have hlen:=r'.length;exact Calls.call_len_list pl.isList (by simp only [List.size_toArray]<;>omega) ⟨.int ys.length,H,I.tok _,⟨s.toks+1,by rw [List.size_toArray,hlen]⟩,q⟩
 · obtain⟨its,r',pl,hz⟩:=I.tuple hq
   have hlen:=r'.length;exact len_tuple pl (by simp only [List.size_toArray]<;>omega) ⟨.int ys.length,H,I.tok _,⟨s.toks+1,by rw [List.size_toArray,hlen]⟩,q⟩
theorem ZbQ:Xh X (.builtin "len") (λxs H Q=>∃z,xs=[.str z]/\z.length<=sizeLine/\Q (.int z.length) H):=by
 intro pins s σ H xs us Q I r h;obtain⟨z,rfl,hz,q⟩:=h;obtain⟨u,rfl,t,rfl⟩:=X4 r;have hn:=U9;exact len_str (by omega) ⟨.int z.length,H,I.tok _,⟨_,rfl⟩,q⟩
theorem Zbj:Xh X (.type "tuple") (λxs H Q=>∃p ys,xs=[.ref p]/\((SqL X.K H p ys/\∀l,H l=none->Q (.ref l) (upd H l (.tup ys)))\/(SqT X.K H p ys/\Q (.ref p) H))):=by
 intro pins s σ H xs us Q I r h;obtain⟨p,ys,rfl,h⟩:=h;obtain⟨u,rfl,rx⟩:=X4 r;cases rx;rcases h with⟨hq,q⟩|⟨hq,q⟩
 · obtain⟨its,r',pl,hz⟩:=I.list hq
   have hlen:=r'.length;refine call_tuple_list pl.isList (λh' kp => ?_) (by simp only [List.size_toArray]<;>omega);have I1:Inv X pins σ H { s with heap:=h' }:=I.kept (t':=s.toks) kp
   have I2:Inv X pins σ (upd H h'.objs.size (.tup ys)) { s with heap:=h'.push { cls := .type "tuple",data := .seq its.toArray } }:=
    I1.laid (t':=s.toks) (λb o e=>Heap.get?_push_of_some _ e) (Nat.le_refl _) (show ObjOk X.prog X.w _ _ _ (.tup ys)from⟨hz,its,r',TupN.new _ _⟩)
   exact⟨.ref h'.objs.size,_,I2,rfl,q _ (I1.hok.fresh (Nat.le_refl _))⟩
 · obtain⟨its,r',pl,hz⟩:=I.tuple hq
   exact call_tuple_same pl ⟨.ref p,H,I,rfl,q⟩
def tyV(K:PySem.W.Frag)(T:String)(x:V)(H:Hp):Prop:=match x with
 | .str _=>T = "str"
 | .int _=>T = "int"
 | .ref p=>(T = "list" /\ ∃xs,SqL K H p xs)\/(T = "tuple" /\ ∃o,K.lookup p=some o/\o.cls = .type "tuple" /\ o.dict=none) \/
  (T = "dict" /\ ((∃kvs,H p=some (.dK kvs))\/∃kvs,H p=some (.dT kvs)))\/(T = "set" /\ ∃S n,H p=some (.set S n))\/(T = "tuple" /\ ∃xs,H p=some (.tup xs))
 |_=>False
theorem ZhU{pins:List (Addr×Obj)}{σ:St}{H:Hp}{s:Shared}{T:String}{x:V}{v:Value}(I:Inv X pins σ H s)(r:RelV x v)(ty:tyV X.K T x H) :
 s.TypeIs v T/\∀a,v = .ref a->∃ob,s.heap.get? a=some ob/\ob.dict=none:=by
 cases x with
 |str z=>
  obtain⟨t,rfl⟩:=r;cases(show T = "str" from ty);exact⟨typeIs_str s z t,λ_ e=>nomatch e⟩
 |int i=>
  obtain⟨t,rfl⟩:=r;cases(show T = "int" from ty);exact⟨typeIs_int s i t,λ_ e=>nomatch e⟩
 |ref p=>
  cases r;rcases ty with⟨rfl,xs,hq⟩|⟨rfl,o,hk,hc,hd⟩|⟨rfl,hk⟩|⟨rfl,S,n,hk⟩|⟨rfl,xs,hk⟩
  · obtain⟨its,_,pl,_⟩:=I.list hq
    refine⟨pl.isList.typeIs,λa e => ?_⟩;cases e;obtain⟨o,n,e,c,hd,_⟩:=pl;exact⟨o,e,hd⟩
  · refine⟨⟨o,I.kIn p o hk,hc⟩,λa e => ?_⟩
    cases e;exact⟨o,I.kIn _ o hk,hd⟩
  · have z : ∃ o, s.heap.get? p = some o /\ o.ExactDict := by
     rcases hk with⟨kvs,hk⟩|⟨kvs,hk⟩
     · obtain⟨_,_,_,_,o,_,_,e,ex,_⟩:=I.hok p _ hk
       exact⟨o,e,ex⟩
     · obtain⟨_,_,_,_,o,_,_,e,ex,_⟩:=I.hok p _ hk
       exact⟨o,e,ex⟩
    obtain⟨o,e,ex⟩:=z;refine⟨⟨o,e,ex.1⟩,λa e2 => ?_⟩;cases e2;exact⟨o,e,ex.2.1⟩
  · obtain⟨o,_,_,_,e,ex,_⟩:=I.hok p _ hk
    refine⟨⟨o,e,ex.1⟩,λa e2 => ?_⟩;cases e2;exact⟨o,e,ex.2.1⟩
  · obtain⟨_,its,_,o,e,c,_,dn⟩:=(show ObjOk X.prog X.w H s.heap p (.tup xs)from I.hok p _ hk)
    refine⟨⟨o,e,c⟩,λa e2 => ?_⟩;cases e2;exact⟨o,e,dn⟩
 |_=>exact False.elim ty
def tBM(K:PySem.W.Frag)(T:String)(r:V->List V->Hp->VK->Prop)(to:TE)(t:TA):TE:=λσ H Q=>to σ H λx H1=>tyV K T x H1/\t σ H1 λxs H2=>r x xs H2 Q
variable{o e:Expr}{es:List Expr}{to:TE}{t:TA}{name:Str}{apos cpos:Pos}{T id:String}{r:V->List V->Hp->VK->Prop}
theorem ZjI (pa:PlainAttrs T) (slot:Slot T name id) (hty:typeOf (.builtin id)=pure (.type "method_descriptor")) (hm:MtR X id r) (ho:PE X o to) (ha:PA X (e::es) t)
 (hbase:attributeBase o name X.env (eval o X.env)=eval o X.env:=by rfl)
 (hfew:((backTo cpos (starEach (e::es) X.env)).all (λx => !x.1)&&(backToKw cpos (keywordEach [] X.env)).all (λx=>x.1.isSome)
   && decide ((e::es).length+([]:List Keyword).length+(if([]:List Keyword).isEmpty then 0 else 1)<30))=true:=by rfl)
 (hline:(apos.endLine == cpos.line)=true:=by rfl) (hs:starEach (e::es) X.env=(false,eval e X.env)::starEach es X.env:=by rfl) (hplain:(backTo cpos (starEach es X.env)).any (·.1)=false:=by rfl) :
 PE X (.Call (.Attribute o name apos) (e::es) [] cpos) (tBM X.K T r to t):=by
 intro pins s σ H Q I h;refine wpAny_Call_method_late hbase hfew hline rfl (thn (ho pins s σ H _ I h) λv s1 ⟨x,H1,I1,r1,ty,q1⟩ => ?_);obtain⟨h1,h2⟩:=ZhU I1 r1 ty;refine⟨T,id,pa,slot,hty,h1,h2,?_⟩;have hA:=ha cpos pins s1 σ H1 _ I1 q1;rw [hs]at hA ⊢;refine Calls.callWith_builtin (by show(false||(backTo cpos (starEach es X.env)).any (·.1))=false;rw [hplain]<;>rfl) (Calls.evalArgs_plain ?_)
 exact thn hA λus s2 ⟨vs,H2,I2,r2,q2⟩=>hm pins s2 σ H2 x vs v us Q I2 r1 r2 q2
end
end L2
namespace L2
open PySem PySem.Spec PyProof.Rows
def MtM(X:Cx)(id:String)(r:V->List V->Hp->VK->Prop):Prop:=
 ∀(pins:List (Addr×Obj))(s:Shared)(σ:St)(H:Hp)(x:V)(xs:List V)(v:Value)(us:List Value)(Q:VK),Inv X pins σ H s->RelV x v->Vals xs us->r x xs H Q ->
  wpAny (model X.prog X.w) X.A (call (.builtin id) (v::us)) (EP X pins σ Q) X.xe s
theorem Vals.one:∀{x:V}{us:List Value},Vals [x] us->∃u,us=[u]/\RelV x u
 |_,_,.cons r .nil=>⟨_,rfl,r⟩
theorem Vals.two:∀{x y:V}{us:List Value},Vals [x,y] us->∃u v,us=[u,v]/\RelV x u/\RelV y v
 |_,_,_,.cons r (.cons q .nil)=>⟨_,_,rfl,r,q⟩
section
variable{X:Cx}{pins:List (Addr×Obj)}{σ:St}{H:Hp}{s:Shared}{l b:Addr}{xs ys zs:List V}
theorem Inv.lset {its its':List Value} {n:Nat} {f:Array Value->Array Value} {t':Nat} (I:Inv X pins σ H s) (hH:H l=some (.lst xs))
 (e:s.heap.get? l=some { cls := .type "list",data := .seq its.toArray n }) (hf:f its.toArray=its'.toArray) (hv:Vals ys its') (hz:ys.length<=sizeLine) :
 Inv X pins σ (upd H l (.lst ys)) { s with heap:=s.heap.update l (Obj.mapSeq f),toks:=t' }:=by
 have q:=PySem.IsL.update e f;rw [hf]at q;refine I.write (x:=l) (e:=l) (by rw [hH];exact trivial) (.inl rfl) (λb' u hb hu=>(Heap.get?_update_other s.heap (Obj.mapSeq f) (Ne.symm hb)).trans hu) ⟨_,q⟩ ?_;exact⟨hz,its',_,hv,q⟩
theorem Inv.lnew{its:List Value}{t':Nat}(I:Inv X pins σ H s)(hv:Vals ys its)(hz:ys.length<=sizeLine) :
 Inv X pins σ (upd H s.heap.objs.size (.lst ys)) { s with heap:=s.heap.push { cls := .type "list",data := .seq its.toArray },toks:=t' }:=
 I.laid (λ_ _ q=>Heap.get?_push_of_some _ q) (Nat.le_refl _) ⟨hz,its,0,hv,Heap.get?_push_size _ rfl⟩
theorem Inv.fresh(I:Inv X pins σ H s):H s.heap.objs.size=none:=I.hok.fresh (Nat.le_refl _)
theorem Inv.lstM(I:Inv X pins σ H s)(hH:H l=some (.lst xs)):xs.length<=sizeLine/\∃(its:List Value) (n:Nat),Vals xs its/\xs.length=its.length/\s.heap.get? l=some { cls := .type "list",data := .seq its.toArray n }:=by
 obtain⟨z,its,n,r,e⟩:=I.hok l _ hH;exact⟨z,its,n,r,r.length,e⟩
end
section
variable{X:Cx}
def rCat:R2:=λx y H Q=>∃l b xs zs,x = .ref l/\y = .ref b/\H l=some (.lst xs)/\H b=some (.lst zs)/\xs.length+zs.length<=sizeLine/\∀p,H p=none->Q (.ref p) (upd H p (.lst (xs++zs)))
theorem ZhV:OpR X (binaryOp .Add) rCat:=by
 intro pins s σ H x y v u Q I rx ry h;obtain⟨l,b,xs,zs,rfl,rfl,hH,hB,hz,q⟩:=h;cases rx;cases ry;obtain⟨z,its,n,r,hl,e⟩:=I.lstM hH;obtain⟨z2,its2,n2,r2,hl2,e2⟩:=I.lstM hB;refine PySem.P.add_list e e2 ?_ (by rw [List.size_toArray,List.size_toArray];omega);have ea:its.toArray++its2.toArray=(its++its2).toArray:=by simp
 rw [ea];exact⟨.ref _,_,I.lnew (t':=s.toks) (r.append r2) (by rw [List.length_append];omega),rfl,q _ I.fresh⟩
end
section
variable{prog:Program}{w:World}{A:Around}{E:Value->Shared->Prop}{s:Shared}
set_option maxRecDepth 100000 in
end
section
variable{X:Cx}
end
end L2
namespace Att
open PySem PySem.W PySem.Calls PyProof.Rows
theorem ZaS{P:Params}{h:Heap}:∀(ns:List Int)(vs:List Value),WellAll P h vs (ns.map WData.int)->IntsAre vs ns:=by
 intro ns
 induction ns with
 |nil=>
  intro vs w;rw [List.map_nil]at w;cases w;exact .nil
 |cons n ns ih=>
  intro vs w;rw [List.map_cons]at w;cases w with
  |cons a b=>
   cases a;exact .cons _ _ (ih _ b)
theorem Zd6 {l:OpenLaw} {n:Nat} (hn:l.most=some n) {P:Params} {h:Heap} {args:List WData} {vals:List Value}
 (hpre:l.row.toRowW.claim.pre args=true) (hwl:WellAll P h vals args) :
 ∃a vs ns,vals=[Value.ref a]/\args=[WData.list (ns.map WData.int)]/\h.get? a=some { cls := .type "list",data := .seq vs.toArray }/\IntsAre vs ns/\ns.length<=n:=by
 have hsh:WShape.hasAll [] args [.list .int]=true:=(pre_splitW hpre).1;have hc:l.pre.holds [] { args:=args }=true:=(pre_splitW hpre).2;obtain⟨d,r,rfl,h1,h2⟩:=hasAllW_cons hsh;obtain rfl:=hasAllW_nil h2;obtain⟨xs,rfl,h3⟩:=hasW_list h1;obtain⟨ns,rfl⟩:=items_int h3
 have hlen:ns.length<=n:=by
  unfold OpenLaw.pre at hc
  have h4:(WTm.not (.lt (.lit (.int (n:Int))) (.len (.arg 0)))).holds [] { args:=[.list (ns.map .int)] }=true:=by
   have h4:=(holds_andW hc).1;rw [hn]at h4;exact h4
  have h5:=condW_of h4 (w_not (w_lt w_lit (w_len_list (w_arg rfl))));rw [List.length_map]at h5;refine Nat.le_of_not_lt λq => ?_
  have q':(n:Int)<((ns.length:Nat):Int):=by omega
  first
   |(rw [decide_eq_true q']at h5;exact absurd h5 (by decide))
   |(simp at h5;omega)
 cases hwl with
 |cons w1 w2=>
  cases w2;cases w1 with
  |list ho hall=>exact⟨_,_,ns,rfl,rfl,ho,ZaS ns _ hall,hlen⟩
theorem Zd7(l:OpenLaw)(args:List WData):l.row.toRowW.claim.post args (.bool true) args=true:=
 postW_of (r:=l.row.toRowW) (X:=(true == true))
  (show WShape.has [] (.bool true) .bool=true by first|rfl|decide|simp [WShape.has,WShape.arms,WShape.armsAll])
  (show(WTm.eq .res (.lit (.bool true))).value [] { args:=args,res:=some (.bool true),after:=args }=some (.bool (true == true))from w_eq_bool (w_res rfl) w_lit) rfl
theorem attach_call {l:OpenLaw} {n:Nat} {q:Program} {loose:List Str} {XP:(Str->Option Value)->Heap->Prop} {YP:World->Heap->Prop} {d:DefRec}
 (hn:l.most=some n) (hdf:d.params.defaults=[])
 (call:∀(w:World)(s₀ s₁:Shared)(mg mb:Str->Option Value)(fa:Addr)(o:Obj)(pm cd doc:Value)(a:Addr)(vs:List Value)(ns:List Int),
   Ground q loose [] XP w s₀ mg mb s₁.heap->YP w s₁.heap ->
   s₁.heap.get? fa=some o->o.data = .func (docDef d.name d.params d.body d.scope pm cd doc)->s₁.heap.CodeRec cd d.name->mg d.name=some (.ref fa) ->
   s₁.heap.get? a=some { cls := .type "list",data := .seq vs.toArray }->IntsAre vs ns->ns.length<=n->s₁.gens = #[] ->
   codeAny (model l.prog w) callerA (.call (.ref fa) ⟨[.ref a],[]⟩) (λr s'=>r = .ok (.ret (.bool true))/\OldK s₁.heap s'.heap/\s'.os=s₁.os/\AllBare s'.gens) s₁) :
 WalkO q loose XP YP l.row.toRowW d [] (λf vs=>PySem.call f vs):=by
 intro w s₀ s₁ mg mb G Y fa o pm cd doc dV kV ho hd hcd hD hmg hg args vals as hpre hlay hrd hwl hlo;obtain rfl:dV = .none:=Dflts.none hD hdf;obtain rfl:kV = .none:=Dflts.noKw hD;obtain⟨a,vs,ns,rfl,rfl,hobj,hints,hlen⟩:=Zd6 hn hpre hwl;refine enter_call (codeAny_mono (call w s₀ s₁ mg mb fa o pm cd doc a vs ns G Y ho (fd_plain hd) hcd hmg hobj hints hlen hg) λr s' hq => ?_);obtain⟨rfl,h2,h3,h4⟩:=hq
 exact⟨.inl ⟨.bool true,.bool true,[],rfl,λ_=>rfl,.bool true,Zd7 l _,λ_=>⟨List.Pairwise.nil,λ_ hm=>(nomatch hm)⟩⟩,h2,h3,h4⟩
section
variable{prog:Program}{w:World}{A:Around}{E:Value->Shared->Prop}{s:Shared}{K:Frag}
end
end Att
namespace L2
open PySem PySem.Spec PyProof.Rows
theorem Zbw:∀{vs:List Value}{ns:List Int},IntsAre vs ns->Vals (ns.map V.int) vs
 |_,_,.nil => .nil
 |_,_,.cons n t h => .cons ⟨t,rfl⟩ (Zbw h)
def Zi6(H:Hp):Prop:=∀b,H b=none\/∃o xs,H b=some (.frz o (.lst xs))
theorem ZeN {P:Program} {w:World} {K:PySem.W.Frag} {mg mb:Str->Option Value} {CX:CXT} {k:Nat} {fa a:Addr} {fd:FuncData} {x:Str} {sp:Sp} {s₁:Shared} {vs:List Value} {ns:List Int}
 (KX:K.In s₁.heap) (hns:s₁.heap.Ns mainGlobals mg) (hb:s₁.heap.Ns builtinsNs mb) (hbb:∀x:Str,x ≠ "__name__" -> mb x=bootBuiltins x) (hlim:s₁.heap.NoLimit) (hg:s₁.gens = #[])
 (ha:s₁.heap.get? a=some { cls := .type "list",data := .seq vs.toArray }) (hi:IntsAre vs ns) (hl:ns.length<=sizeLine) (hr:Room k callerA)
 (F:∀base:Heap,K.In base->base.Ns mainGlobals mg->FnOk P w K mg base CX k fa fd [x] sp) (hbind:∀(s:Shared)(u:Value),BindsTo s fd ⟨[u],[]⟩ [(x,u)])
 (hsp:∀H:Hp,Zi6 H->SqL K H a (ns.map V.int)->sp [.ref a] H (λv _=>v = .bl true) λ_ _ _=>False)
 (hCX:∀H e s',CX [] H s₁ (λ_ _ _=>False) e s'->False) :
 codeAny (model P w) callerA (.call (.ref fa) ⟨[.ref a],[]⟩) (λr s'=>r = .ok (.ret (.bool true))/\OldK s₁.heap s'.heap/\s'.os=s₁.os/\AllBare s'.gens) s₁:=by
 have rv:=Zbw hi;have lenV:=hi.length
 have core:∀H:Hp,Zi6 H->SqL K H a (ns.map V.int)->HOk P w H s₁.heap->(∀b,H b≠none->b=a)->(H a≠none->K.lookup a=none) ->
  codeAny (model P w) callerA (.call (.ref fa) ⟨[.ref a],[]⟩) (λr s'=>r = .ok (.ret (.bool true))/\OldK s₁.heap s'.heap/\s'.os=s₁.os/\AllBare s'.gens) s₁:=by
  intro H hO hS hok hA hK;have base_of:∀{b:Addr}{o:Obj},s₁.heap.get? b=some o->H b=none->(Vz s₁.heap H).get? b=some o:=λe n=>ZeE e n
  have noA:∀{b:Addr}{o:Obj}{es:Array DictEntry}{ep:Nat},s₁.heap.get? b=some o->o.data = .dict es ep->H b=none:=λ{b o es ep} e d=>by
   cases q:H b with
   |none=>rfl
   |some u=>
    have e':b=a:=hA b (by rw [q];simp);subst e';rw [ha]at e;cases e;have d':Data.seq vs.toArray _=Data.dict es ep:=d;cases d'
  have nsK:∀{b:Addr}{m:Str->Option Value},s₁.heap.Ns b m->(Vz s₁.heap H).Ns b m:=λ{b m} ⟨o,es,ep,e,d,r⟩=>⟨o,es,ep,base_of e (noA e d),d,r⟩
  have hKb:K.In (Vz s₁.heap H):=λb o e=>base_of (KX b o e) (by
   cases q:H b with
   |none=>rfl
   |some u=>
    have e':b=a:=hA b (by rw [q];simp);subst e';rw [hK (by rw [q];simp)]at e;cases e)
  have hM:Mod K mg (Vz s₁.heap H):=⟨hKb,nsK hns,⟨mb,nsK hb,hbb⟩,let⟨mc,h1,h2⟩:=hlim;⟨mc,nsK h1,h2⟩⟩
  have e0:Env0 P w K mg (Vz s₁.heap H) callerA [] s₁ H:=⟨rfl,hM,λb o e=>Zgl e,Nat.le_of_eq (ZdY _ _),trivial,λb hb=>absurd (show b∈([]:List Addr)from hb) (by simp),hok,.of_eq hg⟩
  refine codeAny_mono ((F _ hKb (nsK hns)).run callerA [] s₁ H ⟨[.ref a],[]⟩ [.ref a] [.ref a] _ _ hr e0 (hbind s₁ (.ref a)) (.cons rfl .nil) (hsp H hO hS)) λr s' h => ?_
  cases r with
  |error e=>exact(hCX H e s' h).elim
  |ok fl=>
   cases fl with
   |next=>exact False.elim h
   |brk=>exact False.elim h
   |cont=>exact False.elim h
   |ret u=>
    obtain⟨v,H',os,bare,un,hok',r',q⟩:=h;have q':v = .bl true:=q;subst q';obtain rfl:u=Value.bool true:=r';refine⟨rfl,OldK.of_keep λb o e => ?_,os,bare⟩;cases q:H b with
    |none=>exact un.keep b o e q (by intro z;exact absurd (show b∈([]:List Addr)from z) (by simp)) (by simp)
    |some u=>
     rcases hO b with z|⟨ob,xs,z⟩
     · rw [q]at z;cases z
     · have z2:=un.frzs b ob _ z
       obtain⟨e1,_⟩:=hok b _ z;obtain⟨e2,_⟩:=hok' b _ z2;rw [e]at e1;cases e1;exact e2
 cases hk:K.lookup a with
 |some o=>
  have e:=KX a o hk;rw [ha]at e;cases e;refine core (λ_=>none) (λ_ => .inl rfl) (.inr ⟨_,vs.toArray,_,hk,rfl,rfl,rfl,by rw [List.size_toArray,lenV];exact hl,by simpa using rv⟩) (λb u z=>by have z':(none:Option HO)=some u:=z;cases z') (λb z=>absurd rfl z) λz=>absurd rfl z
 |none=>
  refine core (λb=>if b=a then some (.frz { cls := .type "list",data := .seq vs.toArray } (.lst (ns.map V.int)))else none) (λb => ?_) (.inl (.inr ⟨{ cls := .type "list",data := .seq vs.toArray },if_pos rfl⟩)) (λb u z => ?_) (λb z => ?_) λ_=>hk
  · by_cases hb:b=a
    · exact .inr ⟨_,_,if_pos hb⟩
    · exact .inl (if_neg hb)
  · by_cases hb:b=a
    · have z':=(if_pos hb).symm.trans z
      cases z';subst hb;exact⟨ha,by rw [List.length_map];exact hl,vs,_,rv,ha⟩
    · have z':=(if_neg hb).symm.trans z
      cases z'
  · by_cases hb:b=a
    · exact hb
    · exact absurd (if_neg hb) z
end L2
namespace L2
open PySem PySem.Spec PyProof.Rows
theorem walk_of {l:PySem.W.OpenLaw} {n k:Nat} {q:Program} {loose:List Str} {XP:(Str->Option Value)->Heap->Prop} {YP:World->Heap->Prop} {d:DefRec} {K:Params->PySem.W.Frag} {CX:World->CXT} {sp:World->Sp} {x:Str}
 (hn:l.most=some n) (hn2:n<=sizeLine) (hdf:d.params.defaults=[]) (hr:Room k callerA)
 (hY:∀(w:World)(h:Heap),YP w h->(K w.params).In h)
 (F:∀(w:World)(mg:Str->Option Value)(fa:Addr)(h:Heap),(K w.params).In h->h.Ns mainGlobals mg->mg d.name=some (.ref fa) ->
   ∃fd:FuncData,(∀(s:Shared)(u:Value),BindsTo s fd ⟨[u],[]⟩ [(x,u)]) /\
    ∀base:Heap,(K w.params).In base->base.Ns mainGlobals mg->FnOk l.prog w (K w.params) mg base (CX w) k fa fd [x] (sp w))
 (hsp:∀(w:World)(H:Hp)(a:Addr)(ns:List Int),ns.length<=n->Zi6 H->SqL (K w.params) H a (ns.map V.int)->sp w [.ref a] H (λv _=>v = .bl true) λ_ _ _=>False)
 (hCX:∀(w:World)(H:Hp)(s:Shared)(e:Value)(s':Shared),CX w [] H s (λ_ _ _=>False) e s'->False) :
 PySem.W.WalkO q loose XP YP l.row.toRowW d [] (λf vs=>PySem.call f vs):=by
 refine Att.attach_call hn hdf λw s₀ s₁ mg mb fa o pm cd doc a vs ns G Y ho hd hcd hmg hobj hints hlen hg => ?_
 have KX:=hY w _ Y;obtain⟨fd,hb,hF⟩:=F w mg fa _ KX G.T.g hmg;exact ZeN KX G.T.g G.T.b G.T.builtins G.T.nolimit hg hobj hints (Nat.le_trans hlen hn2) hr hF hb (λH hO hS=>hsp w H a ns hlen hO hS) λH e s'=>hCX w H s₁ e s'
end L2
namespace L2
open PySem PySem.Spec PyProof.Rows
def XD(s:Stmt)(j:Nat):Stmt:=match s with
 | .ClassDef _ _ _ body _ _ _ _ _ _ _=>body.getD j (.Pass ⟨0,0,0,0⟩)
 |_ => .Pass ⟨0,0,0,0⟩
def defArgs(s:Stmt):Arguments:=match s with
 | .FunctionDef _ a _ _ _ _ _ _ _ _=>a
 |_=>{ posonlyargs:=[],args:=[],vararg:=none,kwonlyargs:=[],kw_defaults:=[],kwarg:=none,defaults:=[] }
def defBody(s:Stmt):List Stmt:=match s with
 | .FunctionDef _ _ b _ _ _ _ _ _ _=>b
 |_=>[]
def defScope(s:Stmt):Scope:=match s with
 | .FunctionDef _ _ _ _ _ _ sc _ _ _=>sc
 |_=>{ kind := .function,names:=[],isGenerator:=false,isCoroutine:=false }
abbrev CX0:CXT:=λ_ _ _ _ _ _=>False
abbrev E0:XK:=λ_ _ _=>False
theorem Yq{X:Cx}:XV CX0 X E0:=λ_ _ _ _ _ _ _ h=>h.elim
structure Fun(K:PySem.W.Frag)(x qual:Str)(st:Stmt)(f:Addr)(fd:FuncData):Prop where
 ex:∃(oc:Value) (od:Option Addr) (kV doc pm:Value) (an:Option Addr) (cdv ct:Value) (osl:Array (Option Value)),
  fd=fnOf x qual (defArgs st) (defBody st) (defScope st) .none kV doc pm an cdv ct/\K.lookup f=some ⟨oc,od,.func fd,osl⟩/\codeIn K cdv qual=true
 kp:PySem.W.keepIn K (.ref f)=true
section
variable{P:Program}{w:World}{K:PySem.W.Frag}{mg:Str->Option Value}{base:Heap}
theorem Fun.ok {x qual:Str} {st:Stmt} {f:Addr} {fd:FuncData} {N ps:List Str} {k:Nat} {sp:Sp} (F:Fun K x qual st f fd) (S:FnScope N ps (defScope st)) (len:∀vs H Q E,sp vs H Q E->vs.length=ps.length)
 (hbody:∀(cdv:Value)(A:Around)(outer:List Env)(s:Shared)(H:Hp)(vs:List V)(Q:VK)(E:XK),Room k (A.deeper (envOfC qual (defScope st) s.heap.objs.size f cdv))->sp vs H Q E ->
   ∃t,PSs (YO CX0 P w K mg base N qual (defScope st) f cdv A outer s H E).nox (defBody st) t/\t { nx:=λ_ H'=>Q .non H',rt:=Q } (start N vs) H):FnOk P w K mg base CX0 (k+1) f fd ps sp:=by
 obtain⟨oc,od,kV,doc,pm,an,cdv,ct,osl,rfl,lk,hcd⟩:=F.ex;refine JD lk hcd S len λA outer s H vs Q E hr hsp => ?_
 obtain⟨t,h,q⟩:=hbody cdv A outer s H vs Q E hr hsp;exact⟨t,h.nox,q⟩
theorem Fun.binds {x qual:Str} {st:Stmt} {f:Addr} {fd:FuncData} {ps:List Str} (F:Fun K x qual st f fd)
 (h:∀(kV doc pm:Value)(an:Option Addr)(cdv ct:Value)(us:List Value),us.length=ps.length->bindArgs (fnOf x qual (defArgs st) (defBody st) (defScope st) .none kV doc pm an cdv ct) ⟨us,[]⟩=pure (ps.zip us)):Binds K fd ps []:=by
 obtain⟨oc,od,kV,doc,pm,an,cdv,ct,osl,rfl,lk,hcd⟩:=F.ex;exact .all (h kV doc pm an cdv ct)
theorem fun_mk {x qual:Str} {st:Stmt} {f:Addr} {oc:Value} {od an:Option Addr} {osl:Array (Option Value)} {kV doc pm cdv ct:Value} (l:K.lookup f=some ⟨oc,od,.func (fnOf x qual (defArgs st) (defBody st) (defScope st) .none kV doc pm an cdv ct),osl⟩)
 (c:codeIn K cdv qual=true) (k:PySem.W.keepIn K (.ref f)=true):Fun K x qual st f (fnOf x qual (defArgs st) (defBody st) (defScope st) .none kV doc pm an cdv ct):=⟨⟨oc,od,kV,doc,pm,an,cdv,ct,osl,rfl,l,c⟩,k⟩
end
section
variable{X:Cx}
theorem pv (i:Nat) {x:Str} {pos:Pos} (hN:X.N[i]? = some x:=by rfl) (hv:Vis X.env.scope x:=by first|exact Or.inl rfl|exact Or.inr (Or.inl rfl)|exact Or.inr (Or.inr rfl)) (hd:(x == ("__debug__" : Str))=false:=by decide)
 (hcd:(x == ("__classdict__" : Str))=false:=by decide):PE X (.Name x pos) (XJ i):=ZhI hN hv hd hcd
end
theorem V9{A B:Prop}(h:B):if false=true then A else B:=by
 rw [if_neg Bool.false_ne_true];exact h
theorem Ua{A B:Prop}(h:A):if true=true then A else B:=by
 rw [if_pos rfl];exact h
def Same(H H':Hp):Prop:=∀b o,H b=some o->H' b=some o
theorem Same.refl(H:Hp):Same H H:=λ_ _ h=>h
theorem Same.trans{H H1 H2:Hp}(a:Same H H1)(b:Same H1 H2):Same H H2:=λc o h=>b c o (a c o h)
theorem Same.free{H H':Hp}(e:Same H H'){l:Addr}(h:H' l=Option.none):H l=Option.none:=by
 cases q:H l with
 |none=>rfl
 |some o=>
  rw [e l o q]at h;cases h
theorem Same.seq{K:PySem.W.Frag}{H H':Hp}{a:Addr}{xs:List V}(e:Same H H')(h:SqL K H a xs):SqL K H' a xs:=by
 rcases h with(h|⟨o,h⟩)|h
 · exact .inl (.inl (e _ _ h))
 · exact .inl (.inr ⟨o,e _ _ h⟩)
 · exact .inr h
end L2
namespace L2
open PySem PySem.Spec PyProof.Rows
section
variable{prog:Program}{w:World}{A:Around}{R:Result->Shared->Prop}{s:Shared}
theorem ZbR {elt target iter:Expr} {ifs:List Expr} {scope:Scope} {pos:Pos} {it acc:Value} {env:Env} (I:Nat->Shared->Prop)
 (turn:∀n s,I n s->wpAny (model prog w) A (pyNext it) (λr s₁=>match r with
   |none=>R (.ok .next) s₁
   |some v=>wpAny (model prog w) A (letOwnedTupleGo target it v) (λ_ s₀=>wpAny (model prog w) A (assign target env v) (λ_ s₂=>
    wpAny (model prog w) A (forIn ifs true λc r=>if r=true then do let ok <-isTrue c env (eval c env);pure (ForInStep.yield ok)else pure (ForInStep.yield r)) (λok s₃=>
     if ok=true then wpAny (model prog w) A (eval elt env) (λx s₄=>
      wpAny (model prog w) A (call (.builtin "list.append") [acc,x]) (λ_ s₅=>∃m,m<n/\I m s₅) (notedBy (model prog w) A env λe s'=>R (.error e) s') s₄) (notedBy (model prog w) A env λe s'=>R (.error e) s') s₃
     else ∃m,m<n/\I m s₃) (notedBy (model prog w) A env λe s'=>R (.error e) s') s₂) (notedBy (model prog w) A env λe s'=>R (.error e) s') s₀) (notedBy (model prog w) A env λe s'=>R (.error e) s') s₁) (notedBy (model prog w) A env λe s'=>R (.error e) s') s)
 (n:Nat) (h:I n s) :
 codeAny (model prog w) A (.compLoop (.ListComp elt [⟨target,iter,ifs,0⟩] scope pos) 0 it acc env) R s:=by
 refine codeAny_loop rfl I (λn s hI => ?_) n h;show wpAny _ A ((compTurn (.ListComp elt [⟨target,iter,ifs,0⟩] scope pos) 0 it acc env).onRaise (λx=>do noteFrame x env;theTreesLotGoes x)) _ _ s;refine wpAny_noted ?_;rw [compTurn_list];refine wpAny_bind (wpAny_standAt (wpAny_bind (wpAny_mono (turn n s hI) (λr s₁ h₁ => ?_) λ_ _ h'=>h')));cases r with
 |none=>exact wpAny_pure h₁
 |some v=>
  refine wpAny_bind (wpAny_mono h₁ (λ_ s₀ h₀ => ?_) λ_ _ h'=>h');refine wpAny_bind (wpAny_mono h₀ (λ_ s₂ h₂=>wpAny_bind (wpAny_mono h₂ (λok s₃ h₃ => ?_) λ_ _ h'=>h')) λ_ _ h'=>h');cases ok with
  |false=>exact wpAny_pure ⟨rfl,h₃⟩
  |true=>
   exact wpAny_bind (wpAny_bind (wpAny_mono h₃ (λx s₄ h₄=>wpAny_bind (wpAny_mono h₄ (λ_ s₅ h₅=>wpAny_pure (wpAny_pure ⟨rfl,h₅⟩)) λ_ _ h'=>h')) λ_ _ h'=>h'))
end
def XE(cells:List (Str×Addr)):List (Str×NameKind)->List (Str×Addr)->List (Str×Addr)
 | [],acc=>acc
 |(n,k)::r,acc=>XE cells r (if(k == .free)=true then(n,(cells.lookup n).getD 0)::acc else acc)
theorem Zac{env:Env}:∀(names:List (Str×NameKind))(acc:List (Str×Addr)),(∀x∈names,x.2 = .free->∃c,env.cells.lookup x.1=some c) ->
 (forIn names acc λ(x:Str×NameKind) (r:List (Str×Addr))=>match x with
   |(name,kind)=>if(kind == .free)=true then(do let c <-cellOf env name;pure (ForInStep.yield ((name,c)::r)))else pure (ForInStep.yield r))=(pure (XE env.cells names acc):Sem _)
 | [],acc,_=>rfl
 |(n,k)::r,acc,h=>by
  rw [List.forIn_cons];show((if(k == .free)=true then(do let c <-cellOf env n;pure (ForInStep.yield ((n,c)::acc)))else pure (ForInStep.yield acc)) >>= _)=_
  by_cases hk:(k == .free)=true
  · obtain⟨c,hc⟩:=h (n,k) List.mem_cons_self (by simpa using hk)
    have e:cellOf env n=pure c:=by
     unfold cellOf;rw [hc]
    rw [if_pos hk,e];show(forIn r ((n,c)::acc) _:Sem _)=_;rw [Zac r _ λx hx=>h x (List.mem_cons_of_mem _ hx)]
    conv=>rhs;unfold XE
    rw [if_pos hk,hc];rfl
  · rw [if_neg hk]
    show(forIn r acc _:Sem _)=_;rw [Zac r _ λx hx=>h x (List.mem_cons_of_mem _ hx)]
    conv=>rhs;unfold XE
    rw [if_neg hk]
theorem Zar{scope:Scope}{env:Env}(h:∀x∈scope.names,x.2 = .free->∃c,env.cells.lookup x.1=some c):closureFor scope env=pure (XE env.cells scope.names []):=by
 have e:=Zac (env:=env) scope.names [] h;unfold closureFor;show((forIn scope.names ([]:List (Str×Addr)) _:Sem _) >>= λcs=>pure cs)=_
 have e2:(forIn scope.names ([]:List (Str×Addr)) λ(x:Str×NameKind) (r:List (Str×Addr))=>match x with
  |(name,kind)=>if(kind == .free)=true then(do let c <-cellOf env name;pure (ForInStep.yield ((name,c)::r)))else pure (ForInStep.yield r))=(pure (XE env.cells scope.names []):Sem _):=e
 rw [e2];rfl
theorem QP{cells:List (Str×Addr)}{x:Str}{c:Addr}:∀(names:List (Str×NameKind))(acc:List (Str×Addr)),(∀y∈names,y.2 = .free->∃c,cells.lookup y.1=some c) ->
 (∀c,acc.lookup x=some c->cells.lookup x=some c)->(XE cells names acc).lookup x=some c->cells.lookup x=some c
 | [],acc,_,ha,h=>ha c h
 |(n,k)::r,acc,hf,ha,h=>by
  unfold XE at h;refine QP r _ (λy hy=>hf y (List.mem_cons_of_mem _ hy)) (λc' h' => ?_) h
  by_cases hk:(k == .free)=true
  · rw [if_pos hk]at h'
    obtain⟨c0,hc0⟩:=hf (n,k) List.mem_cons_self (by simpa using hk);rw [List.lookup_cons]at h';cases hx:x == n with
    |true=>
     rw [hx]at h';have e:x=n:=eq_of_beq hx;subst e;have h'':(cells.lookup x).getD 0=c':=Option.some.inj h';have hc0':cells.lookup x=some c0:=hc0;rw [hc0']at h'' ⊢;exact congrArg some h''
    |false=>
     rw [hx]at h';exact ha c' h'
  · rw [if_neg hk]at h'
    exact ha c' h'
theorem ZaG{cells:List (Str×Addr)}{x:Str}:∀(names:List (Str×NameKind))(acc:List (Str×Addr)),((x,NameKind.free)∈names\/∃c,acc.lookup x=some c)->∃c,(XE cells names acc).lookup x=some c
 | [],acc,h=>by
  rcases h with h|h
  · cases h
  · exact h
 |(n,k)::r,acc,h=>by
  unfold XE;refine ZaG r _ ?_;rcases h with h|⟨c,h⟩
  · rcases List.mem_cons.mp h with e|e
    · cases e
      refine .inr ⟨(cells.lookup x).getD 0,?_⟩;rw [if_pos (by rfl),List.lookup_cons];simp
    · exact .inl e
  · refine .inr ?_
    by_cases hk:(k == .free)=true
    · rw [if_pos hk,List.lookup_cons]
      cases hx:x == n with
      |true=>exact⟨_,rfl⟩
      |false=>exact⟨c,h⟩
    · rw [if_neg hk]
      exact⟨c,h⟩
structure CompSc(X:Cx)(scope:Scope)(tn cn:List Str)(js:List Nat):Prop where
 kind:scope.kind = .function
 nocell:∀y∈scope.names,y.2 ≠ .cell
 names:∀y∈scope.names,y.2 = .local->scope.names.lookup y.1=some .local
 free:∀y∈scope.names,y.2 = .free->X.env.kindOf y.1=some .cell\/X.env.kindOf y.1=some .free
 cap:∀(k:Nat)(x:Str),cn[k]? = some x->∃j,js[k]? = some j/\X.N[j]? = some x/\(X.env.kindOf x=some .cell\/X.env.kindOf x=some .free)/\scope.names.lookup x=some .free
 len:cn.length=js.length
def QQ(σ:St)(js:List Nat):St:=js.map λj=>(σ[j]?).getD none
def blk(n:Nat)(σ:St)(js:List Nat):St:=List.replicate n none++QQ σ js
section
variable{X:Cx}{pins:List (Addr×Obj)}{σ:St}{H₂:Hp}{s₂:Shared}{scope:Scope}{tn cn:List Str}{js:List Nat}
theorem Zaw{env:Env}:∀{names:List (Str×NameKind)}{x:Str},names.lookup x=some .free ->
 (names.map λ(n,k)=>if(k == NameKind.free&&env.scope.kind == .function&&env.kindOf n == some .cell)then(n,NameKind.cell)else(n,k)).lookup x=some .cell \/
 (names.map λ(n,k)=>if(k == NameKind.free&&env.scope.kind == .function&&env.kindOf n == some .cell)then(n,NameKind.cell)else(n,k)).lookup x=some .free
 | [],_,h=>by simp at h
 |(n,k0)::r,x,h=>by
  have ih := @Zaw env r x
  show List.lookup x ((if(k0 == NameKind.free&&env.scope.kind == .function&&env.kindOf n == some .cell)=true then(n,NameKind.cell)else(n,k0))::_)=_ \/
   List.lookup x ((if(k0 == NameKind.free&&env.scope.kind == .function&&env.kindOf n == some .cell)=true then(n,NameKind.cell)else(n,k0))::_)=_
  cases hx:x == n with
  |true=>
   simp only [List.lookup_cons,hx]at h;cases h
   by_cases hb:(NameKind.free == NameKind.free&&env.scope.kind == .function&&env.kindOf n == some .cell)=true
   · rw [if_pos hb];simp [List.lookup_cons,hx]
   · rw [if_neg hb];simp [List.lookup_cons,hx]
  |false=>
   simp only [List.lookup_cons,hx]at h
   by_cases hb:(k0 == NameKind.free&&env.scope.kind == .function&&env.kindOf n == some .cell)=true
   · rw [if_pos hb];simp only [List.lookup_cons,hx];exact ih h
   · rw [if_neg hb];simp only [List.lookup_cons,hx];exact ih h
end
def PTs(X:Cx)(ifs:List Expr)(t:TT):Prop:=
 ∀(pins:List (Addr×Obj))(s:Shared)(σ:St)(H:Hp)(Q:Bool->Hp->Prop),Inv X pins σ H s->t σ H Q ->
  wpAny (model X.prog X.w) X.A (forIn ifs true λc r=>if r=true then do let ok <-isTrue c X.env (eval c X.env);pure (ForInStep.yield ok)else pure (ForInStep.yield r)) (TP X pins σ Q) X.xe s
def tYes:TT:=λ_ H Q=>Q true H
theorem X6{X:Cx}:PTs X [] tYes:=λ_ _ _ H _ I h=>wpAny_tests_nil ⟨H,I,h⟩
theorem Zgr{X:Cx}{c:Expr}{t:TT}(h:PT X c t):PTs X [c] t:=λpins s σ H Q I q=>wpAny_tests_one (h pins s σ H Q I q)
def Zf3(wi:TI)(g:TG)(tt:TT)(te:TE)(n:Nat)(js:List Nat):TE:=λσ H Q=>wi σ H λJ H1=>
 ∃W:Nat->Nat->List V->Hp->Prop,(∃m,W 0 m [] H1)/\∀i m ys H,W i m ys H ->
  (J.stop i H/\∀p,H p=none->Q (.ref p) (upd H p (.lst ys))) \/
  (J.go i H/\∀x H',J.yld i H x H'->g x (blk n σ js) H' λσ2 H2=>tt σ2 H2 λb H3=>
    if b=true then te σ2 H3 λy H4=>ys.length<sizeLine/\∃m',m'<m/\W (i+1) m' (ys++[y]) H4 else ∃m',m'<m/\W (i+1) m' ys H3)
section
variable{X:Cx}{tg iter elt:Expr}{ifs:List Expr}{scope:Scope}{pos:Pos}{wi:TI}{g:TG}{tt:TT}{te:TE}{tn cn:List Str}{js:List Nat}
theorem Qb{α:Type}{M:Model}{A:Around}{m:Sem α}{Q:α->Shared->Prop}{E:Value->Shared->Prop}{s:Shared}(h:wpAny M A m Q (λ_ _=>False) s):wpAny M A m Q E s:=wpAny_mono h (λ_ _ q=>q) λ_ _ z=>z.elim
end
end L2
namespace L2
open PySem Builtin Builtin.Str
abbrev tx(cs:List Nat):Str:=⟨cs.toArray⟩
theorem tx_inj{a b:List Nat}:tx a=tx b ↔ a=b:=by
 constructor
 · intro h
   have h2:a.toArray=b.toArray:=congrArg Str.cps h;simpa using h2
 · rintro rfl;rfl
theorem ZeO(x:Str):tx x.cps.toList=x:=by
 obtain⟨a⟩:=x;show Str.mk a.toList.toArray=Str.mk a;simp
theorem Uz(cs:List Nat):(tx cs).cps.toList=cs:=by simp [tx]
theorem XN(cs:List Nat):(tx cs).length=cs.length:=by simp [tx,Str.length]
theorem Zc9(a b:List Nat):tx a++tx b=tx (a++b):=by
 show Str.mk (a.toArray++b.toArray)=Str.mk (a++b).toArray;simp
def YR(n d:Nat):Option Int->Nat
 |none=>d
 |some v=>if v<0 then(v+(n:Int)).toNat else min v.toNat n
def cutL{α:Type}(xs:List α)(lo hi:Option Int):List α:=(xs.drop (YR xs.length 0 lo)).take (YR xs.length xs.length hi-YR xs.length 0 lo)
theorem ZfJ(lo hi:Option Int)(n:Nat):strSliceIndices lo hi 1 n=(List.range (YR n n hi-YR n 0 lo)).map λk=>YR n 0 lo+k:=by
 have clip:∀v:Int,max 0 (min (if v<0 then v+(n:Int)else v) (n:Int))=(((if v<0 then(v+(n:Int)).toNat else min v.toNat n):Nat):Int):=by
  intro v
  by_cases h:v<0
  · rw [if_pos h,if_pos h];omega
  · rw [if_neg h,if_neg h];omega
 have key:∀(a b:Nat),sliceRange (a:Int) (b:Int) 1=(List.range (b-a)).map λk=>a+k:=by
  intro a b;unfold sliceRange;simp only [show(1:Int)>0 by decide,if_true]
  have e:(if(a:Int)<(b:Int)then((b:Int)-(a:Int)+1-1) / 1 else 0).toNat=b-a:=by
   split
   · rw [Int.ediv_one];omega
   · omega
  rw [e];refine List.map_congr_left λk _ => ?_
  omega
 unfold strSliceIndices;simp only [show(1:Int)>0 by decide,if_true];cases lo with
 |none=>
  cases hi with
  |none=>exact key 0 n
  |some v=>
   have:=key 0 (YR n n (some v));refine Eq.trans ?_ this;show sliceRange 0 (max 0 (min (if v<0 then v+(n:Int)else v) (n:Int))) 1=_;rw [clip v];rfl
 |some u=>
  cases hi with
  |none=>
   have:=key (YR n 0 (some u)) n;refine Eq.trans ?_ this;show sliceRange (max 0 (min (if u<0 then u+(n:Int)else u) (n:Int))) n 1=_;rw [clip u];rfl
  |some v=>
   have:=key (YR n 0 (some u)) (YR n n (some v));refine Eq.trans ?_ this;show sliceRange (max 0 (min (if u<0 then u+(n:Int)else u) (n:Int))) (max 0 (min (if v<0 then v+(n:Int)else v) (n:Int))) 1=_;rw [clip u,clip v];rfl
theorem Zcl{α:Type}(xs:List α)(l:Nat):∀k,l+k<=xs.length->((List.range k).map λj=>l+j).filterMap (λj=>xs[j]?)=(xs.drop l).take k
 |0,_=>by simp
 |k+1,h=>by
  rw [List.range_succ,List.map_append,List.filterMap_append,Zcl xs l k (by omega)];have hx:xs[l+k]? = some (xs[l+k]'(by omega)):=List.getElem?_eq_getElem (by omega);rw [List.take_add_one,List.getElem?_drop,hx];simp [hx]
theorem Zd8(n:Nat)(o:Option Int):YR n n o<=n:=by
 cases o with
 |none=>exact Nat.le_refl _
 |some v=>
  show(if v<0 then(v+(n:Int)).toNat else min v.toNat n)<=n
  split<;>omega
theorem ZeP(cs:List Nat)(lo hi:Option Int):Txt.slice (tx cs) lo hi=tx (cutL cs lo hi):=by
 have hn:(tx cs).length=cs.length:=XN cs;have hb:=Zd8 cs.length hi
 have hp:((strSliceIndices lo hi 1 cs.length).filterMap λj=>cs[j]?)=cutL cs lo hi:=by
  rw [ZfJ];unfold cutL
  by_cases h:YR cs.length 0 lo<=YR cs.length cs.length hi
  · exact Zcl cs _ _ (by omega)
  · have e:YR cs.length cs.length hi-YR cs.length 0 lo=0:=by omega
    rw [e];simp
 unfold Txt.slice;rw [hn]
 by_cases hc:((1:Int) == 1&&(strSliceIndices lo hi 1 cs.length).length == cs.length)=true
 · rw [if_pos hc]
   have hl:(strSliceIndices lo hi 1 cs.length).length=cs.length:=by simpa using hc
   rw [ZfJ,List.length_map,List.length_range]at hl;have e0:YR cs.length 0 lo=0\/cs.length=0:=by omega
   rw [tx_inj];unfold cutL;rw [hl];rcases e0 with e0|e0
   · rw [e0];simp
   · have:cs=[]:=List.eq_nil_of_length_eq_zero e0
     subst this;simp
 · rw [if_neg hc]
   have:((strSliceIndices lo hi 1 cs.length).filterMap λj=>(tx cs).cps[j]?)=cutL cs lo hi:=by
    rw [<-hp];simp [tx]
   rw [this]
end L2
namespace L2
open PySem Builtin Builtin.Str
def Qc(n:Nat):List Nat:=(Nat.toDigits 10 n).map Char.toNat
def JF(c:Nat):Bool:=decide (48<=c)&&decide (c<=57)
def Zi7(cs:List Nat):Nat:=cs.foldl (λacc c=>acc*10+(c-48)) 0
theorem ZeQ(cs:List Nat)(c:Nat):Txt.count (tx cs) (tx [c])=(cs.count c:Nat):=by
 have h:=PyProof.Rows.count_is (tx cs) c
 have e:∀l:List Nat,PyProof.Rows.cnt c l=(l.count c:Nat):=λl=>by
  induction l with
  |nil=>rfl
  |cons x xs ih=>
   rw [PyProof.Rows.cnt_cons,ih,List.count_cons]
   by_cases hx:x=c<;>simp [hx]<;>omega
 have h2:Txt.count (tx cs) (tx [c])=PyProof.Rows.cnt c (tx cs).cps.toList:=h;rw [h2,e,Uz]
def VM(sep:List Nat):List (List Nat)->List Nat
 | []=>[]
 | [x]=>x
 |x::y::r=>x++sep++VM sep (y::r)
theorem ZbU(sep:List Nat):∀l:List (List Nat),Str.join (tx sep) (l.map tx)=tx (VM sep l)
 | []=>rfl
 | [x]=>rfl
 |x::y::r=>by
  show tx x++tx sep++Str.join (tx sep) ((y::r).map tx)=_;rw [ZbU sep (y::r),Zc9,Zc9];rfl
theorem Zbx:∀l:List (List Nat),VM [] l=l.flatten
 | []=>rfl
 | [x]=>by simp [VM]
 |x::y::r=>by
  show x++[]++VM [] (y::r)=_;rw [Zbx (y::r)];simp
end L2
namespace L2
open PySem PySem.Spec PyProof.Rows
abbrev S(cs:List Nat):V := .str (tx cs)
theorem ZjJ{a b:List Nat}:S a=S b ↔ a=b:=by
 constructor
 · intro h
   exact tx_inj.mp (V.str.inj h)
 · rintro rfl;rfl
section
variable{X:Cx}{pos:Pos}
theorem ZB{x:Str}{j:Nat}(cs:List Nat)(h:x=tx cs):PE X (.Constant (.str x) j pos) (tC (S cs)):=by
 subst h;exact ZhJ
def Its(cs:List Nat):It:=⟨λi _=>i<cs.length,λi H v H'=>H'=H/\∃c,cs[i]? = some c/\v=S [c],λi _=>cs.length<=i⟩
theorem Qd(x:Str):strIterType x = "str_ascii_iterator" \/ strIterType x = "str_iterator" := by
 unfold strIterType
 split
 · exact .inl rfl
 · exact .inr rfl
theorem ZeR{P:Program}{w:World}{K:PySem.W.Frag}{tg:Expr}(it:Addr)(cs:List Nat)(t:Tok):Turn P w K tg (Its cs) [it] it (λi h=>h.IsStrIter it (strIterType (tx cs)) (tx cs) t i) where
 mem:=by simp
 obj:=λi h st b hb=>by
  have e:b=it:=by simpa using hb
  subst e;obtain⟨o,e,c,d⟩:=st;exact⟨o,e,λv z=>by rw [d]at z;cases z⟩
 keep:=λi h h' st k=>by
  obtain⟨o,e,r⟩:=st;exact⟨o,k it (by simp) o e,r⟩
 item:=by
  intro X hP hw hK hc i pins s σ H E I hf st hg;subst hP hw hK;obtain⟨f0,f1,f2,f3,f4,f5⟩:=hf it (by simp);have hg:i<cs.length:=hg;have hx:(tx cs).cps[i]? = some cs[i]:=by simp [tx,hg]
  have fin:∀(h':Heap),h'.IsStrIter it (strIterType (tx cs)) (tx cs) t (i+1)->Heap.SameBut it s.heap h' ->
   ∃u,some (Value.str ⟨#[cs[i]]⟩ s.toks)=some u/\wpAny (model X.prog X.w) X.A (letOwnedTupleGo tg (.ref it) u) (λ_ s2=>∃x H',Inv X pins σ H' s2/\RelV x u/\(Its cs).yld i H x H'/\s2.heap.IsStrIter it (strIterType (tx cs)) (tx cs) t (i+1)/\∀b∈[it],H' b=none) E { s with heap:=h',toks:=s.toks+1 }:=λh' st' sb=>by
   have I1:Inv X pins σ H { s with heap:=h',toks:=s.toks+1 }:=I.turned (λb o hb e=>(sb.2 b hb).trans e) f0 f1 f3 f4 f5;obtain⟨o,e,hc',d⟩:=id st';refine⟨_,rfl,QK (s:={ s with heap:=h',toks:=s.toks+1 }) e hc' d ?_ ⟨S [cs[i]],H,I1,⟨s.toks,rfl⟩,⟨rfl,cs[i],by simp [hg],rfl⟩,st',λb hb=>(hf b hb).1⟩⟩;rcases Qd (tx cs)with z|z<;>rw [z]<;>decide
  rcases Qd (tx cs)with z|z
  · rw [z]at st
    refine wpAny_pyNext_ascii_item st hx λh' st' sb=>fin h' (by rw [z];exact st') sb
  · rw [z]at st
    refine wpAny_pyNext_wide_item st hx λh' st' sb=>fin h' (by rw [z];exact st') sb
 done:=by
  intro X hP hw hK hc i pins s σ H E I hf st hg;subst hP hw hK;obtain⟨f0,f1,f2,f3,f4,f5⟩:=hf it (by simp);have hg:cs.length<=i:=hg;have hx:(tx cs).cps[i]? = none:=by simp [tx];omega
  rcases Qd (tx cs)with z|z
  · rw [z]at st
    exact wpAny_pyNext_ascii_end (I.ok.hd hc) st hx λh' eb=>⟨rfl,I.turned (t':=s.toks) (λb o hb e=>eb b o hb e) f0 f1 f3 f4 f5⟩
  · rw [z]at st
    exact wpAny_pyNext_wide_end (I.ok.hd hc) st hx λh' eb=>⟨rfl,I.turned (t':=s.toks) (λb o hb e=>eb b o hb e) f0 f1 f3 f4 f5⟩
 self:=λ_ i _ _ _ st h=>by
  rcases Qd (tx cs)with z|z
  · rw [z]at st
    exact wpAny_pyIter_striter_ascii st h
  · rw [z]at st
    exact wpAny_pyIter_striter_wide st h
variable{tg:Expr}
def Zi8(K:PySem.W.Frag)(tl:TE):TI:=λσ H R=>tl σ H λx H1=>(∃a xs,x = .ref a/\SqL K H1 a xs/\R (Itl K a) H1)\/(∃a xs,x = .ref a/\SqT K H1 a xs/\R (Itt K a) H1)\/∃cs,x=S cs/\R (Its cs) H1
theorem ZhW{l:Expr}{tl:TE}(hl:PE X l tl):PI X tg l (Zi8 X.K tl):=by
 intro pins s σ H R I h;refine thn (hl pins s σ H _ I h) λv s1 ⟨x,H1,I1,r1,q1⟩ => ?_
 rcases q1 with⟨a,xs,e,hq,q⟩|⟨a,xs,e,hq,q⟩|⟨cs,e,q⟩
 · subst e
   cases r1;obtain⟨its,rv,p,hz⟩:=I1.list hq;refine wpAny_pyIter_list p.isList ?_;refine⟨s1.heap.objs.size,[s1.heap.objs.size],_,_,H1,rfl,I1.kept (t':=s1.toks) λb o e=>Heap.get?_push_of_some _ e,Zd0 a _,⟨_,Heap.get?_push_size _ rfl,rfl,rfl⟩,λb hb => ?_,q⟩;have e:b=s1.heap.objs.size:=by simpa using hb
   subst e;exact I1.fpOk (Nat.le_refl _) (I1.hok.fresh (Nat.le_refl _))
 · have hpi:=ZhP (X:=X) (tg:=tg) (l:=l) (tl:=λ_ H Q=>Q (.ref a) H)
   subst e;cases r1;obtain⟨its,rv,p,hz⟩:=I1.tuple hq;refine wpAny_pyIter_tuple (show s1.heap.IsTuple a its.toArray from p) ?_;refine⟨s1.heap.objs.size,[s1.heap.objs.size],_,_,H1,rfl,I1.kept (t':=s1.toks) λb o e=>Heap.get?_push_of_some _ e,ZaU a _,⟨_,Heap.get?_push_size _ rfl,rfl,rfl⟩,λb hb => ?_,q⟩;have e:b=s1.heap.objs.size:=by simpa using hb
   subst e;exact I1.fpOk (Nat.le_refl _) (I1.hok.fresh (Nat.le_refl _))
 · subst e
   obtain⟨t,rfl⟩:=r1;refine wpAny_pyIter_strU ?_;refine⟨s1.heap.objs.size,[s1.heap.objs.size],_,_,H1,rfl,I1.kept (t':=s1.toks) λb o e=>Heap.get?_push_of_some _ e,ZeR _ cs t,⟨_,Heap.get?_push_size _ rfl,rfl,rfl⟩,λb hb => ?_,q⟩;have e:b=s1.heap.objs.size:=by simpa using hb
   subst e;exact I1.fpOk (Nat.le_refl _) (I1.hok.fresh (Nat.le_refl _))
def rAddS:R2:=λx y H Q=>∃a b,x=S a/\y=S b/\a.length+b.length<=sizeLine/\Q (S (a++b)) H
theorem op_addS:OpR X (binaryOp .Add) rAddS:=by
 intro pins s σ H x y v u Q I rx ry h;obtain⟨a,b,rfl,rfl,hz,q⟩:=h;refine ZcO pins s σ H _ _ v u Q I rx ry ⟨tx a,tx b,rfl,rfl,by rw [XN,XN];exact hz,?_⟩;rw [Zc9];exact q
def rAddX:R2:=λx y H Q=>rI0 (λi j => .int (i+j)) x y H Q\/rAddS x y H Q\/rCat x y H Q
theorem Xd:OpR X (binaryOp .Add) rAddX:=op_add.or (op_addS.or ZhV)
def Zi9(neg:Bool):R2:=λx y H Q=>∃c b,x=S [c]/\y=S b/\Q (.bl (neg != decide (c∈b))) H
theorem op_inS:OpR X (compareOp .In) (Zi9 false):=by
 intro pins s σ H x y v u Q I rx ry h;obtain⟨c,b,rfl,rfl,q⟩:=h;refine Zd1 pins s σ H _ _ v u Q I rx ry ⟨tx [c],tx b,rfl,rfl,?_⟩;have e:=StrLaws.found_one (tx b) c;rw [Uz]at e;rw [show tx [c]=(⟨#[c]⟩:Str)from rfl,e];simpa using q
theorem op_notInS:OpR X (compareOp .NotIn) (Zi9 true):=by
 intro pins s σ H x y v u Q I rx ry h;obtain⟨c,b,rfl,rfl,q⟩:=h;refine ZbM pins s σ H _ _ v u Q I rx ry ⟨tx [c],tx b,rfl,rfl,?_⟩;have e:=StrLaws.found_one (tx b) c;rw [Uz]at e;rw [show tx [c]=(⟨#[c]⟩:Str)from rfl,e];simpa using q
def Qe(K:PySem.W.Frag)(neg:Bool):R2:=λx y H Q=>Zi9 neg x y H Q\/rIn K neg x y H Q
theorem ZhX:OpR X (compareOp .In) (Qe X.K false):=op_inS.or Zd5
theorem Zd9:OpR X (compareOp .NotIn) (Qe X.K true):=op_notInS.or ZbO
def rIxSt:R2:=λx y H Q=>∃a i c,x=S a/\y = .int i/\a.length<=sizeLine/\atI a i=some c/\Q (S [c]) H
theorem Zlm:IxR X rIxSt:=by
 intro value slice pins s σ H x y v u Q I rx ry h hs;obtain⟨a,i,c,rfl,rfl,hz,he,q⟩:=h;exact ix_str value slice pins s σ H _ _ v u Q I rx ry ⟨tx a,i,c,rfl,rfl,by rw [XN];exact hz,by rw [Uz];exact he,q⟩ hs
def Zja(K:PySem.W.Frag):R2:=λx y H Q=>Zk6 K x y H Q\/Zk7 K x y H Q\/rIxSt x y H Q
theorem Zln:IxR X (Zja X.K):=ix_list.or (ix_tup.or Zlm)
def rSlS:V->Option Int->Option Int->Hp->VK->Prop:=λx lo hi H Q=>∃a,x=S a/\a.length<=sizeLine/\Q (S (cutL a lo hi)) H
theorem sl_S:SlR X rSlS:=by
 intro pins s σ H x v vl vu lo hi sl Q I rx hs pl pu h;obtain⟨a,rfl,hz,q⟩:=h;obtain⟨t,rfl⟩:=rx;refine⟨"str",_,F.slot_str_getitem.lookup,typeIs_str _ _ _,?_⟩;have fin:∀t' k,EP X pins σ Q (.str (Txt.slice (tx a) lo hi) t') { s with toks:=k }:=λt' k=>⟨S (cutL a lo hi),H,I.tok _,⟨t',by rw [ZeP]⟩,q⟩
 have hle:(Txt.slice (tx a) lo hi).length<=sizeLine:=Nat.le_trans (Txt.slice_le _ _ _) (by rw [XN];exact hz);cases pl with
 |none=>
  cases pu with
  |none=>exact wpAny_getItem_str_slice (l:=none) (u:=none) (st:=none) hs rfl (post_val_or_str ⟨hle,fin⟩)
  |int j uj=>exact wpAny_getItem_str_slice (l:=none) (u:=some (j,uj)) (st:=none) hs rfl (post_val_or_str ⟨hle,fin⟩)
 |int i ui=>
  cases pu with
  |none=>exact wpAny_getItem_str_slice (l:=some (i,ui)) (u:=none) (st:=none) hs rfl (post_val_or_str ⟨hle,fin⟩)
  |int j uj=>exact wpAny_getItem_str_slice (l:=some (i,ui)) (u:=some (j,uj)) (st:=none) hs rfl (post_val_or_str ⟨hle,fin⟩)
def JG(K:PySem.W.Frag):V->Option Int->Option Int->Hp->VK->Prop:=λx lo hi H Q=>rSlS x lo hi H Q\/Zk8 K x lo hi H Q\/Zk5 K x lo hi H Q
theorem Zlo:SlR X (JG X.K):=sl_S.or (sl_list.or ZhS)
def Zf4(K:PySem.W.Frag):List V->Hp->VK->Prop:=λxs H Q=>(∃a,xs=[S a]/\a.length<=sizeLine/\Q (.int a.length) H)\/∃p ys,xs=[.ref p]/\(SqL K H p ys\/SqT K H p ys)/\Q (.int ys.length) H
theorem Zea:Xh X (.builtin "len") (Zf4 X.K):=by
 intro pins s σ H xs us Q I rs q;rcases q with⟨a,rfl,hz,q⟩|q
 · exact ZbQ pins s σ H _ us Q I rs ⟨tx a,rfl,by rw [XN];exact hz,by rw [XN];exact q⟩
 · exact ZbP pins s σ H xs us Q I rs q
theorem ZhY(n:Nat):(toString (n:Int):Str)=tx (Qc n):=by
 rw [<-ZeO (toString (n:Int):Str)]
 congr 1
 exact PySem.W.KIN.signs_num n
def rIntX:List V->Hp->VK->Prop:=λxs H Q=>(∃a,xs=[S a]/\a.length<=640/\a≠[]/\a.all JF=true/\Q (.int (Zi7 a:Nat)) H)\/(∃k,xs=[.bl k]/\Q (.int (if k then 1 else 0)) H)
theorem JH:Xh X (.type "int") rIntX:=by
 intro pins s σ H xs us Q I rs h;rcases h with⟨a,rfl,hl,hne,hd,q⟩|h
 · obtain⟨u,rfl,t,rfl⟩:=X4 rs
   have hd':PySem.NumText.AllDigits (tx a).cps.toList:=by
    rw [Uz];intro c hc;have:=List.all_eq_true.mp hd c hc;unfold JF at this;rw [Bool.and_eq_true,decide_eq_true_eq,decide_eq_true_eq]at this;exact this
   have e:=PySem.intText_digits hd' (by rw [Uz];exact hne) (by rw [XN];omega);rw [Uz]at e;exact PySem.W.KIN.call_text e (by rw [XN];exact hl) ⟨.int (Zi7 a:Nat),H,I.tok _,⟨_,rfl⟩,q⟩
 · exact Zd2 pins s σ H xs us Q I rs (.inr h)
theorem Zgs(bs:List Bool):∀(its:List Value),Vals (bs.map V.bl) its->its=bs.map Value.bool:=by
 induction bs with
 |nil=>intro its r;cases r;rfl
 |cons b bs ih=>
  intro its r;cases r with
  |cons r1 r2=>
   rw [ih _ r2];cases r1;rfl
theorem Zeb(bs:List Bool):((List.range bs.length).all λi=>bs.getD i false)=bs.all id:=by
 rw [Bool.eq_iff_iff,List.all_eq_true,List.all_eq_true];constructor
 · intro h b hb
   obtain⟨i,hi⟩:=List.getElem?_of_mem hb;have hl:i<bs.length:=(List.getElem?_eq_some_iff.mp hi).1;have:=h i (List.mem_range.mpr hl);rw [List.getD_eq_getElem?_getD,hi]at this;exact this
 · intro h i hi
   have hl:=List.mem_range.mp hi;have:=h bs[i] (List.getElem_mem hl);rw [List.getD_eq_getElem?_getD,List.getElem?_eq_getElem hl];exact this
theorem Zec(bs:List Bool):((List.range bs.length).any λi=>bs.getD i false)=bs.any id:=by
 rw [Bool.eq_iff_iff,List.any_eq_true,List.any_eq_true];constructor
 · rintro⟨i,hi,h⟩
   have hl:=List.mem_range.mp hi;rw [List.getD_eq_getElem?_getD,List.getElem?_eq_getElem hl]at h;exact⟨bs[i],List.getElem_mem hl,h⟩
 · rintro⟨b,hb,h⟩
   obtain⟨i,hi⟩:=List.getElem?_of_mem hb;have hl:i<bs.length:=(List.getElem?_eq_some_iff.mp hi).1;refine⟨i,List.mem_range.mpr hl,?_⟩;rw [List.getD_eq_getElem?_getD,hi];exact h
def QR(K:PySem.W.Frag)(f:List Bool->Bool):List V->Hp->VK->Prop:=λxs H Q=>∃p bs,xs=[.ref p]/\SqL K H p (bs.map V.bl)/\Q (.bl (f bs)) H
theorem ZaX {pins:List (Addr×Obj)} {σ:St} {H:Hp} {s:Shared} {p:Addr} {bs:List Bool} {Q:Value->Shared->Prop} {E:Value->Shared->Prop} {f:(Nat->Bool)->Bool} (hc:X.calm=true) (I:Inv X pins σ H s) (hq:SqL X.K H p (bs.map V.bl))
 (q:∀h' tk,(∀b o,s.heap.get? b=some o->h'.get? b=some o)->Q (.bool (f λi=>bs.getD i false)) { s with heap:=h',toks:=tk }) :
 wpAny (model X.prog X.w) X.A.in1 (pyIter (.ref p)) (λit s₂=>∃I fp wr n P St tr,it = .ref I/\Walks X.prog X.w X.A.in1 I fp wr n P St/\St 0 s₂.heap/\TruthOf X.prog X.w X.A.in1 P tr /\
  n=bs.length/\tr=(λi=>bs.getD i false)/\∀h' tk,(∀b o,b∉wr->s₂.heap.get? b=some o->h'.get? b=some o)->Q (.bool (f tr)) { s₂ with heap:=h',toks:=tk }) E s:=by
 obtain⟨its,rv,pl,hz⟩:=I.list hq;have e:=Zgs bs its rv;subst e;refine wpAny_pyIter_list pl.isList ?_;have hlt:p<s.heap.objs.size:=pl.lt;have hh:X.A.in1.handled=none:=I.ok.hd hc;refine⟨s.heap.objs.size,_,_,_,_,_,λi=>bs.getD i false,rfl,Walks.list hh _ p (Nat.ne_of_lt hlt) (bs.map Value.bool).toArray,⟨⟨_,Heap.get?_push_size _ rfl,rfl,rfl⟩,(pl.keeps λb o e=>Heap.get?_push_of_some _ e).isList⟩,?_,by simp,rfl,λh' tk k => ?_⟩
 · intro i v s' Q' E' hv hq'
   have:v=Value.bool (bs.getD i false):=by
    have hv':(bs.map Value.bool)[i]? = some v:=by simpa using hv
    rw [List.getElem?_map]at hv';rw [List.getD_eq_getElem?_getD];cases e:bs[i]? with
    |none=>rw [e]at hv';cases hv'
    |some b=>rw [e]at hv';exact(Option.some.inj hv').symm
   subst this;exact wpAny_truthy_bool hq'
 · refine q h' tk λb o e=>k b o (λz => ?_) (Heap.get?_push_of_some _ e)
   have h1:=Heap.lt_size e;have h2:b=s.heap.objs.size:=by simpa using z
   rw [h2]at h1;exact Nat.lt_irrefl _ h1
theorem Zed(hc:X.calm=true):Xh X (.builtin "all") (QR X.K λbs=>bs.all id):=by
 intro pins s σ H xs us Q I rs h;obtain⟨p,bs,rfl,hq,q⟩:=h;obtain⟨u,rfl,rx⟩:=X4 rs;cases rx;have z:=ZaX (f:=λtr=>(List.range bs.length).all tr) (Q:=EP X pins σ Q) (E:=X.xe) hc I hq λh' tk k=>⟨.bl _,H,I.kept k,rfl,by rw [Zeb];exact q⟩
 refine call_all_walk (wpAny_mono z (λit s₂ z2 => ?_) λ_ _ z=>z);obtain⟨I',fp,wr,n,P,St,tr,e1,W,st,ht,en,et,hq'⟩:=z2;exact⟨I',fp,wr,n,P,St,tr,e1,W,st,ht,λh' tk k=>by rw [en];exact hq' h' tk k⟩
theorem Zee(hc:X.calm=true):Xh X (.builtin "any") (QR X.K λbs=>bs.any id):=by
 intro pins s σ H xs us Q I rs h;obtain⟨p,bs,rfl,hq,q⟩:=h;obtain⟨u,rfl,rx⟩:=X4 rs;cases rx;have z:=ZaX (f:=λtr=>(List.range bs.length).any tr) (Q:=EP X pins σ Q) (E:=X.xe) hc I hq λh' tk k=>⟨.bl _,H,I.kept k,rfl,by rw [Zec];exact q⟩
 refine call_any_walk (wpAny_mono z (λit s₂ z2 => ?_) λ_ _ z=>z);obtain⟨I',fp,wr,n,P,St,tr,e1,W,st,ht,en,et,hq'⟩:=z2;exact⟨I',fp,wr,n,P,St,tr,e1,W,st,ht,λh' tk k=>by rw [en];exact hq' h' tk k⟩
theorem ZeS:Xh X (.builtin "isinstance") (λxs H Q=>∃x c cv t b,xs=[x,c]/\(∀v,RelV c v->v=cv)/\TyOf X.K H x t/\PySem.W.kitOne X.K t cv=some b/\Q (.bl b) H):=by
 intro pins s σ H xs us Q I rs h;obtain⟨x,c,cv,t,b,rfl,hc,ty,e,q⟩:=h;obtain⟨u,w',rfl,rx,rc⟩:=QM rs;have ec:=hc _ rc;subst ec;exact Zd3 I rx ty e λtk=>⟨.bl b,H,I.tok tk,rfl,q⟩
end
section
variable{X:Cx}{K:PySem.W.Frag}{pos:Pos}{tg:Expr}
theorem JI(hK:X.K=K:=by rfl):OpR X (compareOp .In) (Qe K false):=hK▸ZhX
theorem ZeT(hK:X.K=K:=by rfl):OpR X (compareOp .NotIn) (Qe K true):=hK▸Zd9
theorem Zu(hK:X.K=K:=by rfl):IxR X (Zja K):=hK▸Zln
theorem VN(hK:X.K=K:=by rfl):SlR X (JG K):=hK▸Zlo
theorem Xe(hK:X.K=K:=by rfl):Xh X (.builtin "len") (Zf4 K):=hK▸Zea
theorem JJ(hc:X.calm=true:=by rfl)(hK:X.K=K:=by rfl):Xh X (.builtin "all") (QR K λbs=>bs.all id):=hK▸Zed hc
theorem ZjK(hc:X.calm=true:=by rfl)(hK:X.K=K:=by rfl):Xh X (.builtin "any") (QR K λbs=>bs.any id):=hK▸Zee hc
def Zlp(K:PySem.W.Frag):List V->Hp->VK->Prop:=λxs H Q=>∃x c cv t b,xs=[x,c]/\(∀v,RelV c v->v=cv)/\TyOf K H x t/\PySem.W.kitOne K t cv=some b/\Q (.bl b) H
theorem UA{l:Expr}{tl:TE}(hl:PE X l tl)(hK:X.K=K:=by rfl):PI X tg l (Zi8 K tl):=hK▸ZhW hl
theorem JK{e:Expr}{ta:TE}{f:Str}(he:PE X e ta)(hb:attributeBase e f X.env (eval e X.env)=eval e X.env:=by rfl)(hK:X.K=K:=by rfl):PE X (.Attribute e f pos) (Zi4 K ta f):=hK▸ZhQ he hb
def ZfK(K:PySem.W.Frag):List V->Hp->VK->Prop:=λxs H Q=>∃p ys,xs=[.ref p]/\((SqL K H p ys/\∀l,H l=none->Q (.ref l) (upd H l (.tup ys)))\/(SqT K H p ys/\Q (.ref p) H))
theorem JL(hK:X.K=K:=by rfl):Xh X (.type "tuple") (ZfK K):=hK▸Zbj
theorem Qf {o e:Expr} {es:List Expr} {to:TE} {t:TA} {name:Str} {apos cpos:Pos} {T id:String} {r:V->List V->Hp->VK->Prop} (pa:PlainAttrs T) (slot:Slot T name id) (hty:typeOf (.builtin id)=pure (.type "method_descriptor")) (hm:MtR X id r) (ho:PE X o to) (ha:PA X (e::es) t)
 (hbase:attributeBase o name X.env (eval o X.env)=eval o X.env:=by rfl)
 (hfew:((backTo cpos (starEach (e::es) X.env)).all (λx => !x.1)&&(backToKw cpos (keywordEach [] X.env)).all (λx=>x.1.isSome)
   && decide ((e::es).length+([]:List Keyword).length+(if([]:List Keyword).isEmpty then 0 else 1)<30))=true:=by rfl)
 (hline:(apos.endLine == cpos.line)=true:=by rfl) (hs:starEach (e::es) X.env=(false,eval e X.env)::starEach es X.env:=by rfl) (hplain:(backTo cpos (starEach es X.env)).any (·.1)=false:=by rfl) (hK:X.K=K:=by rfl) :
 PE X (.Call (.Attribute o name apos) (e::es) [] cpos) (tBM K T r to t):=hK▸ZjI pa slot hty hm ho ha hbase hfew hline hs hplain
theorem ZjL {es:List Expr} {k:Nat} {t:TGs} {n:Nat} (h:PGs X es t) (hc:X.calm=true:=by rfl)
 (hn:(assignEach es X.env).length=n:=by rfl) (hst:(assignEach es X.env).findIdx? (·.1)=none:=by rfl) (hK:X.K=K:=by rfl):PG X (.Tuple es k pos) (Zi1 K n t):=hK▸ZhM hc h hn hst
end
end L2
namespace L2
open PySem PySem.Spec PyProof.Rows
theorem ZeU{H:Hp}{q:Addr}{o:HO}(h:H q=none):Same H (upd H q o):=λb u e=>by
 rw [ZJ (Xs e h)];exact e
structure Walk(J:It)(xs:List V)(H:Hp):Prop where
 go:∀i,i<xs.length->J.go i H
 yld:∀(i:Nat)v H',i<xs.length->J.yld i H v H'->H'=H/\xs[i]? = some v
 stop:∀i,xs.length<=i->J.stop i H
end L2
namespace L2
open PySem PySem.Spec PyProof.Rows
def Zjb(lo c:Int)(n:Nat):It:=⟨λi _=>i<n,λi H x H'=>H'=H/\x = .int (lo+i*c),λi _=>n<=i⟩
theorem Zb7{P:Program}{w:World}{K:PySem.W.Frag}{tg:Expr}(it:Addr)(lo c:Int)(n:Nat):Turn P w K tg (Zjb lo c n) [it] it (λi h=>IsRangeIter h it (lo+(i:Nat)*c) ((n:Int)-(i:Nat)) c) where
 mem:=by simp
 obj:=λi h st b hb=>by
  have e:b=it:=by simpa using hb
  subst e
  exact⟨_,st,λv z=>by
   have z':Data.fields _=Data.cell v:=z;cases z'⟩
 keep:=λi h h' st k=>k it (by simp) _ st
 item:=by
  intro X hP hw hK hc i pins s σ H E I hf st hg;subst hP hw hK;obtain⟨f0,f1,f2,f3,f4,f5⟩:=hf it (by simp);have W:=Walks.range (prog:=X.prog) (w:=X.w) (I.ok.hd hc) it lo c n;refine W.item i s _ _ hg st λv h' tk hv st' kk => ?_
  obtain⟨t,rfl⟩:=hv;have I1:Inv X pins σ H { s with heap:=h',toks:=tk }:=I.turned (λb o hb e=>kk b o (by simpa using hb) e) f0 f1 f3 f4 f5;exact⟨_,rfl,QK (s:={ s with heap:=h',toks:=tk }) (n:="range_iterator") st' rfl rfl (by decide) ⟨.int (lo+i*c),H,I1,⟨t,rfl⟩,⟨rfl,rfl⟩,st',λb hb=>(hf b hb).1⟩⟩
 done:=by
  intro X hP hw hK hc i pins s σ H E I hf st hg;subst hP hw hK;obtain⟨f0,f1,f2,f3,f4,f5⟩:=hf it (by simp);exact wpAny_pyNext_range_end (I.ok.hd hc) st (by have:n<=i:=hg;omega) λh' eb=>⟨rfl,I.turned (t':=s.toks) (λb o hb e=>eb b o hb e) f0 f1 f3 f4 f5⟩
 self:=λ_ _ _ _ _ st h=>wpAny_pyIter_rangeiter st h
section
variable{X:Cx}{tg:Expr}
def Zhh(ta:TA):TI:=λσ H R=>ta σ H λvs H1=>∃i j c:Int,vs=[.int i,.int j,.int c]/\(c≠0/\c.natAbs<1073741824/\Builtin.Range.small i j c=true)/\R (Zjb i c (Builtin.Range.rangeSize i j c).toNat) H1
theorem Zb8(i j c:Int)(hc:c≠0):0<=Builtin.Range.rangeSize i j c:=by
 unfold Builtin.Range.rangeSize
 split
 · split
   · have:=Int.ediv_nonneg (a:=j-i-1) (b:=c) (by omega) (by omega)
     omega
   · omega
 · split
   · have:=Int.ediv_nonneg (a:=i-j-1) (b:=-c) (by omega) (by omega)
     omega
   · omega
theorem Zef {a b c:Expr} {ta:TA} {p pos:Pos} (hg:Gl X "range") (hm:X.mg "range" = none) (ha:PA X [a,b,c] ta) (hs:starEach [a,b,c] X.env=[(false,eval a X.env),(false,eval b X.env),(false,eval c X.env)]:=by rfl) (hs2:starEach [b,c] X.env=[(false,eval b X.env),(false,eval c X.env)]:=by rfl) :
 PI X tg (.Call (.Name "range" p) [a,b,c] [] pos) (Zhh ta):=by
 intro pins s σ H R I h;refine Call_ (V3 I hg hm boot_range (PyProof.Rows.callWith_type1 (thn (ha pos pins s σ H _ I h) λus s1 ⟨vs,H1,I1,r1,q1⟩ => ?_) (by rw [hs,hs2]) (by rw [hs2];rfl)));obtain⟨i,j,c,e,⟨q1,q2,q3⟩,q⟩:=q1;subst e;cases r1 with
 |cons r rr=>
  cases rr with
  |cons r' rr=>
   cases rr with
   |cons r'' rr=>
    cases rr;obtain⟨t,rfl⟩:=r;obtain⟨t',rfl⟩:=r';obtain⟨t'',rfl⟩:=r'';refine call_range_3 q1 ?_ (.inl (PyProof.noPylong_small q2));refine wpAny_pyIter_range (IsRange.new ..) q3 ?_;have I2:Inv X pins σ H1 { s1 with heap:=s1.heap.push { cls := .type "range",data := .fields #[.int i t,.int j t',.int c t''] },toks:=s1.toks }:=I1.kept λb o e=>Heap.get?_push_of_some _ e
    refine⟨(s1.heap.push { cls := .type "range",data := .fields #[.int i t,.int j t',.int c t''] }).objs.size,[(s1.heap.push { cls := .type "range",data := .fields #[.int i t,.int j t',.int c t''] }).objs.size],_,_,H1,rfl,
     I2.kept (t':=s1.toks) λb o e=>Heap.get?_push_of_some _ e,Zb7 _ i c (Builtin.Range.rangeSize i j c).toNat,?_,λb hb => ?_,q⟩
    · have e1:i+((0:Nat):Int)*c=i:=by simp
      have e2:(((Builtin.Range.rangeSize i j c).toNat:Nat):Int)-((0:Nat):Int)=Builtin.Range.rangeSize i j c:=by
       have:=Zb8 i j c q1;omega
      show IsRangeIter _ _ (i+((0:Nat):Int)*c) ((((Builtin.Range.rangeSize i j c).toNat:Nat):Int)-((0:Nat):Int)) c;rw [e1,e2];exact Heap.get?_push_size _ rfl
    · have e:b=(s1.heap.push { cls := .type "range",data := .fields #[.int i t,.int j t',.int c t''] }).objs.size:=by simpa using hb
      subst e;exact I2.fpOk (Nat.le_refl _) (I2.hok.fresh (Nat.le_refl _))
end
end L2
namespace L2
open PySem PySem.Spec PyProof.Rows
def Zjc(n0:Nat)(cs:List Nat):It:=⟨λi _=>i<cs.length,λi H v H'=>∃c p,cs[i]? = some c/\H p=none/\v = .ref p/\H'=upd H p (.tup [.int ((n0+i:Nat):Int),S [c]]),λi _=>cs.length<=i⟩
theorem Zby{prog:Program}{w:World}{A:Around}(hh:A.handled=none)(it:Addr)(cs:List Nat)(t:Tok)(n0:Nat) :
 Draws prog w A it [it] (n0+cs.length) (λi v=>∃j c u,i=n0+j/\cs[j]? = some c/\v = .str ⟨#[c]⟩ u) (λi h=>∃j,i=n0+j/\h.IsStrIter it (strIterType (tx cs)) (tx cs) t j) where
 live:=λi h ⟨j,_,o,ho,_⟩=>⟨o,ho⟩
 frame:=λi h h' ⟨j,e,o,ho,r⟩ hk=>⟨j,e,o,hk it (by simp) o ho,r⟩
 item:=λi s Q E hi st hQ=>by
  obtain⟨j,rfl,st⟩:=st;have hj:j<cs.length:=by omega
  have hx:(tx cs).cps[j]? = some cs[j]:=by simp [tx,hj]
  rcases Qd (tx cs)with z|z
  · rw [z]at st
    refine wpAny_nextOf_ascii_item st hx λh' st' sb => ?_
    exact hQ _ h' (s.toks+1) ⟨j,_,_,rfl,by simp [hj],rfl⟩ ⟨j+1,by omega,by rw [z];exact st'⟩ sb
  · rw [z]at st
    refine wpAny_nextOf_wide_item st hx λh' st' sb => ?_
    exact hQ _ h' (s.toks+1) ⟨j,_,_,rfl,by simp [hj],rfl⟩ ⟨j+1,by omega,by rw [z];exact st'⟩ sb
 done:=λs Q E st hE=>by
  obtain⟨j,e,st⟩:=st;have hj:j=cs.length:=by omega
  subst hj;have hx:(tx cs).cps[cs.length]? = none:=by simp [tx]
  rcases Qd (tx cs)with z|z
  · rw [z]at st
    exact wpAny_nextOf_ascii_end hh st hx hE
  · rw [z]at st
    exact wpAny_nextOf_wide_end hh st hx hE
theorem ZcW{P:Program}{w:World}{K:PySem.W.Frag}{elts:List Expr}{x1:Nat}{tpos:Pos}(e it:Addr)(hne:e≠it)(n0:Nat)(cs:List Nat)(t:Tok) :
 Turn P w K (.Tuple elts x1 tpos) (Zjc n0 cs) [e,it] e (λi h=>(i<=cs.length/\∃old,IsEnum h e it ((n0+i:Nat):Int) old)/\h.IsStrIter it (strIterType (tx cs)) (tx cs) t i) where
 mem:=by simp
 obj:=λi h st b hb=>by
  obtain⟨⟨_,old,he⟩,o,ho,hc,hd⟩:=st;simp at hb;rcases hb with rfl|rfl
  · exact ⟨_, he, fun v z => by
     have z':Data.fields _=Data.cell v:=z;cases z'⟩
  · exact⟨o,ho,λv z=>by rw [hd]at z;cases z⟩
 keep:=λi h h' st k=>by
  obtain⟨⟨hi,old,he⟩,o,ho,r⟩:=st;exact⟨⟨hi,old,k e (by simp) _ he⟩,o,k it (by simp) o ho,r⟩
 item:=by
  intro X hP hw hK hc i pins s σ H E I hf st hg;subst hP hw hK;obtain⟨⟨_,old,he⟩,st⟩:=st;have hg:i<cs.length:=hg;have f:=hf e (by simp);have g:=hf it (by simp);obtain⟨e0,e1,e2,e3,e4,e5⟩:=f;obtain⟨f0,f1,f2,f3,f4,f5⟩:=g;have D:=Zby (prog:=X.prog) (w:=X.w) (A:=X.A.in1) (I.ok.hd hc) it cs t n0;refine wpAny_pyNext_enum_itemD D he ⟨i,rfl,st⟩ (by omega) hne (by simp [hne]) λx h' tk hP ho st' hT hsz hk => ?_
  obtain⟨j,c,u,ej,hcx,rfl⟩:=hP;have ej':j=i:=by omega
  subst ej';refine⟨_,rfl,wpAny_letOwnedTupleGo_enum ho λh2 he2 hs2 => ?_⟩;have hs2:Heap.SameBut e h' h2:=hs2;have hTl:e<s.heap.objs.size:=Heap.lt_size he;obtain⟨j',ej2,st''⟩:=st';have ej3:j'=j+1:=by omega
  subst ej3;have hT2:h2.get? s.heap.objs.size=some { cls := .type "tuple",data := .seq #[.int ((n0+j:Nat):Int) tk,.str ⟨#[c]⟩ u] }:=(hs2.2 _ (Nat.ne_of_gt hTl)).trans hT;have k2:∀b o,b≠e->b≠it->s.heap.get? b=some o->h2.get? b=some o:=λb o hb hb' q=>(hs2.2 b hb).trans (hk b o hb hb' q)
  have hTn:H s.heap.objs.size=none:=I.hok.fresh (Nat.le_refl _);have neT:∀b o,s.heap.get? b=some o->b≠s.heap.objs.size:=λb o q=>Nat.ne_of_lt (Heap.lt_size q)
  have I2:Inv X pins σ (upd H s.heap.objs.size (.tup [.int ((n0+j:Nat):Int),S [c]])) { s with heap:=h2,toks:=tk+1 }:=by
   refine I.step (g':=s.gens) (d':=s.drawn) (ch:=[e,it]) (λb hb => ?_) (λb o _ _ hcb q _ => ?_) (λb o _ _ hcb q _ => ?_) (λb o hcb q n => ?_) (λb o hcb q => ?_) (λb xs q => ?_) (λb o v q => ?_) (λb ps q => ?_) (λm hm => ?_) (λb o q => ?_) I.bare
   · simp at hb
     rcases hb with rfl|rfl
     · exact⟨e3,e1,e4,e5⟩
     · exact⟨f3,f1,f4,f5⟩
   · simp at hcb
     exact k2 b o hcb.1 hcb.2 q
   · simp at hcb
     exact⟨o.slots,k2 b o hcb.1 hcb.2 q⟩
   · rw [ZJ (neT b o q)]
     exact n
   · simp at hcb
     exact⟨o,k2 b o hcb.1 hcb.2 q⟩
   · rw [ZJ (Xs q hTn)]
     exact q
   · rw [ZJ (Xs q hTn)]
     exact q
   · exact⟨#[],by rw [ZJ (Xs q hTn),q];simp⟩
   · obtain⟨o,es,ep,q,r⟩:=hm
     exact⟨o,es,ep,k2 _ o (Ne.symm e1) (Ne.symm f1) q,r⟩
   · by_cases hb:b=s.heap.objs.size
     · subst hb
       rw [YH]at q;cases q;refine⟨by show 2<=sizeLine;decide,[.int ((n0+j:Nat):Int) tk,.str ⟨#[c]⟩ u],.cons ⟨_,rfl⟩ (.cons ⟨_,rfl⟩ .nil),?_⟩;exact⟨_,hT2,rfl,⟨_,rfl⟩,rfl⟩
     · rw [ZJ hb]at q
       have nn:∀(b:Addr)(o:HO),H b=some o->b≠e/\b≠it:=λb o q=>⟨λz=>(by rw [z,e0]at q;cases q),λz=>(by rw [z,f0]at q;cases q)⟩
       refine(I.hok b o q).stay (λd v hd q' => ?_) (λd q'=>by rw [ZJ (Xs q' hTn)];exact q') λd xs q'=>by rw [ZJ (Xs q' hTn)];exact q'
       rcases hd with rfl|hd
       · exact k2 d v (nn d o q).1 (nn d o q).2 q'
       · exact k2 d v (nn d _ hd).1 (nn d _ hd).2 q'
  have he3:IsEnum h2 e it ((n0+(j+1):Nat):Int) (.str ⟨#[c]⟩ u):=by
   have:((n0+(j+1):Nat):Int)=((n0+j:Nat):Int)+1:=by push_cast;omega
   rw [this];exact he2
  refine⟨.ref s.heap.objs.size,_,I2,rfl,⟨c,s.heap.objs.size,hcx,hTn,rfl,rfl⟩,⟨⟨hg,_,he3⟩,?_⟩,λb hb => ?_⟩
  · obtain⟨o,ho',r⟩:=st''
    exact⟨o,(hs2.2 it (Ne.symm hne)).trans ho',r⟩
  · simp at hb
    rcases hb with rfl|rfl
    · rw [ZJ (Nat.ne_of_lt hTl)];exact e0
    · obtain⟨o,ho',_⟩:=st
      rw [ZJ (neT _ o ho')];exact f0
 done:=by
  intro X hP hw hK hc i pins s σ H E I hf st hg;subst hP hw hK;obtain⟨⟨hi,old,he⟩,st⟩:=st;have hg:cs.length<=i:=hg;have ei:i=cs.length:=by omega
  subst ei;obtain⟨f0,f1,f2,f3,f4,f5⟩:=hf it (by simp);have D:=Zby (prog:=X.prog) (w:=X.w) (A:=X.A.in1) (I.ok.hd hc) it cs t n0;exact wpAny_pyNext_enum_endD D he ⟨cs.length,rfl,st⟩ λh' eb=>⟨rfl,I.turned (t':=s.toks) (λb o hb q=>eb b o hb q) f0 f1 f3 f4 f5⟩
 self:=λ_ _ _ _ _ st h=>by
  obtain⟨⟨_,old,he⟩,_⟩:=st;exact wpAny_pyIter_enum he h
section
variable{X:Cx}{elts:List Expr}{x1:Nat}{tpos:Pos}
def Zf5(ta:TA):TI:=λσ H R=>ta σ H λvs H1=>∃cs,vs=[S cs]/\R (Zjc 0 cs) H1
theorem Zgt {a:Expr} {ta:TA} {p pos:Pos} (hg:Gl X "enumerate") (hm:X.mg "enumerate" = none) (ha:PA X [a] ta) (hs:starEach [a] X.env=[(false,eval a X.env)]:=by rfl):PI X (.Tuple elts x1 tpos) (.Call (.Name "enumerate" p) [a] [] pos) (Zf5 ta):=by
 intro pins s σ H R I h;refine Call_ (V3 I hg hm boot_enumerate (PyProof.Rows.callWith_type1 (thn (ha pos pins s σ H _ I h) λus s1 ⟨vs,H1,I1,r1,q1⟩ => ?_) hs rfl));obtain⟨cs,e,q⟩:=q1;subst e;cases r1 with
 |cons r rr=>
  cases rr;obtain⟨t,rfl⟩:=r;refine call_enumerate_str λh' he st hsz k => ?_
  refine wpAny_pyIter_enum he ?_;have I2:Inv X pins σ H1 { s1 with heap:=h' }:=I1.kept (t':=s1.toks) k;refine⟨s1.heap.objs.size+1,[s1.heap.objs.size+1,s1.heap.objs.size],_,_,H1,rfl,I2,ZcW (s1.heap.objs.size+1) s1.heap.objs.size (Nat.succ_ne_self _) 0 cs t,⟨⟨Nat.zero_le _,_,he⟩,st⟩,λb hb => ?_,q⟩
  have hb':s1.heap.objs.size<=b:=by
   simp at hb;rcases hb with rfl|rfl
   · exact Nat.le_succ _
   · exact Nat.le_refl _
  exact I1.fpOk hb' (I1.hok.fresh hb')
end
end L2
namespace L2
open PySem PySem.Spec PySem.W
def Y6(e:Addr)(C:Value)(hp:Heap):Prop:=∃o:Obj,hp.get? e=some o/\o.cls=C
def Zk9(e C:Addr)(dO:Option Addr)(h:Heap):Prop:=∃o:Obj,h.get? e=some o/\o.cls = .ref C/\o.dict=dO/\notCls o=true
end L2
namespace DL
open PySem PySem.Spec L2
inductive D where
 |non
 |bl (b:Bool)
 |int (i:Int)
 |str (cs:List Nat)
 |lst (xs:List D)
 |tup (xs:List D)
 |obj (c:String) (ks:List String) (xs:List D)
 |dct (ks:List Key) (xs:List D)
 |dtt (ks:List (List Key)) (xs:List D)
 |exc (c:String) (r:Option Int)
def KL(K:PySem.W.Frag)(a:Addr)(vs:List V):Prop:=∃(o:Obj) (its:Array Value) (n:Nat),K.lookup a=some o/\o.cls = .type "list" /\ o.dict=none/\o.data = .seq its n/\its.size<=sizeLine/\Vals vs its.toList
structure Kn where
 c:String->Addr
 K:PySem.W.Frag
def ZC:D->Bool
 | .non=>true
 | .bl _=>true
 | .int _=>true
 | .str _=>true
 |_=>false
def ExcR(cA:Kn)(av:Addr->Prop)(H:Hp)(c:String):Option Int->Addr->Prop
 |none,a=>∃φ,H a=some (.ext φ)/\∀h,φ h->Y6 a (.ref (cA.c c)) h
 |some i,a=>∃d φ,¬av d/\H a=some (.ext φ)/\(∀h,φ h->Zk9 a (cA.c c) (some d) h)/\H d=some (.xd [(Str.ofString "row",.int i)])
mutual
def Rep(cA:Kn)(av:Addr->Prop)(H:Hp):D->V->Prop
 | .non,v=>v = .non
 | .bl b,v=>v = .bl b
 | .int i,v=>v = .int i
 | .str cs,v=>v=S cs
 | .lst xs,v=>∃a vs,v = .ref a/\(av a->KL cA.K a vs)/\SqL cA.K H a vs/\RepL cA av H xs vs
 | .tup xs,v=>∃a vs,v = .ref a/\¬av a/\H a=some (.tup vs)/\RepL cA av H xs vs
 | .obj c ks xs,v=>∃a dx vs,v = .ref a/\¬av a/\H a=some (.ins (cA.c c) dx ((ks.map Str.ofString).zip vs))/\ks.length=xs.length/\RepL cA av H xs vs
 | .dct ks xs,v=>∃a vs,v = .ref a/\¬av a/\H a=some (.dK (ks.zip vs))/\ks.length=xs.length/\RepL cA av H xs vs
 | .dtt ks xs,v=>∃a vs,v = .ref a/\¬av a/\H a=some (.dT (ks.zip vs))/\ks.length=xs.length/\RepL cA av H xs vs
 | .exc c r,v=>∃a,v = .ref a/\¬av a/\ExcR cA av H c r a
def RepL(cA:Kn)(av:Addr->Prop)(H:Hp):List D->List V->Prop
 | [],vs=>vs=[]
 |x::xs,vs=>∃v r,vs=v::r/\Rep cA av H x v/\RepL cA av H xs r
end
section
variable{cA:Kn}{G:Cn}{av av':Addr->Prop}{H H':Hp}
theorem Rd.ext{a:Addr}{u:HO}(h:Rd H a u)(k:∀o,H a=some o->H' a=some o):Rd H' a u:=by
 rcases h with h|⟨o,h⟩
 · exact .inl (k _ h)
 · exact .inr ⟨o,k _ h⟩
theorem Rd.there{a:Addr}{u:HO}(h:Rd H a u):H a≠none:=by
 rcases h with h|⟨o,h⟩<;>rw [h]<;>exact λz=>by cases z
theorem ZfL{K:PySem.W.Frag}{a:Addr}{vs:List V}(n:av a->KL K a vs)(r:SqL K H a vs)(k:∀b o,¬av b->H b=some o->H' b=some o):SqL K H' a vs:=by
 by_cases h:av a
 · exact .inr (n h)
 · rcases r with r|r
   · exact .inl (Rd.ext r λo=>k a o h)
   · exact .inr r
theorem ZjM{K:PySem.W.Frag}{a:Addr}{vs:List V}(n:av a->KL K a vs)(r:SqL K H a vs)(k:∀b,av' b->av b\/H b=none):av' a->KL K a vs:=λz=>by
 rcases k a z with z|z
 · exact n z
 · rcases r with r|r
   · exact absurd z (Rd.there r)
   · exact r
theorem ExcR.ext{c:String}{r:Option Int}{a:Addr}(k:∀b o,¬av b->H b=some o->H' b=some o)(n:¬av a)(h:ExcR cA av H c r a):ExcR cA av H' c r a:=by
 cases r with
 |none=>obtain⟨φ,h1,h2⟩:=h;exact⟨φ,k _ _ n h1,h2⟩
 |some i=>obtain⟨d,φ,h1,h2,h4,h3⟩:=h;exact⟨d,φ,h1,k _ _ n h2,h4,k _ _ h1 h3⟩
theorem ExcR.less{c:String}{r:Option Int}{a:Addr}(k:∀b,av' b->av b\/H b=none)(h:ExcR cA av H c r a):ExcR cA av' H c r a:=by
 cases r with
 |none=>exact h
 |some i=>obtain⟨d,φ,h1,h2,h4,h3⟩:=h;exact⟨d,φ,λy=>(k d y).elim h1 (by rw [h3];exact λz=>by cases z),h2,h4,h3⟩
theorem ExcR.there{c:String}{r:Option Int}{a:Addr}(h:ExcR cA av H c r a):H a≠none:=by
 cases r with
 |none=>obtain⟨φ,h1,h2⟩:=h;rw [h1];exact λz=>by cases z
 |some i=>obtain⟨d,φ,h1,h2,_⟩:=h;rw [h2];exact λz=>by cases z
mutual
theorem Rep.ext:∀{d:D}{v:V},(∀b o,¬av b->H b=some o->H' b=some o)->Rep cA av H d v->Rep cA av H' d v
 | .non,_,_,h=>h
 | .bl _,_,_,h=>h
 | .int _,_,_,h=>h
 | .str _,_,_,h=>h
 | .lst xs,v,k,h=>by
  unfold Rep at h ⊢;obtain⟨a,vs,e,n,r,l⟩:=h;exact⟨a,vs,e,n,ZfL n r k,RepL.ext k l⟩
 | .tup xs,v,k,h=>by
  unfold Rep at h ⊢;obtain⟨a,vs,e,n,r,l⟩:=h;exact⟨a,vs,e,n,k a _ n r,RepL.ext k l⟩
 | .obj c ks xs,v,k,h=>by
  unfold Rep at h ⊢;obtain⟨a,dx,vs,e,n,r,z,l⟩:=h;exact⟨a,dx,vs,e,n,k a _ n r,z,RepL.ext k l⟩
 | .dct ks xs,v,k,h=>by
  unfold Rep at h ⊢;obtain⟨a,vs,e,n,r,z,l⟩:=h;exact⟨a,vs,e,n,k a _ n r,z,RepL.ext k l⟩
 | .dtt ks xs,v,k,h=>by
  unfold Rep at h ⊢;obtain⟨a,vs,e,n,r,z,l⟩:=h;exact⟨a,vs,e,n,k a _ n r,z,RepL.ext k l⟩
 | .exc c r,v,k,h=>by
  unfold Rep at h ⊢;obtain⟨a,e,n,x⟩:=h;exact⟨a,e,n,x.ext k n⟩
theorem RepL.ext:∀{xs:List D}{vs:List V},(∀b o,¬av b->H b=some o->H' b=some o)->RepL cA av H xs vs->RepL cA av H' xs vs
 | [],_,_,h=>h
 |x::xs,vs,k,h=>by
  unfold RepL at h ⊢;obtain⟨v,r,e,h1,h2⟩:=h;exact⟨v,r,e,Rep.ext k h1,RepL.ext k h2⟩
end
mutual
theorem Rep.av:∀{d:D}{v:V},(∀b,av' b->av b\/H b=none)->Rep cA av H d v->Rep cA av' H d v
 | .non,_,_,h=>h
 | .bl _,_,_,h=>h
 | .int _,_,_,h=>h
 | .str _,_,_,h=>h
 | .lst xs,v,k,h=>by
  unfold Rep at h ⊢;obtain⟨a,vs,e,n,r,l⟩:=h;exact⟨a,vs,e,ZjM n r k,r,RepL.av k l⟩
 | .tup xs,v,k,h=>by
  unfold Rep at h ⊢;obtain⟨a,vs,e,n,r,l⟩:=h;exact⟨a,vs,e,λz=>(k a z).elim n (by rw [r];exact λz=>by cases z),r,RepL.av k l⟩
 | .obj c ks xs,v,k,h=>by
  unfold Rep at h ⊢;obtain⟨a,dx,vs,e,n,r,z,l⟩:=h;exact⟨a,dx,vs,e,λy=>(k a y).elim n (by rw [r];exact λz=>by cases z),r,z,RepL.av k l⟩
 | .dct ks xs,v,k,h=>by
  unfold Rep at h ⊢;obtain⟨a,vs,e,n,r,z,l⟩:=h;exact⟨a,vs,e,λy=>(k a y).elim n (by rw [r];exact λz=>by cases z),r,z,RepL.av k l⟩
 | .dtt ks xs,v,k,h=>by
  unfold Rep at h ⊢;obtain⟨a,vs,e,n,r,z,l⟩:=h;exact⟨a,vs,e,λy=>(k a y).elim n (by rw [r];exact λz=>by cases z),r,z,RepL.av k l⟩
 | .exc c r,v,k,h=>by
  unfold Rep at h ⊢;obtain⟨a,e,n,x⟩:=h;exact⟨a,e,λy=>(k a y).elim n x.there,x.less k⟩
theorem RepL.av:∀{xs:List D}{vs:List V},(∀b,av' b->av b\/H b=none)->RepL cA av H xs vs->RepL cA av' H xs vs
 | [],_,_,h=>h
 |x::xs,vs,k,h=>by
  unfold RepL at h ⊢;obtain⟨v,r,e,h1,h2⟩:=h;exact⟨v,r,e,Rep.av k h1,RepL.av k h2⟩
end
theorem Rep.same{d:D}{v:V}(k:Same H H')(h:Rep cA av H d v):Rep cA av H' d v:=h.ext λb o _=>k b o
theorem RepL.same{xs:List D}{vs:List V}(k:Same H H')(h:RepL cA av H xs vs):RepL cA av H' xs vs:=h.ext λb o _=>k b o
theorem RepL.nil:RepL cA av H [] []:=by unfold RepL;rfl
theorem RepL.cons{d:D}{v:V}{xs:List D}{vs:List V}(h:Rep cA av H d v)(t:RepL cA av H xs vs):RepL cA av H (d::xs) (v::vs):=by
 unfold RepL;exact⟨v,vs,rfl,h,t⟩
theorem RepL.uncons{d:D}{xs:List D}{vs:List V}(h:RepL cA av H (d::xs) vs):∃v r,vs=v::r/\Rep cA av H d v/\RepL cA av H xs r:=by
 unfold RepL at h;exact h
theorem RepL.nil_of{vs:List V}(h:RepL cA av H [] vs):vs=[]:=by
 unfold RepL at h;exact h
theorem RepL.length:∀{xs:List D}{vs:List V},RepL cA av H xs vs->xs.length=vs.length
 | [],vs,h=>by rw [h.nil_of];rfl
 |x::xs,vs,h=>by
  obtain⟨v,r,rfl,_,t⟩:=h.uncons;rw [List.length_cons,List.length_cons,RepL.length t]
theorem RepL.get:∀{xs:List D}{vs:List V}{i:Nat}{x:D},RepL cA av H xs vs->xs[i]? = some x->∃v,vs[i]? = some v/\Rep cA av H x v
 | [],_,_,_,_,e=>by simp at e
 |y::xs,vs,0,x,h,e=>by
  obtain⟨v,r,rfl,h1,_⟩:=h.uncons;simp at e;subst e;exact⟨v,rfl,h1⟩
 |y::xs,vs,i+1,x,h,e=>by
  obtain⟨v,r,rfl,_,t⟩:=h.uncons;obtain⟨u,h1,h2⟩:=RepL.get (i:=i) t (by simpa using e);exact⟨u,by simpa using h1,h2⟩
theorem RepL.append:∀{xs ys:List D}{vs ws:List V},RepL cA av H xs vs->RepL cA av H ys ws->RepL cA av H (xs++ys) (vs++ws)
 | [],_,vs,_,h,t=>by rw [h.nil_of];exact t
 |x::xs,ys,vs,ws,h,t=>by
  obtain⟨v,r,rfl,h1,h2⟩:=h.uncons;exact .cons h1 (RepL.append h2 t)
theorem RepL.drop:∀{xs:List D}{vs:List V}(n:Nat),RepL cA av H xs vs->RepL cA av H (xs.drop n) (vs.drop n)
 |_,_,0,h=>h
 | [],vs,n+1,h=>by rw [h.nil_of];exact .nil
 |x::xs,vs,n+1,h=>by
  obtain⟨v,r,rfl,_,h2⟩:=h.uncons;exact RepL.drop n h2
theorem RepL.take:∀{xs:List D}{vs:List V}(n:Nat),RepL cA av H xs vs->RepL cA av H (xs.take n) (vs.take n)
 |_,_,0,h=>by simp;exact .nil
 | [],vs,n+1,h=>by rw [h.nil_of];exact .nil
 |x::xs,vs,n+1,h=>by
  obtain⟨v,r,rfl,h1,h2⟩:=h.uncons;exact .cons h1 (RepL.take n h2)
theorem RepL.set{d:D}{v:V}(hd:Rep cA av H d v):∀{xs:List D}{vs:List V}(i:Nat),RepL cA av H xs vs->RepL cA av H (xs.set i d) (vs.set i v)
 | [],vs,_,h=>by rw [h.nil_of];exact .nil
 |x::xs,vs,0,h=>by
  obtain⟨v',r,rfl,h1,h2⟩:=h.uncons;exact .cons hd h2
 |x::xs,vs,i+1,h=>by
  obtain⟨v',r,rfl,h1,h2⟩:=h.uncons;exact .cons h1 (RepL.set hd i h2)
def val:D->V
 | .bl b => .bl b
 | .int i => .int i
 | .str cs=>S cs
 |_ => .non
theorem Rep.val{d:D}{v:V}(hs:ZC d=true)(h:Rep cA av H d v):v=DL.val d:=by
 cases d<;>first|exact h|cases hs
theorem Rep.of_val{d:D}(hs:ZC d=true):Rep cA av H d (DL.val d):=by
 cases d<;>first|rfl|cases hs
theorem RepL.vals:∀{xs:List D}{vs:List V},xs.all ZC=true->RepL cA av H xs vs->vs=xs.map DL.val
 | [],vs,_,h=>h.nil_of
 |x::xs,vs,hs,h=>by
  rw [List.all_cons,Bool.and_eq_true]at hs;obtain⟨v,r,rfl,h1,h2⟩:=h.uncons;rw [List.map_cons,h1.val hs.1,RepL.vals hs.2 h2]
theorem RepL.of_vals:∀{xs:List D},xs.all ZC=true->RepL cA av H xs (xs.map DL.val)
 | [],_ => .nil
 |x::xs,hs=>by
  rw [List.all_cons,Bool.and_eq_true]at hs;exact .cons (.of_val hs.1) (RepL.of_vals hs.2)
def RepT(cA:Kn)(t i:Addr->Prop)(H:Hp):D->V->Prop
 | .lst xs,v=>∃a vs,v = .ref a/\(t a->KL cA.K a vs)/\SqL cA.K H a vs/\RepL cA i H xs vs
 | .tup xs,v=>∃a vs,v = .ref a/\¬t a/\H a=some (.tup vs)/\RepL cA i H xs vs
 | .obj c ks xs,v=>∃a dx vs,v = .ref a/\¬t a/\H a=some (.ins (cA.c c) dx ((ks.map Str.ofString).zip vs))/\ks.length=xs.length/\RepL cA i H xs vs
 | .dct ks xs,v=>∃a vs,v = .ref a/\¬t a/\H a=some (.dK (ks.zip vs))/\ks.length=xs.length/\RepL cA i H xs vs
 | .dtt ks xs,v=>∃a vs,v = .ref a/\¬t a/\H a=some (.dT (ks.zip vs))/\ks.length=xs.length/\RepL cA i H xs vs
 | .exc c r,v=>∃a,v = .ref a/\¬t a/\ExcR cA t H c r a
 |d,v=>v=DL.val d
theorem Rep.t{d:D}{v:V}(h:Rep cA av H d v):RepT cA av av H d v:=by
 cases d<;>first|exact h|(unfold Rep at h;exact h)
theorem RepT.r{d:D}{v:V}(h:RepT cA av av H d v):Rep cA av H d v:=by
 cases d<;>first|exact h|(unfold Rep;exact h)
theorem RepT.weak{t t' i i':Addr->Prop}{d:D}{v:V}(ht:∀a,t' a->t a)(hi:∀a,i' a->i a)(h:RepT cA t i H d v):RepT cA t' i' H d v:=by
 cases d with
 |lst xs=>obtain⟨a,vs,e,n,r,l⟩:=h;exact⟨a,vs,e,λz=>n (ht a z),r,l.av λb z => .inl (hi b z)⟩
 |tup xs=>obtain⟨a,vs,e,n,r,l⟩:=h;exact⟨a,vs,e,λz=>n (ht a z),r,l.av λb z => .inl (hi b z)⟩
 |obj c ks xs=>obtain⟨a,dx,vs,e,n,r,z,l⟩:=h;exact⟨a,dx,vs,e,λz=>n (ht a z),r,z,l.av λb z => .inl (hi b z)⟩
 |dct ks xs=>obtain⟨a,vs,e,n,r,z,l⟩:=h;exact⟨a,vs,e,λz=>n (ht a z),r,z,l.av λb z => .inl (hi b z)⟩
 |dtt ks xs=>obtain⟨a,vs,e,n,r,z,l⟩:=h;exact⟨a,vs,e,λz=>n (ht a z),r,z,l.av λb z => .inl (hi b z)⟩
 |exc c r=>obtain⟨a,e,n,x⟩:=h;exact⟨a,e,λz=>n (ht a z),x.less λb z => .inl (ht b z)⟩
 |_=>exact h
theorem RepT.same{t i:Addr->Prop}{d:D}{v:V}(k:Same H H')(h:RepT cA t i H d v):RepT cA t i H' d v:=by
 cases d with
 |lst xs=>obtain⟨a,vs,e,n,r,l⟩:=h;exact⟨a,vs,e,n,k.seq r,l.same k⟩
 |tup xs=>obtain⟨a,vs,e,n,r,l⟩:=h;exact⟨a,vs,e,n,k a _ r,l.same k⟩
 |obj c ks xs=>obtain⟨a,dx,vs,e,n,r,z,l⟩:=h;exact⟨a,dx,vs,e,n,k a _ r,z,l.same k⟩
 |dct ks xs=>obtain⟨a,vs,e,n,r,z,l⟩:=h;exact⟨a,vs,e,n,k a _ r,z,l.same k⟩
 |dtt ks xs=>obtain⟨a,vs,e,n,r,z,l⟩:=h;exact⟨a,vs,e,n,k a _ r,z,l.same k⟩
 |exc c r=>obtain⟨a,e,n,x⟩:=h;exact⟨a,e,n,x.ext (λb o _=>k b o) n⟩
 |_=>exact h
end
abbrev Env:=List (Option D)
structure Cn where
 cA:Kn
 pin:Nat->Option (Addr ⊕ V)
def AV(av:Addr->Prop)(A:Nat->Option Addr)(a:Addr):Prop:=av a\/∃i,A i=some a
def Own(cA:Kn)(av:Addr->Prop)(H:Hp):D->Addr->Prop
 | .lst xs,a=>∃vs,H a=some (.lst vs)/\RepL cA av H xs vs
 | .obj c ks xs,a=>∃dx vs,H a=some (.ins (cA.c c) dx ((ks.map Str.ofString).zip vs))/\ks.length=xs.length/\RepL cA av H xs vs
 | .dct ks xs,a=>∃vs,H a=some (.dK (ks.zip vs))/\ks.length=xs.length/\RepL cA av H xs vs
 | .dtt ks xs,a=>∃vs,H a=some (.dT (ks.zip vs))/\ks.length=xs.length/\RepL cA av H xs vs
 |_,_=>False
structure ER(G:Cn)(ow:List Nat)(H0:Hp)(av:Addr->Prop)(A:Nat->Option Addr)(σ:St)(H:Hp)(δ:Env):Prop where
 same:Same H0 H
 avd:∀a,av a->H0 a≠none
 fr:∀i a,A i=some a->H0 a=none
 inj:∀i j a,A i=some a->A j=some a->i=j
 live:∀i a,A i=some a->H a≠none
 dom:∀i,A i≠none->i∈ow
 dom':∀i∈ow,A i≠none
 len:σ.length=δ.length
 pin:∀i a,G.2 i=some (.inl a)->A i=some a
 kept:∀i v,G.2 i=some (.inr v)->σ[i]? = some (some v)
 var:∀(i:Nat)(d:D),δ[i]? = some (some d)->∃v,σ[i]? = some (some v)/\(A i=none->Rep G.1 (AV av A) H d v)/\(∀a,A i=some a->v = .ref a/\Own G.1 (AV av A) H d a)
inductive Ql where
 |cl|tp|dt
def RepQ(cA:Kn)(av:Addr->Prop)(A:Nat->Option Addr)(H:Hp):Ql->D->V->Prop
 | .cl,d,v=>RepT cA (AV av A) (AV av A) H d v
 | .tp,d,v=>RepT cA av (AV av A) H d v
 | .dt,d,v=>RepT cA av av H d v
def Ql.it:Ql->Ql
 | .dt => .dt
 |_ => .cl
section
variable{cA:Kn}{G:Cn}{ow:List Nat}{H0 H H':Hp}{av:Addr->Prop}{A:Nat->Option Addr}{σ:St}{δ:Env}
theorem AV.l{a:Addr}(h:av a):AV av A a := .inl h
def Ql.iv(q:Ql)(av:Addr->Prop)(A:Nat->Option Addr):Addr->Prop:=match q with
 | .dt=>av
 |_=>AV av A
theorem RepQ.tp{q:Ql}{d:D}{v:V}(h:RepQ cA av A H q d v):RepT cA av (q.iv av A) H d v:=by
 cases q with
 |cl=>exact h.weak (λa => .inl) λa z=>z
 |tp=>exact h
 |dt=>exact h
theorem RepQ.any{q:Ql}{d:D}{v:V}(h:RepQ cA av A H q d v):Rep cA av H d v:=by
 cases q with
 |cl=>exact(h.weak (λa => .inl) λa => .inl).r
 |tp=>exact(h.weak (λa z=>z) λa => .inl).r
 |dt=>exact h.r
theorem RepQ.same{q:Ql}{d:D}{v:V}(k:Same H H')(h:RepQ cA av A H q d v):RepQ cA av A H' q d v:=by
 cases q<;>exact RepT.same k h
theorem ER.mono(E:ER G ow H0 av A σ H δ)(k:Same H H'):ER G ow H0 av A σ H' δ:=by
 refine⟨E.same.trans k,E.avd,E.fr,E.inj,λi a e => ?_,E.dom,E.dom',E.len,E.pin,E.kept,λi d e => ?_⟩
 · have:=E.live i a e
   cases q:H a with
   |none=>exact absurd q this
   |some o=>rw [k a o q];exact λz=>by cases z
 · obtain⟨v,h1,h2,h3⟩:=E.var i d e
   refine⟨v,h1,λz=>(h2 z).same k,λa z=>⟨(h3 a z).1,?_⟩⟩;have:=(h3 a z).2;cases d with
   |lst xs=>obtain⟨vs,q1,q2⟩:=this;exact⟨vs,k _ _ q1,q2.same k⟩
   |obj c ks xs=>obtain⟨dx,vs,q1,q0,q2⟩:=this;exact⟨dx,vs,k _ _ q1,q0,q2.same k⟩
   |dct ks xs=>obtain⟨vs,q1,q0,q2⟩:=this;exact⟨vs,k _ _ q1,q0,q2.same k⟩
   |dtt ks xs=>obtain⟨vs,q1,q0,q2⟩:=this;exact⟨vs,k _ _ q1,q0,q2.same k⟩
   |_=>exact this
theorem ER.avl(E:ER G ow H0 av A σ H δ):∀a,AV av A a->H a≠none:=λa h=>by
 rcases h with h|⟨i,h⟩
 · have:=E.avd a h
   cases q:H0 a with
   |none=>exact absurd q this
   |some o=>rw [E.same a o q];exact λz=>by cases z
 · exact E.live i a h
theorem ER.avH(E:ER G ow H0 av A σ H δ):∀a,av a->H a≠none:=λa h=>E.avl a (.inl h)
end
def VE(G:Cn)(ow:List Nat)(te:TE)(q:Ql)(ε:Env->Option D):Prop:=
 ∀H0 av A σ H δ,ER G ow H0 av A σ H δ->∀d,ε δ=some d->∀Q:VK,(∀v H',Same H H'->RepQ G.1 av A H' q d v->Q v H')->te σ H Q
def VF(G:Cn)(ow:List Nat)(te:TE)(ε:Env->Option D):Prop:=
 ∀H0 av A σ H δ,ER G ow H0 av A σ H δ->∀d,ε δ=some d->∀Q:VK,(∀p vs xs H1,Same H H1->H1 p=none->RepL G.1 (AV av A) H1 xs vs->d = .lst xs->Q (.ref p) (upd H1 p (.lst vs)))->te σ H Q
def VT(G:Cn)(ow:List Nat)(tt:TT)(τ:Env->Option Bool):Prop:=
 ∀H0 av A σ H δ,ER G ow H0 av A σ H δ->∀b,τ δ=some b->∀Q:Bool->Hp->Prop,(∀H',Same H H'->Q b H')->tt σ H Q
def RepQL(cA:Kn)(av:Addr->Prop)(A:Nat->Option Addr)(H:Hp)(q:Ql):List D->List V->Prop
 | [],vs=>vs=[]
 |x::xs,vs=>∃v r,vs=v::r/\RepQ cA av A H q x v/\RepQL cA av A H q xs r
def VA(G:Cn)(ow:List Nat)(ta:TA)(q:Ql)(α:Env->Option (List D)):Prop:=
 ∀H0 av A σ H δ,ER G ow H0 av A σ H δ->∀ds,α δ=some ds->∀Q:List V->Hp->Prop,(∀vs H',Same H H'->RepQL G.1 av A H' q ds vs->Q vs H')->ta σ H Q
section
variable{cA:Kn}{G:Cn}{ow:List Nat}
theorem RepQL.same{av:Addr->Prop}{A:Nat->Option Addr}{H H':Hp}{q:Ql}(k:Same H H'):∀{xs:List D}{vs:List V},RepQL cA av A H q xs vs->RepQL cA av A H' q xs vs
 | [],_,h=>h
 |x::xs,vs,h=>by
  obtain⟨v,r,e,h1,h2⟩:=h;exact⟨v,r,e,h1.same k,RepQL.same k h2⟩
theorem RepQL.cl{av:Addr->Prop}{A:Nat->Option Addr}{H:Hp}:∀{xs:List D}{vs:List V},RepQL cA av A H .cl xs vs->RepL cA (AV av A) H xs vs
 | [],_,h=>by unfold RepL;exact h
 |x::xs,vs,h=>by
  obtain⟨v,r,e,h1,h2⟩:=h;subst e;exact .cons (RepT.r h1) (RepQL.cl h2)
theorem RepQL.any{av:Addr->Prop}{A:Nat->Option Addr}{H:Hp}{q:Ql}:∀{xs:List D}{vs:List V},RepQL cA av A H q xs vs->RepL cA av H xs vs
 | [],_,h=>by unfold RepL;exact h
 |x::xs,vs,h=>by
  obtain⟨v,r,e,h1,h2⟩:=h;subst e;exact .cons h1.any (RepQL.any h2)
theorem VE.dt{te:TE}{q:Ql}{ε:Env->Option D}(h:VE G ow te q ε):VE G ow te .dt ε:=λH0 av A σ H δ E d e Q k=>
 h H0 av A σ H δ E d e Q λv H' s r=>k v H' s r.any.t
theorem Xi{H:Hp}{p:Addr}{o:HO}(h:H p=none):Same H (upd H p o):=ZeU h
theorem VF.cl{te:TE}{ε:Env->Option D}(h:VF G ow te ε):VE G ow te .cl ε:=λH0 av A σ H δ E d e Q k=>
 h H0 av A σ H δ E d e Q λp vs xs H1 s hp l hd=>by
  subst hd;refine k _ _ (s.trans (Xi hp)) ⟨p,vs,rfl,λz=>((E.mono s).avl p z hp).elim,SqL.of YH,l.same (Xi hp)⟩
def Za(i:Nat)(δ:Env):Option D:=match δ[i]? with
 |some (some d)=>some d
 |_=>none
theorem XO{i:Nat}{δ:Env}{d:D}(h:Za i δ=some d):δ[i]? = some (some d):=by
 unfold Za at h;cases e:δ[i]? with
 |none=>rw [e]at h;cases h
 |some o=>
  rw [e]at h;cases o with
  |none=>cases h
  |some x=>exact congrArg (some∘some) (Option.some.inj h)
theorem Zd(i:Nat)(hi:(ow.contains i)=false:=by rfl):VE G ow (XJ i) .cl (Za i):=λH0 av A σ H δ E d e Q k=>by
 obtain⟨v,h1,h2,_⟩:=E.var i d (XO e)
 have hn:A i=none:=by
  cases q:A i with
  |none=>rfl
  |some a=>
   have:=E.dom i (by rw [q];exact λz=>by cases z);simp at hi;exact absurd this hi
 exact⟨v,h1,k v H (Same.refl H) (h2 hn).t⟩
theorem ZfM(i:Nat)(hi:(ow.contains i)=true):VE G ow (XJ i) .tp (Za i):=λH0 av A σ H δ E d e Q k=>by
 obtain⟨v,h1,_,h3⟩:=E.var i d (XO e);have hi':i∈ow:=by simpa using hi
 cases q:A i with
 |none=>exact absurd q (E.dom' i hi')
 |some a=>
  obtain⟨rfl,o⟩:=h3 a q;have na:¬av a:=λz=>E.avd a z (E.fr i a q)
  refine⟨_,h1,k _ H (Same.refl H) ?_⟩;cases d with
  |lst xs=>obtain⟨vs,q1,q2⟩:=o;exact⟨a,vs,rfl,λz=>(na z).elim,SqL.of q1,q2⟩
  |obj c ks xs=>obtain⟨dx,vs,q1,q0,q2⟩:=o;exact⟨a,dx,vs,rfl,na,q1,q0,q2⟩
  |dct ks xs=>obtain⟨vs,q1,q0,q2⟩:=o;exact⟨a,vs,rfl,na,q1,q0,q2⟩
  |dtt ks xs=>obtain⟨vs,q1,q0,q2⟩:=o;exact⟨a,vs,rfl,na,q1,q0,q2⟩
  |_=>exact False.elim o
def eC(d:D)(_:Env):Option D:=some d
theorem Zf{v:V}{d:D}(hs:ZC d=true)(hv:v=val d):VE G ow (tC v) .cl (eC d):=λH0 av A σ H δ E d' e Q k=>by
 have e':d=d':=Option.some.inj e;subst e' hv;exact k _ H (Same.refl H) (Rep.of_val hs).t
def XQ(cA:Kn)(r:R2)(f:D->D->Option D):Prop:=
 ∀(t t' i:Addr->Prop)(H:Hp)(x y:D)(vx vy:V)(d:D),(∀a,i a->H a≠none)->RepT cA t i H x vx->RepT cA t' i H y vy->f x y=some d->∀Q:VK,(∀v H',Same H H'->Rep cA i H' d v->Q v H')->r vx vy H Q
def eOp(f:D->D->Option D)(a b:Env->Option D)(δ:Env):Option D:=match a δ with
 |some x=>match b δ with
  |some y=>f x y
  |none=>none
 |none=>none
theorem JM{f:D->D->Option D}{a b:Env->Option D}{δ:Env}{d:D}(h:eOp f a b δ=some d):∃x y,a δ=some x/\b δ=some y/\f x y=some d:=by
 unfold eOp at h;cases ea:a δ with
 |none=>rw [ea]at h;cases h
 |some x=>
  rw [ea]at h;cases eb:b δ with
  |none=>rw [eb]at h;cases h
  |some y=>rw [eb]at h;exact⟨x,y,rfl,rfl,h⟩
def Ql.jn:Ql->Ql->Ql
 | .dt,_ => .dt
 |_,.dt => .dt
 |_,_ => .cl
theorem Zi{r:R2}{f:D->D->Option D}{ta tb:TE}{qa qb:Ql}{a b:Env->Option D}(hr:XQ G.1 r f)(ha:VE G ow ta qa a)(hb:VE G ow tb qb b):VE G ow (tOp r ta tb) (qa.jn qb) (eOp f a b):=λH0 av A σ H δ E d e Q k=>by
 obtain⟨x,y,ex,ey,ed⟩:=JM e;refine ha H0 av A σ H δ E x ex _ λvx H1 s1 r1=>hb H0 av A σ H1 δ (E.mono s1) y ey _ λvy H2 s2 r2 => ?_
 have E2:=(E.mono s1).mono s2;have r1':=(r1.same s2).tp;have r2':=r2.tp;have key:∀i:Addr->Prop,(∀a,i a->H2 a≠none)->RepT G.1 av i H2 x vx->RepT G.1 av i H2 y vy->(∀v H',Same H2 H'->Rep G.1 i H' d v->Q v H')->r vx vy H2 Q:=λi hi h1 h2 h3=>hr av av i H2 x y vx vy d hi h1 h2 ed Q h3
 have toav:∀{dd:D}{v:V},RepT G.1 av (AV av A) H2 dd v->RepT G.1 av av H2 dd v:=λh=>h.weak (λa z=>z) λa => .inl
 cases qa with
 |dt=>
  refine key av E2.avH r1' ?_ λv H' s3 r3=>k v H' ((s1.trans s2).trans s3) r3.t
  cases qb with
  |dt=>exact r2'
  |cl=>exact toav r2'
  |tp=>exact toav r2'
 |cl=>
  cases qb with
  |dt=>exact key av E2.avH (toav r1') r2' λv H' s3 r3=>k v H' ((s1.trans s2).trans s3) r3.t
  |cl=>exact key _ E2.avl r1' r2' λv H' s3 r3=>k v H' ((s1.trans s2).trans s3) r3.t
  |tp=>exact key _ E2.avl r1' r2' λv H' s3 r3=>k v H' ((s1.trans s2).trans s3) r3.t
 |tp=>
  cases qb with
  |dt=>exact key av E2.avH (toav r1') r2' λv H' s3 r3=>k v H' ((s1.trans s2).trans s3) r3.t
  |cl=>exact key _ E2.avl r1' r2' λv H' s3 r3=>k v H' ((s1.trans s2).trans s3) r3.t
  |tp=>exact key _ E2.avl r1' r2' λv H' s3 r3=>k v H' ((s1.trans s2).trans s3) r3.t
end
end DL
namespace DL
open PySem PySem.Spec L2
mutual
def toP:D->PyData
 | .non => .none
 | .bl b => .bool b
 | .int i => .int i
 | .str cs => .str (tx cs)
 | .lst xs => .list (UB xs)
 | .tup xs => .tuple (UB xs)
 | .obj _ _ _ => .dict []
 | .dct _ _ => .dict []
 | .dtt _ _ => .dict []
 | .exc _ _ => .dict []
def UB:List D->List PyData
 | []=>[]
 |x::xs=>toP x::UB xs
end
section
variable{X:Cx}{cA:Kn}
mutual
theorem QS{pins:List (Addr×Obj)}{σ:L2.St}{H:Hp}{s:Shared}{av:Addr->Prop}(hK:cA.K=X.K)(I:Inv X pins σ H s):∀(d:D)(v:V)(u:Value),PyData.canLay0 (toP d)=true->Rep cA av H d v->RelV v u->∃as,Reads s.heap u (toP d) as
 | .non,v,u,_,h,r=>by
  cases(show v = .non from h);cases r;exact⟨_,.none⟩
 | .bl b,v,u,_,h,r=>by
  cases(show v = .bl b from h);cases r;exact⟨_,.bool b⟩
 | .int i,v,u,_,h,r=>by
  cases(show v = .int i from h);obtain⟨t,rfl⟩:=r;exact⟨_,.int i t⟩
 | .str cs,v,u,_,h,r=>by
  cases(show v=S cs from h);obtain⟨t,rfl⟩:=r;exact⟨_,.str _ t⟩
 | .lst xs,v,u,c,h,r=>by
  unfold Rep at h;obtain⟨a,vs,rfl,_,rd,l⟩:=h;cases r;obtain⟨its,rv,⟨ob,n,e,hc,hd,hs⟩,z⟩:=I.list (show SqL X.K H a vs from hK▸rd);obtain⟨as,ra⟩:=ZaH hK I xs vs its (by unfold toP PyData.canLay0 at c;exact c) l rv;unfold toP;exact⟨_,.list e hc hs (by simpa using ra)⟩
 | .tup xs,v,u,c,h,r=>by
  unfold Rep at h;obtain⟨a,vs,rfl,_,rd,l⟩:=h;cases r;obtain⟨z,its,rv,ob,e,hc,⟨n,hd⟩,_⟩:=(show ObjOk X.prog X.w H s.heap a (.tup vs)from I.hok a _ rd)
  obtain⟨as,ra⟩:=ZaH hK I xs vs its (by unfold toP PyData.canLay0 at c;exact c) l rv;unfold toP;exact⟨_,.tuple e hc hd (by simpa using ra)⟩
 | .obj c' ks xs,v,u,c,h,r=>by
  unfold toP PyData.canLay0 at c;cases c
 | .dct ks xs,v,u,c,h,r=>by
  unfold toP PyData.canLay0 at c;cases c
 | .dtt ks xs,v,u,c,h,r=>by
  unfold toP PyData.canLay0 at c;cases c
 | .exc _ _,v,u,c,h,r=>by
  unfold toP PyData.canLay0 at c;cases c
theorem ZaH{pins:List (Addr×Obj)}{σ:L2.St}{H:Hp}{s:Shared}{av:Addr->Prop}(hK:cA.K=X.K)(I:Inv X pins σ H s):∀(xs:List D)(vs:List V)(us:List Value),PyData.canLayAll0 (UB xs)=true->RepL cA av H xs vs->Vals vs us->∃as,ReadsAll s.heap us (UB xs) as
 | [],vs,us,_,h,r=>by
  rw [h.nil_of]at r;cases r;exact⟨_,.nil⟩
 |x::xs,vs,us,c,h,r=>by
  obtain⟨v,rr,rfl,h1,h2⟩:=h.uncons;cases r with
  |cons r1 r2=>
   unfold UB PyData.canLayAll0 at c;rw [Bool.and_eq_true]at c;obtain⟨a1,q1⟩:=QS hK I x v _ c.1 h1 r1;obtain⟨a2,q2⟩:=ZaH hK I xs rr _ c.2 h2 r2;unfold UB;exact⟨_,.cons q1 q2⟩
end
end
def eqD(x y:D):Option D:=
 if ZC x&&ZC y&&Vp (val x) (val y)then some (.bl (decide (val x=val y)))
 else if SeqAt.shaped (toP x)&&SeqAt.shaped (toP y)then some (.bl (PyData.eqv (toP x) (toP y)))else none
def neD(x y:D):Option D:=match eqD x y with
 |some (.bl b)=>some (.bl (!b))
 |_=>none
def JN(cA:Kn)(neg:Bool):R2:=λx y H Q=>∃av av' dx dy b,Rep cA av H dx x/\Rep cA av' H dy y/\eqD dx dy=some (.bl b)/\Q (.bl (neg != b)) H
section
variable{X:Cx}{cA:Kn}
theorem YL(hu:X.A.units+64<cLine)(hK:cA.K=X.K:=by rfl):OpR X (compareOp .Eq) (JN cA false):=by
 intro pins s σ H x y v u Q I rx ry h;obtain⟨av,av',dx,dy,b,hx,hy,e,q⟩:=h;unfold eqD at e
 by_cases h1:(ZC dx&&ZC dy&&Vp (val dx) (val dy))=true
 · rw [if_pos h1]at e
   simp only [Bool.and_eq_true]at h1;obtain⟨⟨s1,s2⟩,s3⟩:=h1;have e1:=hx.val s1;have e2:=hy.val s2;subst e1 e2;have e':decide (val dx=val dy)=b:=by simpa using e
   exact ZjG pins s σ H _ _ v u Q I rx ry ⟨s3,by rw [e'];simpa using q⟩
 · rw [if_neg h1]at e
   by_cases h2:(SeqAt.shaped (toP dx)&&SeqAt.shaped (toP dy))=true
   · rw [if_pos h2]at e
     rw [Bool.and_eq_true]at h2;obtain⟨as,ra⟩:=QS hK I dx x v (SeqAt.canLay_of_shaped h2.1) hx rx;obtain⟨bs,rb⟩:=QS hK I dy y u (SeqAt.canLay_of_shaped h2.2) hy ry;have e':PyData.eqv (toP dx) (toP dy)=b:=by simpa using e
     exact PyProof.Rows.eq_dataH ra rb h2.1 h2.2 hu (by rw [e'];exact⟨.bl b,H,I,rfl,by simpa using q⟩)
   · rw [if_neg h2]at e
     cases e
theorem Zda(hu:X.A.units+64<cLine)(hK:cA.K=X.K:=by rfl):OpR X (compareOp .NotEq) (JN cA true):=by
 intro pins s σ H x y v u Q I rx ry h;obtain⟨av,av',dx,dy,b,hx,hy,e,q⟩:=h;unfold eqD at e
 by_cases h1:(ZC dx&&ZC dy&&Vp (val dx) (val dy))=true
 · rw [if_pos h1]at e
   simp only [Bool.and_eq_true]at h1;obtain⟨⟨s1,s2⟩,s3⟩:=h1;have e1:=hx.val s1;have e2:=hy.val s2;subst e1 e2;have e':decide (val dx=val dy)=b:=by simpa using e
   exact ZjH pins s σ H _ _ v u Q I rx ry ⟨s3,by rw [e'];simpa using q⟩
 · rw [if_neg h1]at e
   by_cases h2:(SeqAt.shaped (toP dx)&&SeqAt.shaped (toP dy))=true
   · rw [if_pos h2]at e
     rw [Bool.and_eq_true]at h2;obtain⟨as,ra⟩:=QS hK I dx x v (SeqAt.canLay_of_shaped h2.1) hx rx;obtain⟨bs,rb⟩:=QS hK I dy y u (SeqAt.canLay_of_shaped h2.2) hy ry;have e':PyData.eqv (toP dx) (toP dy)=b:=by simpa using e
     exact PyProof.Rows.ne_dataH ra rb h2.1 h2.2 hu (by rw [e'];exact⟨.bl (!b),H,I,rfl,by simpa using q⟩)
   · rw [if_neg h2]at e
     cases e
theorem RepT.av0{t i:Addr->Prop}{H:Hp}{d:D}{v:V}(h:RepT cA t i H d v):Rep cA (λ_=>False) H d v:=(h.weak (λ_ z=>z.elim) λ_ z=>z.elim).r
theorem ZfN{x y d:D}(h:eqD x y=some d):∃b,d = .bl b:=by
 unfold eqD at h
 split at h
 · exact⟨_,(Option.some.inj h).symm⟩
 · split at h
   · exact⟨_,(Option.some.inj h).symm⟩
   · cases h
theorem YM:XQ cA (JN cA false) eqD:=λt t' i H x y vx vy d _ hx hy e Q k=>by
 obtain⟨b,rfl⟩:=ZfN e;exact⟨_,_,x,y,b,hx.av0,hy.av0,e,k _ H (Same.refl H) (by cases b<;>rfl)⟩
theorem Zf6:XQ cA (JN cA true) neD:=λt t' i H x y vx vy d _ hx hy e Q k=>by
 unfold neD at e;cases he:eqD x y with
 |none=>rw [he]at e;cases e
 |some z=>
  obtain⟨b,rfl⟩:=ZfN he;rw [he]at e;have e':D.bl (!b)=d:=Option.some.inj e;subst e';exact⟨_,_,x,y,b,hx.av0,hy.av0,he,k _ H (Same.refl H) (by cases b<;>rfl)⟩
def UC(x:List Nat)(n:Int):List Nat:=(List.replicate n.toNat x).flatten
theorem Zbz(x:List Nat):∀(k:Nat)(acc:Array Nat),(List.replicate k x.toArray).foldl (· ++ ·) acc=acc++(List.replicate k x).flatten.toArray
 |0,acc=>by simp
 |k+1,acc=>by
  rw [List.replicate_succ,List.replicate_succ,List.foldl_cons,Zbz x k,List.flatten_cons];simp
theorem ZhZ(x:List Nat)(n:Int):Txt.mul (tx x) n=tx (UC x n):=by
 unfold Txt.mul UC
 by_cases h1:n<1
 · rw [if_pos h1]
   have:n.toNat=0:=by omega
   rw [this];rfl
 · rw [if_neg h1]
   by_cases h2:(n == 1||(tx x).length == 0)=true
   · rw [if_pos h2]
     rw [Bool.or_eq_true]at h2;rcases h2 with h2|h2
     · have:n=1:=by simpa using h2
       subst this;simp
     · have : x = [] := by
        have:(tx x).length=0:=by simpa using h2
        rw [XN]at this;exact List.eq_nil_of_length_eq_zero this
       subst this;simp
   · rw [if_neg h2]
     have:=Zbz x n.toNat #[];rw [this];simp
def rMulS:R2:=λx y H Q=>∃a n,x=S a/\y = .int n/\(n<2 ^ 63 /\ -(2 ^ 63)<=n/\a.length*n.toNat<=sizeLine)/\Q (S (UC a n)) H
theorem Zgu:OpR X (binaryOp .Mult) rMulS:=by
 intro pins s σ H x y v u Q I rx ry h;obtain⟨a,n,rfl,rfl,⟨h1,h2,h3⟩,q⟩:=h;obtain⟨t,rfl⟩:=rx;obtain⟨t',rfl⟩:=ry;refine SB.mul ⟨?_,λhn hc => ?_,λhn hc => ?_⟩ λt' k=>⟨S (UC a n),H,I.tok _,⟨_,by rw [ZhZ]⟩,q⟩
 · have e1:decide (n < -(2 ^ 63:Int))=false:=decide_eq_false (by omega)
   have e2:decide (n ≥ 2 ^ 63)=false:=decide_eq_false (by omega);rw [e1,e2];rfl
 · rw [XN]
   have hs:sizeLine=16777216:=sizeLine_eq;intro hgt
   have h5:(a.length:Int)*n<=16777216:=by
    have:(a.length:Int)*n=((a.length*n.toNat:Nat):Int):=by
     rw [Int.natCast_mul,Int.toNat_of_nonneg (by omega)]
    rw [this];omega
   have h6:(2 ^ 63-1) / n<(a.length:Int):=hgt
   have h7:(2 ^ 63-1:Int)<(a.length:Int)*n:=by
    have:=Int.lt_mul_of_ediv_lt (show(0:Int)<n by omega) h6;rw [Int.mul_comm];rw [Int.mul_comm]at this;exact this
   omega
 · rw [XN]
   show decide (a.length*n.toNat>sizeLine)=false;exact decide_eq_false (by omega)
def rMulX:R2:=λx y H Q=>rI CMul (λi j => .int (i*j)) x y H Q\/rMulS x y H Q
theorem ZbV:OpR X (binaryOp .Mult) rMulX:=op_mul.or Zgu
instance (i j:Int):Decidable (CMul i j):=by unfold CMul;infer_instance
instance (i j:Int):Decidable (Z1 i j):=by unfold Z1;infer_instance
def addD:D->D->Option D
 | .int i,.int j=>some (.int (i+j))
 | .str a,.str b=>if a.length+b.length<=sizeLine then some (.str (a++b))else none
 |_,_=>none
def subD:D->D->Option D
 | .int i,.int j=>some (.int (i-j))
 |_,_=>none
def mulD:D->D->Option D
 | .int i,.int j=>if CMul i j then some (.int (i*j))else none
 | .str a,.int n=>if n<2 ^ 63 /\ -(2 ^ 63)<=n/\a.length*n.toNat<=sizeLine then some (.str (UC a n))else none
 |_,_=>none
def fdivD:D->D->Option D
 | .int i,.int j=>if Z1 i j then some (.int (i / j))else none
 |_,_=>none
def modD:D->D->Option D
 | .int i,.int j=>if 0<j then some (.int (i % j))else none
 |_,_=>none
def ZG(p:Int->Int->Bool):D->D->Option D
 | .int i,.int j=>some (.bl (p i j))
 |_,_=>none
theorem Xf:XQ cA rAddX addD:=λt t' i H x y vx vy d _ hx hy e Q k=>by
 cases x<;>cases y<;>first|(cases e;done)|skip
 · cases(show vx=_ from hx);cases(show vy=_ from hy)
   cases e;exact .inl ⟨_,_,rfl,rfl,k _ H (Same.refl H) rfl⟩
 · cases(show vx=_ from hx);cases(show vy=_ from hy)
   rename_i a b;dsimp only [addD]at e
   by_cases hz:a.length+b.length<=sizeLine
   · rw [if_pos hz]at e
     cases e;exact .inr (.inl ⟨_,_,rfl,rfl,hz,k _ H (Same.refl H) rfl⟩)
   · rw [if_neg hz]at e;cases e
theorem UD:XQ cA (rI0 λi j => .int (i-j)) subD:=λt t' i H x y vx vy d _ hx hy e Q k=>by
 cases x<;>cases y<;>first|(cases e;done)|skip
 cases(show vx=_ from hx);cases(show vy=_ from hy);cases e;exact⟨_,_,rfl,rfl,k _ H (Same.refl H) rfl⟩
theorem Zdb:XQ cA rMulX mulD:=λt t' i H x y vx vy d _ hx hy e Q k=>by
 cases x<;>cases y<;>first|(cases e;done)|skip
 · cases(show vx=_ from hx);cases(show vy=_ from hy)
   rename_i a b;dsimp only [mulD]at e
   by_cases hz:CMul a b
   · rw [if_pos hz]at e
     cases e;exact .inl ⟨_,_,rfl,rfl,hz,k _ H (Same.refl H) rfl⟩
   · rw [if_neg hz]at e;cases e
 · cases(show vx=_ from hx);cases(show vy=_ from hy)
   rename_i a n;dsimp only [mulD]at e
   by_cases hz:n<2 ^ 63 /\ -(2 ^ 63)<=n/\a.length*n.toNat<=sizeLine
   · rw [if_pos hz]at e
     cases e;exact .inr ⟨_,_,rfl,rfl,hz,k _ H (Same.refl H) rfl⟩
   · rw [if_neg hz]at e;cases e
theorem Y7:XQ cA (rI Z1 λi j => .int (i / j)) fdivD:=λt t' i H x y vx vy d _ hx hy e Q k=>by
 cases x<;>cases y<;>first|(cases e;done)|skip
 cases(show vx=_ from hx);cases(show vy=_ from hy);rename_i a b;dsimp only [fdivD]at e
 by_cases hz:Z1 a b
 · rw [if_pos hz]at e
   cases e;exact⟨_,_,rfl,rfl,hz,k _ H (Same.refl H) rfl⟩
 · rw [if_neg hz]at e;cases e
theorem ZW:XQ cA (rI (λ_ j=>0<j) λi j => .int (i % j)) modD:=λt t' i H x y vx vy d _ hx hy e Q k=>by
 cases x<;>cases y<;>first|(cases e;done)|skip
 cases(show vx=_ from hx);cases(show vy=_ from hy);rename_i a b;dsimp only [modD]at e
 by_cases hz:0<b
 · rw [if_pos hz]at e
   cases e;exact⟨_,_,rfl,rfl,hz,k _ H (Same.refl H) rfl⟩
 · rw [if_neg hz]at e;cases e
theorem VP{p:Int->Int->Bool}:XQ cA (rI0 λi j => .bl (p i j)) (ZG p):=λt t' i H x y vx vy d _ hx hy e Q k=>by
 cases x<;>cases y<;>first|(cases e;done)|skip
 cases(show vx=_ from hx);cases(show vy=_ from hy);cases e;exact⟨_,_,rfl,rfl,k _ H (Same.refl H) rfl⟩
def inD(neg:Bool):D->D->Option D
 | .str [c],.str b=>some (.bl (neg != decide (c∈b)))
 |x,.lst ys=>if ZC x&&ys.all ZC then some (.bl (if neg then !(inV (val x) (ys.map val))else inV (val x) (ys.map val)))else none
 |x,.tup ys=>if ZC x&&ys.all ZC then some (.bl (if neg then !(inV (val x) (ys.map val))else inV (val x) (ys.map val)))else none
 |_,_=>none
theorem JO{d:D}:ZC d=true->XW (val d)=true:=by
 intro h;cases d<;>first|rfl|cases h
theorem JP:∀{xs:List D},xs.all ZC=true->(xs.map val).all XW=true
 | [],_=>rfl
 |x::xs,h=>by
  rw [List.all_cons,Bool.and_eq_true]at h;rw [List.map_cons,List.all_cons,JO h.1,JP h.2];rfl
theorem Zgv{t i:Addr->Prop}{H:Hp}{d:D}{v:V}(hs:ZC d=true)(h:RepT cA t i H d v):v=val d:=by
 cases d<;>first|exact h|cases hs
theorem QT{neg:Bool}:XQ cA (Qe cA.K neg) (inD neg):=λt t' i H x y vx vy d _ hx hy e Q k=>by
 have seq:∀ys,(y = .lst ys\/y = .tup ys)->(if ZC x&&ys.all ZC then some (D.bl (if neg then !(inV (val x) (ys.map val))else inV (val x) (ys.map val)))else none)=some d->Qe cA.K neg vx vy H Q:=λys hy' e=>by
  by_cases hz:(ZC x&&ys.all ZC)=true
  · rw [if_pos hz]at e
    rw [Bool.and_eq_true]at hz;have ex:=Zgv hz.1 hx;subst ex;cases e;rcases hy' with rfl|rfl
    · obtain⟨a,vs,rfl,_,rd,l⟩:=hy
      have ev:=l.vals hz.2;subst ev;exact .inr ⟨a,_,rfl,.inl rd,JO hz.1,JP hz.2,k _ H (Same.refl H) rfl⟩
    · obtain⟨a,vs,rfl,_,rd,l⟩:=hy
      have ev:=l.vals hz.2;subst ev;exact .inr ⟨a,_,rfl,.inr (SqT.of rd),JO hz.1,JP hz.2,k _ H (Same.refl H) rfl⟩
  · rw [if_neg hz]at e;cases e
 cases y with
 |lst ys=>exact seq ys (.inl rfl) (by cases x<;>first|exact e|(rename_i cs;cases cs<;>first|exact e|(rename_i c r;cases r<;>exact e)))
 |tup ys=>exact seq ys (.inr rfl) (by cases x<;>first|exact e|(rename_i cs;cases cs<;>first|exact e|(rename_i c r;cases r<;>exact e)))
 |str b=>
  cases x with
  |str cs=>
   cases cs with
   |nil=>cases e
   |cons c r=>
    cases r with
    |cons _ _=>cases e
    |nil=>
     cases(show vx=_ from hx);cases(show vy=_ from hy);cases e;exact .inl ⟨c,b,rfl,rfl,k _ H (Same.refl H) rfl⟩
  |_=>cases e
 |_=>cases x<;>first|(cases e;done)|(rename_i cs;cases cs<;>first|(cases e;done)|(rename_i c r;cases r<;>cases e))
def ixD:D->D->Option D
 | .lst xs,.int i=>atI xs i
 | .tup xs,.int i=>atI xs i
 | .str cs,.int i=>if cs.length<=sizeLine then(atI cs i).map λc => .str [c]else none
 |_,_=>none
theorem Zdq{av:Addr->Prop}{H:Hp}{xs:List D}{vs:List V}{i:Int}{d:D}(l:RepL cA av H xs vs)(h:atI xs i=some d):∃v,atI vs i=some v/\Rep cA av H d v:=by
 unfold atI at h ⊢;rw [l.length]at h;cases e:ixN vs.length i with
 |none=>rw [e]at h;cases h
 |some j=>
  rw [e]at h;exact l.get h
theorem Zv:XQ cA (Zja cA.K) ixD:=λt t' i H x y vx vy d _ hx hy e Q k=>by
 cases y<;>first|(cases x<;>cases e;done)|skip
 rename_i j;cases(show vy=_ from hy);cases x<;>first|(cases e;done)|skip
 · cases(show vx=_ from hx)
   rename_i cs;dsimp only [ixD]at e
   by_cases hz:cs.length<=sizeLine
   · rw [if_pos hz]at e
     cases ea:atI cs j with
     |none=>rw [ea]at e;cases e
     |some c=>
      rw [ea]at e;cases e;exact .inr (.inr ⟨cs,j,c,rfl,rfl,hz,ea,k _ H (Same.refl H) rfl⟩)
   · rw [if_neg hz]at e;cases e
 · obtain⟨a,vs,rfl,_,rd,l⟩:=hx
   obtain⟨v,h1,h2⟩:=Zdq l e;exact .inl ⟨a,vs,j,v,rfl,rfl,rd,h1,k v H (Same.refl H) h2⟩
 · obtain⟨a,vs,rfl,_,rd,l⟩:=hx
   obtain⟨v,h1,h2⟩:=Zdq l e;exact .inr (.inl ⟨a,vs,j,v,rfl,rfl,SqT.of rd,h1,k v H (Same.refl H) h2⟩)
end
end DL
namespace DL
open PySem PySem.Spec L2
section
variable{cA:Kn}{G:Cn}{ow:List Nat}
def bD:Option D->Option Bool
 |some (.bl b)=>some b
 |_=>none
theorem Zdr{o:Option D}{b:Bool}(h:bD o=some b):o=some (.bl b):=by
 cases o with
 |none=>cases h
 |some d=>cases d<;>first|(cases h;rfl)|cases h
def xB(ε:Env->Option D)(δ:Env):Option Bool:=bD (ε δ)
theorem Ub{te:TE}{q:Ql}{ε:Env->Option D}(h:VE G ow te q ε):VT G ow (tB te) (xB ε):=λH0 av A σ H δ E b e Q k=>
 h H0 av A σ H δ E _ (Zdr e) _ λv H' s r=>⟨b,by cases q<;>exact r,k H' s⟩
theorem Yr{te:TE}{q:Ql}{ε:Env->Option D}(h:VE G ow te q ε):VT G ow (Zhf te) (xB ε):=λH0 av A σ H δ E b e Q k=>
 h H0 av A σ H δ E _ (Zdr e) _ λv H' s r=>⟨b,by cases q<;>exact r,k H' s⟩
def ZN(τ:Env->Option Bool)(δ:Env):Option Bool:=match τ δ with
 |some b=>some (!b)
 |none=>none
theorem UE{t:TT}{τ:Env->Option Bool}(h:VT G ow t τ):VT G ow (ZkX t) (ZN τ):=λH0 av A σ H δ E b e Q k=>by
 unfold ZN at e;cases he:τ δ with
 |none=>rw [he]at e;cases e
 |some c=>
  rw [he]at e;cases e;exact h H0 av A σ H δ E c he _ λH' s=>k H' s
def Z3(τ υ:Env->Option Bool)(δ:Env):Option Bool:=match τ δ with
 |some true=>υ δ
 |some false=>some false
 |none=>none
def xOr(τ υ:Env->Option Bool)(δ:Env):Option Bool:=match τ δ with
 |some true=>some true
 |some false=>υ δ
 |none=>none
theorem Zh0{t u:TT}{τ υ:Env->Option Bool}(h:VT G ow t τ)(h':VT G ow u υ):VT G ow (ZkW t u) (Z3 τ υ):=λH0 av A σ H δ E b e Q k=>by
 unfold Z3 at e;cases he:τ δ with
 |none=>rw [he]at e;cases e
 |some c=>
  rw [he]at e;refine h H0 av A σ H δ E c he _ λH' s => ?_
  cases c with
  |true=>exact Ua (h' H0 av A σ H' δ (E.mono s) b e _ λH2 s2=>k H2 (s.trans s2))
  |false=>cases e;exact V9 (k H' s)
theorem JQ{t u:TT}{τ υ:Env->Option Bool}(h:VT G ow t τ)(h':VT G ow u υ):VT G ow (tOr t u) (xOr τ υ):=λH0 av A σ H δ E b e Q k=>by
 unfold xOr at e;cases he:τ δ with
 |none=>rw [he]at e;cases e
 |some c=>
  rw [he]at e;refine h H0 av A σ H δ E c he _ λH' s => ?_
  cases c with
  |true=>cases e;exact Ua (k H' s)
  |false=>exact V9 (h' H0 av A σ H' δ (E.mono s) b e _ λH2 s2=>k H2 (s.trans s2))
theorem X7:VT G ow tYes (λ_=>some true):=λH0 av A σ H δ E b e Q k=>by
 cases e;exact k H (Same.refl H)
theorem blq{av:Addr->Prop}{A:Nat->Option Addr}{H:Hp}{q:Ql}{b:Bool}:RepQ cA av A H q (.bl b) (.bl b):=by cases q<;>exact rfl
theorem qbl{av:Addr->Prop}{A:Nat->Option Addr}{H:Hp}{q:Ql}{b:Bool}{v:V}(h:RepQ cA av A H q (.bl b) v):v = .bl b:=by cases q<;>exact h
def ZP(a b:Env->Option D)(δ:Env):Option D:=match a δ with
 |some (.bl true)=>b δ
 |some (.bl false)=>some (.bl false)
 |_=>none
def eOr(a b:Env->Option D)(δ:Env):Option D:=match a δ with
 |some (.bl true)=>some (.bl true)
 |some (.bl false)=>b δ
 |_=>none
def Z7(a:Env->Option D)(δ:Env):Option D:=match a δ with
 |some (.bl b)=>some (.bl (!b))
 |_=>none
theorem Qg{ta tb:TE}{qa qb:Ql}{a b:Env->Option D}(ha:VE G ow ta qa a)(hb:VE G ow tb qb b):VE G ow (Zha ta tb) qb (ZP a b):=λH0 av A σ H δ E d e Q k=>by
 unfold ZP at e;cases he:a δ with
 |none=>rw [he]at e;cases e
 |some x=>
  rw [he]at e;cases x<;>first|(cases e;done)|skip
  rename_i c;refine ha H0 av A σ H δ E _ he _ λv H' s r=>⟨c,qbl r,?_⟩
  cases c with
  |true=>exact Ua (hb H0 av A σ H' δ (E.mono s) d e _ λv2 H2 s2 r2=>k v2 H2 (s.trans s2) r2)
  |false=>cases e;exact V9 (k _ H' s blq)
theorem ZjN{ta tb:TE}{qa qb:Ql}{a b:Env->Option D}(ha:VE G ow ta qa a)(hb:VE G ow tb qb b):VE G ow (ZkY ta tb) qb (eOr a b):=λH0 av A σ H δ E d e Q k=>by
 unfold eOr at e;cases he:a δ with
 |none=>rw [he]at e;cases e
 |some x=>
  rw [he]at e;cases x<;>first|(cases e;done)|skip
  rename_i c;refine ha H0 av A σ H δ E _ he _ λv H' s r=>⟨c,qbl r,?_⟩
  cases c with
  |false=>exact V9 (hb H0 av A σ H' δ (E.mono s) d e _ λv2 H2 s2 r2=>k v2 H2 (s.trans s2) r2)
  |true=>cases e;exact Ua (k _ H' s blq)
theorem Zh1{ta:TE}{qa:Ql}{a:Env->Option D}(ha:VE G ow ta qa a):VE G ow (Zhb ta) .cl (Z7 a):=λH0 av A σ H δ E d e Q k=>by
 unfold Z7 at e;cases he:a δ with
 |none=>rw [he]at e;cases e
 |some x=>
  rw [he]at e;cases x<;>first|(cases e;done)|skip
  cases e;exact ha H0 av A σ H δ E _ he _ λv H' s r=>⟨_,qbl r,k _ H' s blq⟩
def eIf(τ:Env->Option Bool)(a b:Env->Option D)(δ:Env):Option D:=match τ δ with
 |some true=>a δ
 |some false=>b δ
 |none=>none
def Z9:D->Bool
 | .non=>true
 |_=>false
theorem Zgw{av:Addr->Prop}{H:Hp}{d:D}{v:V}(h:Rep cA av H d v):decide (v = .non)=Z9 d:=by
 cases d with
 |non=>cases(show v=_ from h);rfl
 |bl b=>cases(show v=_ from h);rfl
 |int i=>cases(show v=_ from h);rfl
 |str cs=>cases(show v=_ from h);rfl
 |lst xs=>unfold Rep at h;obtain⟨a,vs,rfl,_⟩:=h;rfl
 |tup xs=>unfold Rep at h;obtain⟨a,vs,rfl,_⟩:=h;rfl
 |obj c ks xs=>unfold Rep at h;obtain⟨a,dx,vs,rfl,_⟩:=h;rfl
 |dct ks xs=>unfold Rep at h;obtain⟨a,vs,rfl,_⟩:=h;rfl
 |dtt ks xs=>unfold Rep at h;obtain⟨a,vs,rfl,_⟩:=h;rfl
 |exc c r=>unfold Rep at h;obtain⟨a,rfl,_⟩:=h;rfl
def Z6(a:Env->Option D)(δ:Env):Option D:=match a δ with
 |some d=>some (.bl (Z9 d))
 |none=>none
def Yy(a:Env->Option D)(δ:Env):Option D:=match a δ with
 |some d=>some (.bl (!Z9 d))
 |none=>none
theorem ZfO{ta:TE}{qa:Ql}{a:Env->Option D}(ha:VE G ow ta qa a):VE G ow (ZkV ta) .cl (Z6 a):=λH0 av A σ H δ E d e Q k=>by
 unfold Z6 at e;cases he:a δ with
 |none=>rw [he]at e;cases e
 |some x=>
  rw [he]at e;cases e;refine ha H0 av A σ H δ E _ he _ λv H' s r => ?_
  rw [Zgw r.any];exact k _ H' s blq
def Yb(f g:D->D->Option D)(a b c:Env->Option D)(δ:Env):Option D:=match eOp f a b δ with
 |some (.bl true)=>eOp g b c δ
 |some (.bl false)=>some (.bl false)
 |_=>none
theorem Zcm{p p':Int->Int->Bool}{ta tb tc:TE}{qa qb qc:Ql}{a b c:Env->Option D}(ha:VE G ow ta qa a)(hb:VE G ow tb qb b)(hc:VE G ow tc qc c) :
 VE G ow (ZfI (rI0 λi j => .bl (p i j)) (rI0 λi j => .bl (p' i j)) ta tb tc) .cl (Yb (ZG p) (ZG p') a b c):=λH0 av A σ H δ E d e Q k=>by
 unfold Yb at e;cases he:eOp (ZG p) a b δ with
 |none=>rw [he]at e;cases e
 |some z=>
  rw [he]at e;obtain⟨x,y,ex,ey,ez⟩:=JM he;cases x<;>cases y<;>first|(cases ez;done)|skip
  rename_i i j;cases ez;refine ha H0 av A σ H δ E _ ex _ λvx H1 s1 r1=>hb H0 av A σ H1 δ (E.mono s1) _ ey _ λvy H2 s2 r2 => ?_
  have e1:vx = .int i:=r1.any;have e2:vy = .int j:=r2.any;subst e1 e2;refine⟨i,j,rfl,rfl,p i j,rfl,?_⟩;have E2:=(E.mono s1).mono s2;cases hp:p i j with
  |false=>
   rw [hp]at e;cases e;exact V9 (k _ H2 (s1.trans s2) blq)
  |true=>
   rw [hp]at e;obtain⟨y',w',ey',ew,ez⟩:=JM e;rw [ey]at ey';cases ey';cases w'<;>first|(cases ez;done)|skip
   rename_i l;cases ez;refine Ua (hc H0 av A σ H2 δ E2 _ ew _ λvw H3 s3 r3 => ?_);have e3:vw = .int l:=r3.any;subst e3;exact⟨j,l,rfl,rfl,k _ H3 ((s1.trans s2).trans s3) blq⟩
def ZX:D->Option D
 | .int i=>some (.int (-i))
 |_=>none
def eUn(f:D->Option D)(a:Env->Option D)(δ:Env):Option D:=match a δ with
 |some x=>f x
 |none=>none
theorem Qh{ta:TE}{qa:Ql}{a:Env->Option D}(ha:VE G ow ta qa a):VE G ow (tUn (rU λi => .int (-i)) ta) .cl (eUn ZX a):=λH0 av A σ H δ E d e Q k=>by
 unfold eUn at e;cases he:a δ with
 |none=>rw [he]at e;cases e
 |some x=>
  rw [he]at e;cases x<;>first|(cases e;done)|skip
  cases e;refine ha H0 av A σ H δ E _ he _ λv H' s r => ?_
  have e1:=r.any;exact⟨_,e1,k _ H' s rfl⟩
def eNil(_:Env):Option (List D):=some []
def Zb(a:Env->Option D)(r:Env->Option (List D))(δ:Env):Option (List D):=match a δ with
 |some x=>match r δ with
  |some xs=>some (x::xs)
  |none=>none
 |none=>none
theorem Zk{q:Ql}:VA G ow tNil q eNil:=λH0 av A σ H δ E ds e Q k=>by
 cases e;exact k [] H (Same.refl H) rfl
theorem Ze{te:TE}{ta:TA}{q:Ql}{a:Env->Option D}{r:Env->Option (List D)}(ha:VE G ow te q a)(hr:VA G ow ta q r):VA G ow (Y5 te ta) q (Zb a r):=λH0 av A σ H δ E ds e Q k=>by
 unfold Zb at e;cases he:a δ with
 |none=>rw [he]at e;cases e
 |some x=>
  rw [he]at e;cases hr':r δ with
  |none=>rw [hr']at e;cases e
  |some xs=>
   rw [hr']at e;cases e;exact ha H0 av A σ H δ E x he _ λv H1 s1 r1=>hr H0 av A σ H1 δ (E.mono s1) xs hr' _ λvs H2 s2 r2=>k _ H2 (s1.trans s2) ⟨v,vs,rfl,r1.same s2,r2⟩
theorem RepQL.length{av:Addr->Prop}{A:Nat->Option Addr}{H:Hp}{q:Ql}{xs:List D}{vs:List V}(h:RepQL cA av A H q xs vs):xs.length=vs.length:=h.any.length
def Zp(α:Env->Option (List D))(δ:Env):Option D:=match α δ with
 |some xs=>if xs.length<=sizeLine then some (.lst xs)else none
 |none=>none
theorem Yo{t:TA}{α:Env->Option (List D)}(h:VA G ow t .cl α):VF G ow (Zk4 t) (Zp α):=λH0 av A σ H δ E d e Q k=>by
 unfold Zp at e;cases he:α δ with
 |none=>rw [he]at e;cases e
 |some xs=>
  rw [he]at e
  by_cases hz:xs.length<=sizeLine
  · have e':D.lst xs=d:=by simpa [hz]using e
    exact h H0 av A σ H δ E xs he _ λvs H1 s1 r1=>⟨by rw [<-r1.length];exact hz,λp hp=>k p vs xs H1 s1 hp r1.cl e'.symm⟩
  · simp [hz]at e
def Z8(α:Env->Option (List D))(δ:Env):Option D:=match α δ with
 |some xs=>if xs.length<=sizeLine then some (.tup xs)else none
 |none=>none
theorem Zh2{t:TA}{α:Env->Option (List D)}(h:VA G ow t .cl α):VE G ow (Zi5 t) .cl (Z8 α):=λH0 av A σ H δ E d e Q k=>by
 unfold Z8 at e;cases he:α δ with
 |none=>rw [he]at e;cases e
 |some xs=>
  rw [he]at e
  by_cases hz:xs.length<=sizeLine
  · have e':D.tup xs=d:=by simpa [hz]using e
    subst e';refine h H0 av A σ H δ E xs he _ λvs H1 s1 r1=>⟨by rw [<-r1.length];exact hz,λp hp=>k _ _ (s1.trans (Xi hp)) ⟨p,vs,rfl,λz=>(E.mono s1).avl p z hp,YH,r1.cl.same (Xi hp)⟩⟩
  · simp [hz]at e
def Qi(cA:Kn)(i:Addr->Prop)(H:Hp):List D->List V->Prop
 | [],vs=>vs=[]
 |x::xs,vs=>∃v r,vs=v::r/\(∃t,RepT cA t i H x v)/\Qi cA i H xs r
theorem RepQL.il{av:Addr->Prop}{A:Nat->Option Addr}{H:Hp}{q:Ql}:∀{xs:List D}{vs:List V},RepQL cA av A H q xs vs->Qi cA (q.iv av A) H xs vs
 | [],_,h=>h
 |x::xs,vs,h=>by
  obtain⟨v,r,e,h1,h2⟩:=h;exact⟨v,r,e,⟨_,h1.tp⟩,RepQL.il h2⟩
def JR(cA:Kn)(r:List V->Hp->VK->Prop)(f:List D->Option D):Prop:=
 ∀(i:Addr->Prop)(H:Hp)(ds:List D)(vs:List V)(d:D),(∀a,i a->H a≠none)->Qi cA i H ds vs->f ds=some d->∀Q:VK,(∀v H',Same H H'->Rep cA i H' d v->Q v H')->r vs H Q
def eCB(f:List D->Option D)(α:Env->Option (List D))(δ:Env):Option D:=match α δ with
 |some ds=>f ds
 |none=>none
theorem YI{r:List V->Hp->VK->Prop}{f:List D->Option D}{t:TA}{q:Ql}{α:Env->Option (List D)}(hr:JR G.1 r f)(h:VA G ow t q α):VE G ow (tCB r t) q.it (eCB f α):=λH0 av A σ H δ E d e Q k=>by
 unfold eCB at e;cases he:α δ with
 |none=>rw [he]at e;cases e
 |some ds=>
  rw [he]at e;refine h H0 av A σ H δ E ds he _ λvs H1 s1 r1 => ?_
  have E1:=E.mono s1;cases q with
  |cl=>exact hr _ H1 ds vs d E1.avl r1.il e _ λv H' s r=>k v H' (s1.trans s) r.t
  |tp=>exact hr _ H1 ds vs d E1.avl r1.il e _ λv H' s r=>k v H' (s1.trans s) r.t
  |dt=>exact hr _ H1 ds vs d E1.avH r1.il e _ λv H' s r=>k v H' (s1.trans s) r.t
theorem il1{i:Addr->Prop}{H:Hp}{x:D}{vs:List V}(h:Qi cA i H [x] vs):∃v t,vs=[v]/\RepT cA t i H x v:=by
 obtain⟨v,r,rfl,⟨t,h1⟩,h2⟩:=h;cases(show r=[]from h2);exact⟨v,t,rfl,h1⟩
def lenD:List D->Option D
 | [.str a]=>if a.length<=sizeLine then some (.int a.length)else none
 | [.lst xs]=>some (.int xs.length)
 | [.tup xs]=>some (.int xs.length)
 |_=>none
theorem Xg:JR cA (Zf4 cA.K) lenD:=λi H ds vs d _ h e Q k=>by
 cases ds with
 |nil=>cases e
 |cons x r=>
  cases r with
  |cons _ _=>cases x<;>cases e
  |nil=>
   obtain⟨v,t,rfl,hx⟩:=il1 h;cases x<;>first|(cases e;done)|skip
   · rename_i a
     dsimp only [lenD]at e
     by_cases hz:a.length<=sizeLine
     · rw [if_pos hz]at e
       cases e;exact .inl ⟨a,by rw [show v=S a from hx],hz,k _ H (Same.refl H) rfl⟩
     · rw [if_neg hz]at e;cases e
   · obtain⟨a,ws,rfl,_,rd,l⟩:=hx
     cases e;exact .inr ⟨a,ws,rfl,.inl rd,k _ H (Same.refl H) (by rw [l.length];rfl)⟩
   · obtain⟨a,ws,rfl,_,rd,l⟩:=hx
     cases e;exact .inr ⟨a,ws,rfl,.inr (SqT.of rd),k _ H (Same.refl H) (by rw [l.length];rfl)⟩
def Yz:List D->Option D
 | [.int i,.int j]=>some (.int (if j<i then j else i))
 |_=>none
def YA:List D->Option D
 | [.int i,.int j]=>some (.int (if j>i then j else i))
 |_=>none
def Vq:List D->Option (List Bool)
 | []=>some []
 | .bl b::r=>match Vq r with
  |some bs=>some (b::bs)
  |none=>none
 |_=>none
theorem Zcn:∀{xs:List D}{bs:List Bool},Vq xs=some bs->xs=bs.map D.bl
 | [],bs,h=>by cases h;rfl
 |x::xs,bs,h=>by
  cases x<;>first|(cases h;done)|skip
  rename_i b;unfold Vq at h;cases hr:Vq xs with
  |none=>rw [hr]at h;cases h
  |some cs=>
   rw [hr]at h;cases h;rw [List.map_cons,Zcn hr]
theorem ZbA(bs:List Bool):Vq (bs.map D.bl)=some bs:=by
 induction bs with
 |nil=>rfl
 |cons b bs ih=>rw [List.map_cons,Vq,ih]
def VQ(f:List Bool->Bool):List D->Option D
 | [.lst xs]=>match Vq xs with
  |some bs=>some (.bl (f bs))
  |none=>none
 |_=>none
theorem QU{f:List Bool->Bool}:JR cA (QR cA.K f) (VQ f):=λi H ds vs d _ h e Q k=>by
 unfold VQ at e
 split at e
 · rename_i xs
   cases hb:Vq xs with
   |none=>rw [hb]at e;cases e
   |some bs=>
    rw [hb]at e;cases e;obtain⟨v,t,rfl,a,ws,rfl,_,rd,l⟩:=il1 h;have ex:=Zcn hb;subst ex;have ev:=l.vals (by rw [List.all_map];exact List.all_eq_true.mpr λ_ _=>rfl);rw [List.map_map]at ev;subst ev;exact⟨a,bs,rfl,rd,k _ H (Same.refl H) rfl⟩
 · cases e
def intD:List D->Option D
 | [.str a]=>if a.length<=640/\a≠[]/\a.all JF=true then some (.int (Zi7 a:Nat))else none
 | [.bl b]=>some (.int (if b then 1 else 0))
 |_=>none
theorem JS:JR cA rIntX intD:=λi H ds vs d _ h e Q k=>by
 unfold intD at e
 split at e
 · rename_i a
   obtain⟨v,t,rfl,hx⟩:=il1 h;cases(show v=_ from hx)
   by_cases hz:a.length<=640/\a≠[]/\a.all JF=true
   · rw [if_pos hz]at e
     cases e;exact .inl ⟨a,rfl,hz.1,hz.2.1,hz.2.2,k _ H (Same.refl H) rfl⟩
   · rw [if_neg hz]at e;cases e
 · rename_i b
   obtain⟨v,t,rfl,hx⟩:=il1 h;cases(show v=_ from hx);cases e;exact .inr ⟨b,rfl,k _ H (Same.refl H) rfl⟩
 · cases e
def Vh:List D->Option D
 | [.lst xs]=>some (.tup xs)
 | [.tup xs]=>some (.tup xs)
 |_=>none
theorem JT{t:TA}{α:Env->Option (List D)}(h:VA G ow t .cl α):VE G ow (tCB (ZfK G.1.K) t) .cl (eCB Vh α):=λH0 av A σ H δ E d e Q k=>by
 unfold eCB at e;cases he:α δ with
 |none=>rw [he]at e;cases e
 |some ds=>
  rw [he]at e;refine h H0 av A σ H δ E ds he _ λvs H1 s1 r1 => ?_
  have E1:=E.mono s1;have e:Vh ds=some d:=e;unfold Vh at e
  split at e
  · rename_i xs
    cases e;obtain⟨v,r,rfl,⟨a,ws,rfl,_,rd,l⟩,h2⟩:=r1;cases(show r=[]from h2);exact⟨a,ws,rfl,.inl ⟨rd,λp hp=>k _ _ (s1.trans (Xi hp)) ⟨p,ws,rfl,λz=>E1.avl p z hp,YH,l.same (Xi hp)⟩⟩⟩
  · rename_i xs
    cases e;obtain⟨v,r,rfl,⟨a,ws,rfl,na,rd,l⟩,h2⟩:=r1;cases(show r=[]from h2);exact⟨a,ws,rfl,.inr ⟨SqT.of rd,k _ H1 s1 ⟨a,ws,rfl,na,rd,l⟩⟩⟩
  · cases e
end
end DL
namespace DL
open PySem PySem.Spec L2
inductive Out where
 |nx (δ:Env)
 |rt (d:D)
 |bk (δ:Env)
 |ct (δ:Env)
def Zhi(G:Cn)(owN owB owC:List Nat)(H0:Hp)(av:Addr->Prop)(De:Ends):Out->Prop
 | .nx δ'=>∀A' σ' H',ER G owN H0 av A' σ' H' δ'->De.nx σ' H'
 | .rt d=>∀v H',Same H0 H'->Rep G.1 av H' d v->De.rt v H'
 | .bk δ'=>∀A' σ' H',ER G owB H0 av A' σ' H' δ'->De.bk σ' H'
 | .ct δ'=>∀A' σ' H',ER G owC H0 av A' σ' H' δ'->De.ct σ' H'
def VS(G:Cn)(ow owN owB owC:List Nat)(ts:TS)(φ:Env->Option Out):Prop:=
 ∀H0 av A σ H δ,ER G ow H0 av A σ H δ->∀o,φ δ=some o->∀De:Ends,Zhi G owN owB owC H0 av De o->ts De σ H
def VG(G:Cn)(ow ow':List Nat)(g:TG)(γ:D->Env->Option Env):Prop:=
 ∀H0 av A σ H δ,ER G ow H0 av A σ H δ->∀d v,Rep G.1 (AV av A) H d v->∀δ',γ d δ=some δ'->∀Q:L2.St->Hp->Prop,(∀A' σ' H',Same H H'->ER G ow' H0 av A' σ' H' δ'->Q σ' H')->g v σ H Q
def sub(a b:List Nat):Bool:=a.all λx=>b.contains x
theorem JU{a b:List Nat}(h:sub a b=true):∀x∈a,x∈b:=λx hx=>by
 have:=List.all_eq_true.mp h x hx;simpa using this
section
variable{cA:Kn}{G:Cn}{ow owN owB owC ow1 ow2:List Nat}{H0 H H':Hp}{av:Addr->Prop}{A:Nat->Option Addr}{σ:L2.St}{δ:Env}
theorem ZbW{α:Type}{l:List (Option α)}{i j:Nat}{x y:α}(h:(l.set i (some x))[j]? = some (some y)):(j=i/\y=x/\i<l.length)\/(j≠i/\l[j]? = some (some y)):=by
 by_cases e:j=i
 · subst e
   by_cases hl:j<l.length
   · rw [List.getElem?_set_self hl]at h
     exact .inl ⟨rfl,(Option.some.inj (Option.some.inj h)).symm,hl⟩
   · rw [List.getElem?_eq_none (by simpa using hl)]at h
     cases h
 · rw [List.getElem?_set_ne (Ne.symm e)]at h
   exact .inr ⟨e,h⟩
theorem ER.set{i:Nat}{d:D}{v:V}(E:ER G ow H0 av A σ H δ)(h:Rep G.1 (AV av A) H d v)(hw:∀j,j∈ow1 ↔ j∈ow/\j≠i)(hn:G.2 i=none) :
 ER G ow1 H0 av (λj=>if j=i then none else A j) (σ.set i (some v)) H (δ.set i (some d)):=by
 have less:∀b,AV av (λj=>if j=i then none else A j) b->AV av A b:=λb z=>by
  rcases z with z|⟨j,z⟩
  · exact .inl z
  · by_cases e:j=i
    · simp [e]at z
    · simp [e]at z;exact .inr ⟨j,z⟩
 refine⟨E.same,E.avd,λj a e => ?_,λj k a e1 e2 => ?_,λj a e => ?_,λj e => ?_,λj hj => ?_,by simp [E.len],λj a e=>(by
  have q:j≠i:=λz=>by rw [z,hn]at e;cases e
  simp only [q,if_false];exact E.pin j a e),(λj v' e=>by
  have q:j≠i:=λz=>by rw [z,hn]at e;cases e
  rw [List.getElem?_set_ne (Ne.symm q)];exact E.kept j v' e),λj d' e => ?_⟩
 · by_cases q:j=i
   · simp [q]at e
   · simp [q]at e;exact E.fr j a e
 · by_cases q:j=i
   · simp [q]at e1
   · by_cases q2:k=i
     · simp [q2]at e2
     · simp [q]at e1;simp [q2]at e2;exact E.inj j k a e1 e2
 · by_cases q:j=i
   · simp [q]at e
   · simp [q]at e;exact E.live j a e
 · by_cases q:j=i
   · simp [q]at e
   · simp [q]at e;exact(hw j).mpr ⟨E.dom j e,q⟩
 · obtain⟨h1,h2⟩:=(hw j).mp hj
   simp [h2];exact E.dom' j h1
 · rcases ZbW e with⟨rfl,rfl,hl⟩|⟨q,e'⟩
   · refine⟨v,?_,λ_=>h.av λb z => .inl (less b z),λa z=>by simp at z⟩
     rw [List.getElem?_set_self (by rw [E.len];exact hl)]
   · obtain⟨v',h1,h2,h3⟩:=E.var j d' e'
     refine⟨v',by rw [List.getElem?_set_ne (Ne.symm q)];exact h1,λz => ?_,λa z => ?_⟩
     · simp [q]at z
       exact(h2 z).av λb z => .inl (less b z)
     · simp [q]at z
       obtain⟨r1,r2⟩:=h3 a z;refine⟨r1,?_⟩;cases d' with
       |lst xs=>obtain⟨vs,q1,q2⟩:=r2;exact⟨vs,q1,q2.av λb z => .inl (less b z)⟩
       |obj c ks xs=>obtain⟨dx,vs,q1,q0,q2⟩:=r2;exact⟨dx,vs,q1,q0,q2.av λb z => .inl (less b z)⟩
       |dct ks xs=>obtain⟨vs,q1,q0,q2⟩:=r2;exact⟨vs,q1,q0,q2.av λb z => .inl (less b z)⟩
       |dtt ks xs=>obtain⟨vs,q1,q0,q2⟩:=r2;exact⟨vs,q1,q0,q2.av λb z => .inl (less b z)⟩
       |_=>exact r2
theorem ER.own{i:Nat}{xs:List D}{vs:List V}{p:Addr}(E:ER G ow H0 av A σ H δ)(hp:H p=none)(l:RepL G.1 (AV av A) H xs vs)(hw:∀j,j∈ow1 ↔ j∈ow\/j=i)(hn:G.2 i=none) :
 ER G ow1 H0 av (λj=>if j=i then some p else A j) (σ.set i (some (.ref p))) (upd H p (.lst vs)) (δ.set i (some (.lst xs))):=by
 have hs:Same H (upd H p (.lst vs)):=Xi hp
 have less:∀b,AV av (λj=>if j=i then some p else A j) b->AV av A b\/H b=none:=λb z=>by
  rcases z with z|⟨j,z⟩
  · exact .inl (.inl z)
  · by_cases e:j=i
    · simp [e]at z;subst z;exact .inr hp
    · simp [e]at z;exact .inl (.inr ⟨j,z⟩)
 have np:∀j a,A j=some a->a≠p:=λj a e z=>by subst z;exact E.live j a e hp
 have h0:H0 p=none:=by
  cases q:H0 p with
  |none=>rfl
  |some o=>rw [E.same p o q]at hp;cases hp
 refine⟨E.same.trans hs,E.avd,λj a e => ?_,λj k a e1 e2 => ?_,λj a e => ?_,λj e => ?_,λj hj => ?_,by simp [E.len],λj a e=>(by
  have q:j≠i:=λz=>by rw [z,hn]at e;cases e
  simp only [q,if_false];exact E.pin j a e),(λj v' e=>by
  have q:j≠i:=λz=>by rw [z,hn]at e;cases e
  rw [List.getElem?_set_ne (Ne.symm q)];exact E.kept j v' e),λj d' e => ?_⟩
 · by_cases q:j=i
   · simp [q]at e;subst e;exact h0
   · simp [q]at e;exact E.fr j a e
 · by_cases q:j=i
   · by_cases q2:k=i
     · rw [q,q2]
     · simp [q]at e1;simp [q2]at e2
       exact absurd e1.symm (np k a e2)
   · by_cases q2:k=i
     · simp [q]at e1;simp [q2]at e2
       exact absurd e2.symm (np j a e1)
     · simp [q]at e1;simp [q2]at e2;exact E.inj j k a e1 e2
 · by_cases q:j=i
   · simp [q]at e;subst e;rw [YH];exact λz=>by cases z
   · simp [q]at e
     rw [ZJ (np j a e)];exact E.live j a e
 · by_cases q:j=i
   · exact(hw j).mpr (.inr q)
   · simp [q]at e;exact(hw j).mpr (.inl (E.dom j e))
 · by_cases q:j=i
   · simp [q]
   · simp [q]
     exact E.dom' j (((hw j).mp hj).resolve_right q)
 · rcases ZbW e with⟨rfl,rfl,hl⟩|⟨q,e'⟩
   · refine⟨.ref p,?_,λz=>by simp at z,λa z => ?_⟩
     · rw [List.getElem?_set_self (by rw [E.len];exact hl)]
     · simp at z
       subst z;exact⟨rfl,vs,YH,(l.av less).same hs⟩
   · obtain⟨v',h1,h2,h3⟩:=E.var j d' e'
     refine⟨v',by rw [List.getElem?_set_ne (Ne.symm q)];exact h1,λz => ?_,λa z => ?_⟩
     · simp [q]at z
       exact((h2 z).av less).same hs
     · simp [q]at z
       obtain⟨r1,r2⟩:=h3 a z;refine⟨r1,?_⟩;cases d' with
       |lst xs=>obtain⟨vs',q1,q2⟩:=r2;exact⟨vs',hs _ _ q1,(q2.av less).same hs⟩
       |obj c ks xs=>obtain⟨dx,vs',q1,q0,q2⟩:=r2;exact⟨dx,vs',hs _ _ q1,q0,(q2.av less).same hs⟩
       |dct ks xs=>obtain⟨vs',q1,q0,q2⟩:=r2;exact⟨vs',hs _ _ q1,q0,(q2.av less).same hs⟩
       |dtt ks xs=>obtain⟨vs',q1,q0,q2⟩:=r2;exact⟨vs',hs _ _ q1,q0,(q2.av less).same hs⟩
       |_=>exact r2
theorem ER.put{i:Nat}{a:Addr}{d d':D}(E:ER G ow H0 av A σ H δ)(hi:A i=some a)(hd:δ[i]? = some (some d))(hk:∀b o,b≠a->H b=some o->H' b=some o)(hl:H' a≠none)(ho:Own G.1 (AV av A) H' d' a) :
 ER G ow H0 av A σ H' (δ.set i (some d')):=by
 have kk:∀b o,¬AV av A b->H b=some o->H' b=some o:=λb o n e=>hk b o (λz=>n (.inr ⟨i,by rw [z];exact hi⟩)) e
 refine⟨λb o e=>hk b o (λz => ?_) (E.same b o e),E.avd,E.fr,E.inj,λj b e => ?_,E.dom,E.dom',by simp [E.len],E.pin,E.kept,λj d'' e => ?_⟩
 · rw [z,E.fr i a hi]at e;cases e
 · by_cases q:b=a
   · subst q;exact hl
   · have:=E.live j b e
     cases e':H b with
     |none=>exact absurd e' this
     |some o=>rw [hk b o q e'];exact λz=>by cases z
 · rcases ZbW e with⟨rfl,rfl,hl'⟩|⟨q,e'⟩
   · obtain⟨v,h1,_,h3⟩:=E.var j d hd
     obtain⟨r1,_⟩:=h3 a hi
     exact⟨v,h1,λz=>(by rw [hi]at z;cases z),λb z=>by
      rw [hi]at z;cases z;exact⟨r1,ho⟩⟩
   · obtain⟨v',h1,h2,h3⟩:=E.var j d'' e'
     refine⟨v',h1,λz=>(h2 z).ext kk,λb z => ?_⟩;obtain⟨r1,r2⟩:=h3 b z;have nb:b≠a:=λw=>q (E.inj j i a (by rw [<-w];exact z) hi)
     refine⟨r1,?_⟩;cases d'' with
     |lst xs=>obtain⟨vs,q1,q2⟩:=r2;exact⟨vs,hk _ _ nb q1,q2.ext kk⟩
     |obj c ks xs=>obtain⟨dx,vs,q1,q0,q2⟩:=r2;exact⟨dx,vs,hk _ _ nb q1,q0,q2.ext kk⟩
     |dct ks xs=>obtain⟨vs,q1,q0,q2⟩:=r2;exact⟨vs,hk _ _ nb q1,q0,q2.ext kk⟩
     |dtt ks xs=>obtain⟨vs,q1,q0,q2⟩:=r2;exact⟨vs,hk _ _ nb q1,q0,q2.ext kk⟩
     |_=>exact r2
theorem ER.freeze(i:Nat)(E:ER G ow H0 av A σ H δ)(hw:∀j,j∈ow1 ↔ j∈ow/\j≠i)(hn:G.2 i=none):ER G ow1 H0 av (λj=>if j=i then none else A j) σ H δ:=by
 have less:∀b,AV av (λj=>if j=i then none else A j) b->AV av A b:=λb z=>by
  rcases z with z|⟨j,z⟩
  · exact .inl z
  · by_cases e:j=i
    · simp [e]at z
    · simp [e]at z;exact .inr ⟨j,z⟩
 refine⟨E.same,E.avd,λj a e => ?_,λj k a e1 e2 => ?_,λj a e => ?_,λj e => ?_,λj hj => ?_,E.len,λj a e=>(by
  have q:j≠i:=λz=>by rw [z,hn]at e;cases e
  simp only [q,if_false];exact E.pin j a e),E.kept,λj d' e => ?_⟩
 · by_cases q:j=i
   · simp [q]at e
   · simp [q]at e;exact E.fr j a e
 · by_cases q:j=i
   · simp [q]at e1
   · by_cases q2:k=i
     · simp [q2]at e2
     · simp [q]at e1;simp [q2]at e2;exact E.inj j k a e1 e2
 · by_cases q:j=i
   · simp [q]at e
   · simp [q]at e;exact E.live j a e
 · by_cases q:j=i
   · simp [q]at e
   · simp [q]at e;exact(hw j).mpr ⟨E.dom j e,q⟩
 · obtain⟨h1,h2⟩:=(hw j).mp hj
   simp [h2];exact E.dom' j h1
 · obtain⟨v',h1,h2,h3⟩:=E.var j d' e
   refine⟨v',h1,λz => ?_,λa z => ?_⟩
   · by_cases q:j=i
     · subst q
       cases hA:A j with
       |none=>exact(h2 hA).av λb z => .inl (less b z)
       |some a=>
        obtain⟨rfl,r2⟩:=h3 a hA
        have na:¬AV av (λk=>if k=j then none else A k) a:=λz=>by
         rcases z with z|⟨k,z⟩
         · exact E.avd a z (E.fr j a hA)
         · by_cases qk:k=j
           · simp [qk]at z
           · simp [qk]at z;exact qk (E.inj k j a z hA)
        cases d' with
        |lst xs=>obtain⟨vs,q1,q2⟩:=r2;unfold Rep;exact⟨a,vs,rfl,λz=>(na z).elim,SqL.of q1,q2.av λb z => .inl (less b z)⟩
        |obj c ks xs=>obtain⟨dx,vs,q1,q0,q2⟩:=r2;unfold Rep;exact⟨a,dx,vs,rfl,na,q1,q0,q2.av λb z => .inl (less b z)⟩
        |dct ks xs=>obtain⟨vs,q1,q0,q2⟩:=r2;unfold Rep;exact⟨a,vs,rfl,na,q1,q0,q2.av λb z => .inl (less b z)⟩
        |dtt ks xs=>obtain⟨vs,q1,q0,q2⟩:=r2;unfold Rep;exact⟨a,vs,rfl,na,q1,q0,q2.av λb z => .inl (less b z)⟩
        |_=>exact False.elim r2
     · simp [q]at z
       exact(h2 z).av λb z => .inl (less b z)
   · by_cases q:j=i
     · simp [q]at z
     · simp [q]at z
       obtain⟨r1,r2⟩:=h3 a z;refine⟨r1,?_⟩;cases d' with
       |lst xs=>obtain⟨vs,q1,q2⟩:=r2;exact⟨vs,q1,q2.av λb z => .inl (less b z)⟩
       |obj c ks xs=>obtain⟨dx,vs,q1,q0,q2⟩:=r2;exact⟨dx,vs,q1,q0,q2.av λb z => .inl (less b z)⟩
       |dct ks xs=>obtain⟨vs,q1,q0,q2⟩:=r2;exact⟨vs,q1,q0,q2.av λb z => .inl (less b z)⟩
       |dtt ks xs=>obtain⟨vs,q1,q0,q2⟩:=r2;exact⟨vs,q1,q0,q2.av λb z => .inl (less b z)⟩
       |_=>exact r2
open Classical in
noncomputable def cut(A:Nat->Option Addr)(H:Hp):Hp:=λb=>if ∃i,A i=some b then none else H b
theorem Zco{b:Addr}{o:HO}(h:cut A H b=some o):H b=some o/\¬∃i,A i=some b:=by
 unfold cut at h
 by_cases e:∃i,A i=some b
 · rw [if_pos e]at h;cases h
 · rw [if_neg e]at h;exact⟨h,e⟩
theorem Qj{b:Addr}(e:¬∃i,A i=some b):cut A H b=H b:=by
 unfold cut;rw [if_neg e]
theorem ER.cut(E:ER G ow H0 av A σ H δ):ER G ow (DL.cut A H) av A σ H δ:=by
 refine⟨λb o e=>(Zco e).1,λa z => ?_,λi a e => ?_,E.inj,E.live,E.dom,E.dom',E.len,E.pin,E.kept,E.var⟩
 · rw [Qj λ⟨i,e⟩=>E.avd a z (E.fr i a e)]
   exact E.avH a z
 · unfold DL.cut
   rw [if_pos ⟨i,e⟩]
theorem ER.sub0(E:ER G ow H0 av A σ H δ):Same H0 (DL.cut A H):=λb o e=>by
 rw [Qj λ⟨i,z⟩=>by rw [E.fr i b z]at e;cases e];exact E.same b o e
theorem ER.uncut{A':Nat->Option Addr}{σ':L2.St}{δ':Env}(E:ER G ow H0 av A σ H δ)(E':ER G ow1 (DL.cut A H) av A' σ' H' δ'):ER G ow1 H0 av A' σ' H' δ':=
 ⟨E.sub0.trans E'.same,E.avd,λi a e=>E.sub0.free (E'.fr i a e),E'.inj,E'.live,E'.dom,E'.dom',E'.len,E'.pin,E'.kept,E'.var⟩
def sNext(δ:Env):Option Out:=some (.nx δ)
theorem Yh:VS G ow ow owB owC tNext sNext:=λH0 av A σ H δ E o e De k=>by
 cases e;exact k A σ H E
def Zq(φ ψ:Env->Option Out)(δ:Env):Option Out:=match φ δ with
 |some (.nx δ')=>ψ δ'
 |r=>r
theorem ZI{t u:TS}{φ ψ:Env->Option Out}(h1:VS G ow ow1 owB owC t φ)(h2:VS G ow1 owN owB owC u ψ):VS G ow owN owB owC (Uv t u) (Zq φ ψ):=λH0 av A σ H δ E o e De k=>by
 unfold Zq at e;cases he:φ δ with
 |none=>rw [he]at e;cases e
 |some o1=>
  rw [he]at e;refine h1 H0 av A σ H δ E o1 he _ ?_;cases o1 with
  |nx δ'=>exact λA' σ' H' E'=>h2 H0 av A' σ' H' δ' E' o e De k
  |rt d=>cases e;exact k
  |bk δ'=>cases e;exact k
  |ct δ'=>cases e;exact k
def sIf(τ:Env->Option Bool)(φ ψ:Env->Option Out)(δ:Env):Option Out:=match τ δ with
 |some true=>φ δ
 |some false=>ψ δ
 |none=>none
theorem YS{c:TT}{t u:TS}{τ:Env->Option Bool}{φ ψ:Env->Option Out}(hc:VT G ow c τ)(h1:VS G ow owN owB owC t φ)(h2:VS G ow owN owB owC u ψ):VS G ow owN owB owC (Jz c t u) (sIf τ φ ψ):=λH0 av A σ H δ E o e De k=>by
 unfold sIf at e;cases he:τ δ with
 |none=>rw [he]at e;cases e
 |some b=>
  rw [he]at e;refine hc H0 av A σ H δ E b he _ λH' s => ?_
  cases b with
  |true=>exact Ua (h1 H0 av A σ H' δ (E.mono s) o e De k)
  |false=>exact V9 (h2 H0 av A σ H' δ (E.mono s) o e De k)
def Zy(ε:Env->Option D)(δ:Env):Option Out:=match ε δ with
 |some d=>some (.rt d)
 |none=>none
theorem YB{te:TE}{q:Ql}{ε:Env->Option D}(h:VE G ow te q ε):VS G ow owN owB owC (QJ te) (Zy ε):=λH0 av A σ H δ E o e De k=>by
 unfold Zy at e;cases he:ε δ with
 |none=>rw [he]at e;cases e
 |some d=>
  rw [he]at e;cases e;exact h H0 av A σ H δ E d he _ λv H' s r=>k v H' (E.same.trans s) r.any
def YC(_:Env):Option Out:=some (.rt .non)
def sNever(_:Env):Option Out:=none
theorem ZeV{ts:TS}:VS G ow owN owB owC ts sNever:=λH0 av A σ H δ E o e De k=>by cases e
def Zn(i:Nat)(ε:Env->Option D)(δ:Env):Option Out:=match ε δ with
 |some d=>some (.nx (δ.set i (some d)))
 |none=>none
theorem JV{i:Nat}(h1:sub ow1 ow=true)(h2:ow1.contains i=false)(h3:sub ow (i::ow1)=true):∀j,j∈ow1 ↔ j∈ow/\j≠i:=λj=>by
 constructor
 · intro h
   refine⟨JU h1 j h,λe => ?_⟩;subst e;have:j∉ow1:=by simpa using h2
   exact this h
 · rintro⟨h,n⟩
   rcases List.mem_cons.mp (JU h3 j h)with e|e
   · exact absurd e n
   · exact e
theorem ZeW{i:Nat}(h1:sub ow1 (i::ow)=true)(h2:ow1.contains i=true)(h3:sub ow ow1=true):∀j,j∈ow1 ↔ j∈ow\/j=i:=λj=>by
 constructor
 · intro h
   rcases List.mem_cons.mp (JU h1 j h)with e|e
   · exact .inr e
   · exact .inl e
 · rintro(h|rfl)
   · exact JU h3 j h
   · simpa using h2
theorem ZD{te:TE}{ε:Env->Option D}(i:Nat)(h:VE G ow te .cl ε)(hn:G.2 i=none:=by rfl)(h1:sub owN ow=true:=by rfl)(h2:owN.contains i=false:=by rfl)(h3:sub ow (i::owN)=true:=by rfl):VS G ow owN owB owC (V6 te (V5 i)) (Zn i ε):=λH0 av A σ H δ E o e De k=>by
 unfold Zn at e;cases he:ε δ with
 |none=>rw [he]at e;cases e
 |some d=>
  rw [he]at e;cases e;exact h H0 av A σ H δ E d he _ λv H' s r=>k _ _ H' ((E.mono s).set (RepT.r r) (JV h1 h2 h3) hn)
theorem JW{te:TE}{ε:Env->Option D}(i:Nat)(h:VF G ow te ε)(hn:G.2 i=none:=by rfl)(h1:sub owN (i::ow)=true:=by rfl)(h2:owN.contains i=true:=by rfl)(h3:sub ow owN=true:=by rfl):VS G ow owN owB owC (V6 te (V5 i)) (Zn i ε):=λH0 av A σ H δ E o e De k=>by
 unfold Zn at e;cases he:ε δ with
 |none=>rw [he]at e;cases e
 |some d=>
  rw [he]at e;cases e;refine h H0 av A σ H δ E d he _ λp vs xs H1 s hp l hd => ?_
  subst hd;exact k _ _ _ ((E.mono s).own hp l (ZeW h1 h2 h3) hn)
def Yc(ε:Env->Option D)(δ:Env):Option Out:=match ε δ with
 |some _=>some (.nx δ)
 |none=>none
theorem Zgx{te:TE}{q:Ql}{ε:Env->Option D}(h:VE G ow te q ε):VS G ow ow owB owC (VB te) (Yc ε):=λH0 av A σ H δ E o e De k=>by
 unfold Yc at e;cases he:ε δ with
 |none=>rw [he]at e;cases e
 |some d=>
  rw [he]at e;cases e;exact h H0 av A σ H δ E d he _ λv H' s r=>k A σ H' (E.mono s)
theorem VS.frz{t:TS}{φ:Env->Option Out}(i:Nat)(h:VS G ow1 owN owB owC t φ)(hn:G.2 i=none:=by rfl)(h1:sub ow1 ow=true:=by rfl)(h2:ow1.contains i=false:=by rfl)(h3:sub ow (i::ow1)=true:=by rfl):VS G ow owN owB owC t φ:=λH0 av A σ H δ E o e De k=>
 h H0 av _ σ H δ (E.freeze i (JV h1 h2 h3) hn) o e De k
theorem VS.frzN{t:TS}{φ:Env->Option Out}(i:Nat)(h:VS G ow owN owB owC t φ)(hn:G.2 i=none)(h1:sub ow1 owN=true)(h2:ow1.contains i=false)(h3:sub owN (i::ow1)=true):VS G ow ow1 owB owC t φ:=λH0 av A σ H δ E o e De k=>
 h H0 av A σ H δ E o e De (by
  cases o with
  |nx δ'=>exact λA' σ' H' E'=>k _ σ' H' (E'.freeze i (JV h1 h2 h3) hn)
  |rt d=>exact k
  |bk δ'=>exact k
  |ct δ'=>exact k)
def ZR(i:Nat)(d:D)(δ:Env):Option Env:=some (δ.set i (some d))
theorem XF(i:Nat)(hi:ow.contains i=false:=by rfl)(hn:G.2 i=none:=by rfl):VG G ow ow (V5 i) (ZR i):=λH0 av A σ H δ E d v r δ' e Q k=>by
 cases e
 exact k _ _ H (Same.refl H) (E.set r (λj=>by
  have:i∉ow:=by simpa using hi
  exact⟨λh=>⟨h,λz=>this (z▸h)⟩,λh=>h.1⟩) hn)
def VGs(G:Cn)(ow ow':List Nat)(g:TGs)(γ:List D->Env->Option Env):Prop:=
 ∀H0 av A σ H δ,ER G ow H0 av A σ H δ->∀ds vs,RepL G.1 (AV av A) H ds vs->∀δ',γ ds δ=some δ'->∀Q:L2.St->Hp->Prop,(∀A' σ' H',Same H H'->(∀b,AV av A' b->AV av A b)->ER G ow' H0 av A' σ' H' δ'->Q σ' H')->g vs σ H Q
def gsNil(ds:List D)(δ:Env):Option Env:=match ds with
 | []=>some δ
 |_=>none
theorem Zgy:VGs G ow ow gNil gsNil:=λH0 av A σ H δ E ds vs r δ' e Q k=>by
 cases ds with
 |nil=>cases e;exact⟨r.nil_of,k A σ H (Same.refl H) (λ_ z=>z) E⟩
 |cons _ _=>cases e
def Zdc(i:Nat)(γs:List D->Env->Option Env)(ds:List D)(δ:Env):Option Env:=match ds with
 |d::r=>γs r (δ.set i (some d))
 | []=>none
theorem Zcp{gs:TGs}{γs:List D->Env->Option Env}(i:Nat)(hi:ow.contains i=false)(hn:G.2 i=none)(h:VGs G ow ow gs γs):VGs G ow ow (Zhc (V5 i) gs) (Zdc i γs):=λH0 av A σ H δ E ds vs r δ' e Q k=>by
 cases ds with
 |nil=>cases e
 |cons d ds=>
  obtain⟨v,vr,rfl,r1,r2⟩:=r.uncons;refine⟨v,vr,rfl,?_⟩
  have less:∀b,AV av (λj=>if j=i then none else A j) b->AV av A b:=λb z=>by
   rcases z with z|⟨j,z⟩
   · exact .inl z
   · by_cases e:j=i
     · simp [e]at z
     · simp [e]at z;exact .inr ⟨j,z⟩
  have E1:ER G ow H0 av (λj=>if j=i then none else A j) (σ.set i (some v)) H (δ.set i (some d)):=E.set r1 (λj=>by
   have:i∉ow:=by simpa using hi
   exact⟨λh=>⟨h,λz=>this (z▸h)⟩,λh=>h.1⟩) hn
  exact h H0 av _ _ H _ E1 ds vr (r2.av λb z => .inl (less b z)) δ' e Q λA' σ' H' s l E'=>k A' σ' H' s (λb z=>less b (l b z)) E'
def Zf7(n:Nat)(γs:List D->Env->Option Env)(d:D)(δ:Env):Option Env:=match d with
 | .tup ds=>if ds.length=n then γs ds δ else none
 |_=>none
theorem Zh3{K:PySem.W.Frag}{n:Nat}{gs:TGs}{γs:List D->Env->Option Env}(h:VGs G ow ow gs γs):VG G ow ow (Zi1 K n gs) (Zf7 n γs):=λH0 av A σ H δ E d v r δ' e Q k=>by
 cases d<;>first|(cases e;done)|skip
 rename_i ds;dsimp only [Zf7]at e
 by_cases hz:ds.length=n
 · rw [if_pos hz]at e
   unfold Rep at r;obtain⟨a,vs,rfl,_,rd,l⟩:=r;exact⟨a,vs,rfl,SqT.of rd,by rw [<-l.length];exact hz,h H0 av A σ H δ E ds vs l δ' e Q λA' σ' H' s _ E'=>k A' σ' H' s E'⟩
 · rw [if_neg hz]at e;cases e
def UF(cA:Kn)(iv:Addr->Prop)(J:It)(xs:List D)(H0:Hp):Prop:=∀H,Same H0 H ->
 (∀i,i<xs.length->J.go i H) /\
 (∀(i:Nat)x v H',xs[i]? = some x->J.yld i H v H'->Same H H'/\∀av':Addr->Prop,(∀b,av' b->H b≠none)->(∀b,av' b->iv b\/H0 b=none)->Rep cA av' H' x v) /\
 (∀i,xs.length<=i->J.stop i H)
def VI(G:Cn)(ow:List Nat)(wi:TI)(ι:Env->Option (List D)):Prop:=
 ∀H0 av A σ H δ,ER G ow H0 av A σ H δ->∀xs,ι δ=some xs->∀R:It->Hp->Prop,(∀J H1,Same H H1->UF G.1 (AV av A) J xs (DL.cut A H1)->R J H1)->wi σ H R
def Vr(γ:D->Env->Option Env)(φ:Env->Option Out):List D->Env->Option Out
 | [],δ=>some (.nx δ)
 |x::r,δ=>match γ x δ with
  |none=>none
  |some δ1=>match φ δ1 with
   |none=>none
   |some (.nx δ2)=>Vr γ φ r δ2
   |some (.ct δ2)=>Vr γ φ r δ2
   |some (.bk δ2)=>some (.nx δ2)
   |some (.rt d)=>some (.rt d)
def UG(ι:Env->Option (List D))(γ:D->Env->Option Env)(φ:Env->Option Out)(δ:Env):Option Out:=match ι δ with
 |some xs=>Vr γ φ xs δ
 |none=>none
theorem Zdd{wi:TI}{g:TG}{tb:TS}{ι:Env->Option (List D)}{γ:D->Env->Option Env}{φ:Env->Option Out}(hi:VI G ow wi ι)(hg:VG G ow ow g γ)(hb:VS G ow ow ow ow tb φ):VS G ow ow owB owC (Zk1 wi g tb) (UG ι γ φ):=λH0 av A σ H δ E o e De k=>by
 unfold UG at e;cases he:ι δ with
 |none=>rw [he]at e;cases e
 |some xs=>
  rw [he]at e;have e:Vr γ φ xs δ=some o:=e;refine hi H0 av A σ H δ E xs he _ λJ H1 s1 W => ?_
  have E1:=E.mono s1;refine⟨λi m σ' H'=>m=xs.length-i/\i<=xs.length/\∃A' δ',ER G ow (DL.cut A H1) av A' σ' H' δ'/\Vr γ φ (xs.drop i) δ'=some o,⟨xs.length,by simp,Nat.zero_le _,A,δ,E1.cut,e⟩,?_⟩
  rintro i m σ' H' ⟨rfl,hle,A',δ',E',e'⟩
  obtain⟨w1,w2,w3⟩:=W H' E'.same
  by_cases hlt:i<xs.length
  · refine .inr ⟨w1 i hlt,λσ2 H2=>∃A2 δ2,ER G ow (DL.cut A H1) av A2 σ2 H2 δ2/\Vr γ φ (xs.drop (i+1)) δ2=some o,λσ2 H2 ⟨A2,δ2,E2,e2⟩=>⟨xs.length-(i+1),by omega,rfl,hlt,A2,δ2,E2,e2⟩,λv H2 y => ?_⟩
    have hx:xs[i]? = some xs[i]:=List.getElem?_eq_getElem hlt;obtain⟨s2,rep⟩:=w2 i _ v H2 hx y;have E2:=E'.mono s2
    have rep':Rep G.1 (AV av A') H2 xs[i] v:=rep _ E'.avl λb z=>by
     rcases z with z|⟨j,z⟩
     · exact .inl (.inl z)
     · exact .inr (E'.fr j b z)
    rw [List.drop_eq_getElem_cons hlt]at e';unfold Vr at e';cases hγ:γ xs[i] δ' with
    |none=>rw [hγ]at e';cases e'
    |some δ1=>
     rw [hγ]at e';dsimp only at e';refine hg _ av A' σ' H2 δ' E2 _ v rep' δ1 hγ _ λA3 σ3 H3 s3 E3 => ?_
     cases hφ:φ δ1 with
     |none=>rw [hφ]at e';cases e'
     |some o1=>
      rw [hφ]at e';refine hb _ av A3 σ3 H3 δ1 E3 o1 hφ _ ?_;cases o1 with
      |nx δ2=>exact λA4 σ4 H4 E4=>⟨A4,δ2,E4,e'⟩
      |ct δ2=>exact λA4 σ4 H4 E4=>⟨A4,δ2,E4,e'⟩
      |bk δ2=>cases e';exact λA4 σ4 H4 E4=>k A4 σ4 H4 (E1.uncut E4)
      |rt d=>cases e';exact λv H4 s4 r4=>k v H4 (E1.sub0.trans s4) r4
  · have ei:i=xs.length:=by omega
    subst ei;rw [List.drop_length]at e';cases e';exact .inl ⟨w3 _ (Nat.le_refl _),k A' σ' H' (E1.uncut E')⟩
open Classical in
end
end DL
namespace DL
open PySem PySem.Spec L2
section
variable{cA:Kn}{G:Cn}{ow owN owB owC:List Nat}
def XX(ε:Env->Option D)(δ:Env):Option (List D):=match ε δ with
 |some (.lst xs)=>some xs
 |some (.tup xs)=>some xs
 |some (.str cs)=>some (cs.map λc => .str [c])
 |_=>none
theorem Rep.cut{av:Addr->Prop}{A:Nat->Option Addr}{H:Hp}{d:D}{v:V}(h:Rep cA (AV av A) H d v):Rep cA (AV av A) (DL.cut A H) d v:=h.ext λb o n e=>by
 rw [Qj λ⟨i,z⟩=>n (.inr ⟨i,z⟩)];exact e
theorem RepL.cut{av:Addr->Prop}{A:Nat->Option Addr}{H:Hp}{d:List D}{v:List V}(h:RepL cA (AV av A) H d v):RepL cA (AV av A) (DL.cut A H) d v:=h.ext λb o n e=>by
 rw [Qj λ⟨i,z⟩=>n (.inr ⟨i,z⟩)];exact e
theorem ZcX{iv:Addr->Prop}{H0:Hp}{a:Addr}{vs:List V}{xs:List D}(rd:SqL cA.K H0 a vs)(l:RepL cA iv H0 xs vs):UF cA iv (Itl cA.K a) xs H0:=λH s=>by
 have rd':SqL cA.K H a vs:=s.seq rd;refine⟨λi hi => ?_,λi x v H' hx y => ?_,λi hi=>⟨vs,rd',by rw [<-l.length];exact hi⟩⟩
 · obtain⟨v,hv,_⟩:=l.get (List.getElem?_eq_getElem hi)
   exact⟨vs,v,rd',hv⟩
 · obtain⟨rfl,hy⟩:=y
   obtain⟨v',hv,r⟩:=l.get hx;rw [hy vs rd']at hv;cases hv;exact⟨Same.refl _,λav' _ h2=>(r.av h2).same s⟩
theorem Zeg{K:PySem.W.Frag}{iv:Addr->Prop}{H0:Hp}{a:Addr}{vs:List V}{xs:List D}(rd:H0 a=some (.tup vs))(l:RepL cA iv H0 xs vs):UF cA iv (Itt K a) xs H0:=λH s=>by
 have rd':SqT K H a vs:=SqT.of (s _ _ rd);refine⟨λi hi => ?_,λi x v H' hx y => ?_,λi hi=>⟨vs,rd',by rw [<-l.length];exact hi⟩⟩
 · obtain⟨v,hv,_⟩:=l.get (List.getElem?_eq_getElem hi)
   exact⟨vs,v,rd',hv⟩
 · obtain⟨rfl,hy⟩:=y
   obtain⟨v',hv,r⟩:=l.get hx;rw [hy vs rd']at hv;cases hv;exact⟨Same.refl _,λav' _ h2=>(r.av h2).same s⟩
theorem Zeh{iv:Addr->Prop}{H0:Hp}{cs:List Nat}:UF cA iv (Its cs) (cs.map λc => .str [c]) H0:=λH s=>by
 refine⟨λi hi=>(show i<cs.length by simpa using hi),λi x v H' hx y => ?_,λi hi=>(show cs.length<=i by simpa using hi)⟩;obtain⟨rfl,c,hc,rfl⟩:=y;rw [List.getElem?_map,hc]at hx;cases hx;exact⟨Same.refl _,λ_ _ _=>rfl⟩
theorem UH{tl:TE}{ε:Env->Option D}(h:VE G ow tl .cl ε):VI G ow (Zi8 G.1.K tl) (XX ε):=λH0 av A σ H δ E xs e R k=>by
 unfold XX at e;cases he:ε δ with
 |none=>rw [he]at e;cases e
 |some d=>
  rw [he]at e;refine h H0 av A σ H δ E d he _ λv H1 s r => ?_
  cases d<;>first|(cases e;done)|skip
  · cases e
    exact .inr (.inr ⟨_,r,k _ H1 s Zeh⟩)
  · cases e
    obtain⟨a,vs,rfl,na,rd,l⟩:=r;exact .inl ⟨a,vs,rfl,rd,k _ H1 s (ZcX (ZfL na rd λb o n e=>by rw [Qj λ⟨i,z⟩=>n (.inr ⟨i,z⟩)];exact e) l.cut)⟩
  · cases e
    obtain⟨a,vs,rfl,na,rd,l⟩:=r;exact .inr (.inl ⟨a,vs,rfl,SqT.of rd,k _ H1 s (Zeg (by rw [Qj λ⟨i,z⟩=>na (.inr ⟨i,z⟩)];exact rd) l.cut)⟩)
def YT(lo c:Int)(n:Nat):List D:=(List.range n).map λk => .int (lo+(k:Nat)*c)
theorem Zei{iv:Addr->Prop}{H0:Hp}{lo:Int}{n:Nat}:UF cA iv (Itr lo n) (YT lo 1 n) H0:=λH s=>by
 refine⟨λi hi=>(show i<n by simpa [YT]using hi),λi x v H' hx y => ?_,λi hi=>(show n<=i by simpa [YT]using hi)⟩;obtain⟨rfl,rfl⟩:=y;have hi:i<n:=by have:=(List.getElem?_eq_some_iff.mp hx).1;simpa [YT]using this
 have:x = .int (lo+i):=by
  unfold YT at hx;rw [List.getElem?_map,List.getElem?_range hi]at hx;have:=Option.some.inj hx;rw [<-this];show D.int (lo+(i:Int)*1)=_;rw [Int.mul_one]
 subst this;exact⟨Same.refl _,λ_ _ _=>rfl⟩
theorem ZcY{iv:Addr->Prop}{H0:Hp}{lo c:Int}{n:Nat}:UF cA iv (Zjb lo c n) (YT lo c n) H0:=λH s=>by
 refine⟨λi hi=>(show i<n by simpa [YT]using hi),λi x v H' hx y => ?_,λi hi=>(show n<=i by simpa [YT]using hi)⟩;obtain⟨rfl,rfl⟩:=y;have hi:i<n:=by have:=(List.getElem?_eq_some_iff.mp hx).1;simpa [YT]using this
 have:x = .int (lo+i*c):=by
  unfold YT at hx;rw [List.getElem?_map,List.getElem?_range hi]at hx;exact(Option.some.inj hx).symm
 subst this;exact⟨Same.refl _,λ_ _ _=>rfl⟩
def YQ(α:Env->Option (List D))(δ:Env):Option (List D):=match α δ with
 |some [.int j]=>if -(2 ^ 62)<=j/\j<2 ^ 62 then some (YT 0 1 j.toNat)else none
 |some [.int i,.int j]=>if -(2 ^ 62)<=i/\i<2 ^ 62 /\ -(2 ^ 62)<=j/\j<2 ^ 62 then some (YT i 1 (j-i).toNat)else none
 |some [.int i,.int j,.int c]=>if c≠0/\c.natAbs<1073741824/\Builtin.Range.small i j c=true then some (YT i c (Builtin.Range.rangeSize i j c).toNat)else none
 |_=>none
theorem ql1{av:Addr->Prop}{A:Nat->Option Addr}{H:Hp}{q:Ql}{x:Int}{vs:List V}(h:RepQL cA av A H q [.int x] vs):vs=[.int x]:=by
 obtain⟨v,r,rfl,h1,h2⟩:=h;have:=h1.any;cases(show v=_ from this);cases(show r=[]from h2);rfl
theorem ql2{av:Addr->Prop}{A:Nat->Option Addr}{H:Hp}{q:Ql}{x y:Int}{vs:List V}(h:RepQL cA av A H q [.int x,.int y] vs):vs=[.int x,.int y]:=by
 obtain⟨v,r,rfl,h1,h2⟩:=h;have:=h1.any;cases(show v=_ from this);rw [ql1 h2]
theorem ql3{av:Addr->Prop}{A:Nat->Option Addr}{H:Hp}{q:Ql}{x y z:Int}{vs:List V}(h:RepQL cA av A H q [.int x,.int y,.int z] vs):vs=[.int x,.int y,.int z]:=by
 obtain⟨v,r,rfl,h1,h2⟩:=h;have:=h1.any;cases(show v=_ from this);rw [ql2 h2]
theorem UI{ta:TA}{q:Ql}{a:Env->Option (List D)}(h:VA G ow ta q a)(hl:∀δ ds,a δ=some ds->ds.length=1):VI G ow (Zhd ta) (YQ a):=λH0 av A σ H δ E xs e R k=>by
 unfold YQ at e;cases he:a δ with
 |none=>rw [he]at e;cases e
 |some ds=>
  rw [he]at e;refine h H0 av A σ H δ E ds he _ λvs H1 s r => ?_
  have hln:=hl δ ds he
  split at e
  · rename_i j he2
    cases he2
    by_cases hz : -(2 ^ 62)<=j/\j<2 ^ 62
    · rw [if_pos hz]at e
      cases e;exact⟨j,ql1 r,hz.1,hz.2,k _ H1 s Zei⟩
    · rw [if_neg hz]at e;cases e
  · rename_i he2;cases he2;simp at hln
  · rename_i he2;cases he2;simp at hln
  · cases e
theorem Zgz{ta:TA}{q:Ql}{a:Env->Option (List D)}(h:VA G ow ta q a)(hl:∀δ ds,a δ=some ds->ds.length=3):VI G ow (Zhh ta) (YQ a):=λH0 av A σ H δ E xs e R k=>by
 unfold YQ at e;cases he:a δ with
 |none=>rw [he]at e;cases e
 |some ds=>
  rw [he]at e;refine h H0 av A σ H δ E ds he _ λvs H1 s r => ?_
  have hln:=hl δ ds he
  split at e
  · rename_i he2;cases he2;simp at hln
  · rename_i he2;cases he2;simp at hln
  · rename_i i j c he2
    cases he2
    by_cases hz:c≠0/\c.natAbs<1073741824/\Builtin.Range.small i j c=true
    · rw [if_pos hz]at e
      cases e;exact⟨i,j,c,ql3 r,hz,k _ H1 s ZcY⟩
    · rw [if_neg hz]at e;cases e
  · cases e
theorem ZgA{δ:Env}{ds:List D}(h:eNil δ=some ds):ds.length=0:=by cases h;rfl
theorem Zbc{a:Env->Option D}{r:Env->Option (List D)}{n:Nat}(hr:∀δ ds,r δ=some ds->ds.length=n):∀δ ds,Zb a r δ=some ds->ds.length=n+1:=λδ ds h=>by
 unfold Zb at h;cases ha:a δ with
 |none=>rw [ha]at h;cases h
 |some x=>
  rw [ha]at h;cases hr':r δ with
  |none=>rw [hr']at h;cases h
  |some xs=>rw [hr']at h;cases h;rw [List.length_cons,hr δ xs hr']
theorem Uc{a:Env->Option D}:∀δ ds,Zb a eNil δ=some ds->ds.length=1:=Zbc λ_ _=>ZgA
theorem Zlq{a b:Env->Option D}:∀δ ds,Zb a (Zb b eNil) δ=some ds->ds.length=2:=Zbc Uc
theorem Zlr{a b c:Env->Option D}:∀δ ds,Zb a (Zb b (Zb c eNil)) δ=some ds->ds.length=3:=Zbc Zlq
def X8(n:Nat)(δ:Env)(js:List Nat):Env:=List.replicate n none++js.map λj=>(δ[j]?).getD none
def YZ(γ:D->Env->Option Env)(τ:Env->Option Bool)(ε:Env->Option D)(δ0:Env):List D->Option (List D)
 | []=>some []
 |x::r=>match γ x δ0 with
  |none=>none
  |some δ1=>match τ δ1 with
   |none=>none
   |some false=>YZ γ τ ε δ0 r
   |some true=>match ε δ1 with
    |none=>none
    |some y=>match YZ γ τ ε δ0 r with
     |none=>none
     |some ys=>some (y::ys)
def YN(ι:Env->Option (List D))(γ:D->Env->Option Env)(τ:Env->Option Bool)(ε:Env->Option D)(n:Nat)(js:List Nat)(δ:Env):Option D:=match ι δ with
 |none=>none
 |some xs=>match YZ γ τ ε (X8 n δ js) xs with
  |none=>none
  |some ys=>if ys.length<=sizeLine then some (.lst ys)else none
theorem ER.blk{H0 H:Hp}{av:Addr->Prop}{A:Nat->Option Addr}{σ:L2.St}{δ:Env}(n:Nat)(js:List Nat)(hjs:js.all (λj => !ow.contains j)=true)(E:ER G ow H0 av A σ H δ) :
 ER ⟨G.1,λ_=>none⟩ [] H (AV av A) (λ_=>none) (L2.blk n σ js) H (X8 n δ js):=by
 refine⟨Same.refl H,E.avl,λ_ _ z=>(by cases z),λ_ _ _ z=>(by cases z),λ_ _ z=>(by cases z),λ_ z=>absurd rfl z,λ_ z=>(by cases z),?_,λ_ _ z=>(by cases z),λ_ _ z=>(by cases z),λi d e => ?_⟩
 · unfold L2.blk X8 QQ
   rw [List.length_append,List.length_append,List.length_replicate,List.length_replicate,List.length_map,List.length_map]
 · unfold X8 at e
   by_cases hi:i<n
   · rw [List.getElem?_append_left (by simpa using hi),List.getElem?_replicate,if_pos hi]at e
     cases e
   · rw [List.getElem?_append_right (by simpa using hi),List.length_replicate,List.getElem?_map]at e
     cases hj:js[i-n]? with
     |none=>rw [hj]at e;cases e
     |some j=>
      rw [hj]at e;have e':(δ[j]?).getD none=some d:=Option.some.inj e
      have e2:δ[j]? = some (some d):=by
       cases q:δ[j]? with
       |none=>rw [q]at e';cases e'
       |some z=>rw [q]at e';exact congrArg some e'
      obtain⟨v,h1,h2,_⟩:=E.var j d e2
      have hjo:A j=none:=by
       cases q:A j with
       |none=>rfl
       |some a=>
        have h3:=E.dom j (by rw [q];exact λz=>by cases z);have h4:=List.all_eq_true.mp hjs j (List.mem_of_getElem? hj);simp at h4;exact absurd h3 h4
      refine⟨v,?_,λ_=>(h2 hjo).av λb z => ?_,λ_ z=>(by cases z)⟩
      · unfold L2.blk QQ
        rw [List.getElem?_append_right (by simpa using hi),List.length_replicate,List.getElem?_map,hj];show some ((σ[j]?).getD none)=_;rw [h1];rfl
      · rcases z with z|⟨_,z⟩
        · exact .inl z
        · cases z
theorem XY {wi:TI} {g:TG} {tt:TT} {te:TE} {n:Nat} {js:List Nat} {ι:Env->Option (List D)} {γ:D->Env->Option Env} {τ:Env->Option Bool} {ε:Env->Option D}
 (hjs:js.all (λj => !ow.contains j)=true) (hi:VI G ow wi ι) (hg:VG ⟨G.1,λ_=>none⟩ [] [] g γ) (ht:VT ⟨G.1,λ_=>none⟩ [] tt τ) (he:VE ⟨G.1,λ_=>none⟩ [] te .cl ε):VF G ow (Zf3 wi g tt te n js) (YN ι γ τ ε n js):=λH0 av A σ H δ E d e Q k=>by
 unfold YN at e;cases hι:ι δ with
 |none=>rw [hι]at e;cases e
 |some xs=>
  rw [hι]at e;dsimp only at e;cases hc:YZ γ τ ε (X8 n δ js) xs with
  |none=>rw [hc]at e;cases e
  |some full=>
   rw [hc]at e;dsimp only at e
   by_cases hz:full.length<=sizeLine
   · rw [if_pos hz]at e
     have ed:D.lst full=d:=Option.some.inj e;refine hi H0 av A σ H δ E xs hι _ λJ H1 s1 W => ?_
     have E1:=E.mono s1
     refine⟨λi m ys H'=>m=xs.length-i/\i<=xs.length/\Same H1 H'/\∃done rest,RepL G.1 (AV av A) H' done ys/\YZ γ τ ε (X8 n δ js) (xs.drop i)=some rest/\done++rest=full,
      ⟨xs.length,by simp,Nat.zero_le _,Same.refl _,[],full,.nil,hc,rfl⟩,?_⟩
     rintro i m ys H' ⟨rfl,hle,s',done,rest,rl,hr,hf⟩
     have E':=E1.mono s';have sc:Same (DL.cut A H1) H':=λb o z=>s' b o (Zco z).1
     obtain⟨w1,w2,w3⟩:=W H' sc
     by_cases hlt:i<xs.length
     · refine .inr ⟨w1 i hlt,λv H2 y => ?_⟩
       have hx:xs[i]? = some xs[i]:=List.getElem?_eq_getElem hlt;obtain⟨s2,rep⟩:=w2 i _ v H2 hx y;have rep':Rep G.1 (AV av A) H2 xs[i] v:=rep _ E'.avl λb z => .inl z
       have E2:=E'.mono s2;have EB:ER ⟨G.1,λ_=>none⟩ [] H2 (AV av A) (λ_=>none) (L2.blk n σ js) H2 (X8 n δ js):=E2.blk n js hjs
       have triv:∀(A':Nat->Option Addr){σ':L2.St}{H3:Hp}{δ':Env},ER ⟨G.1,λ_=>none⟩ [] H2 (AV av A) A' σ' H3 δ'->∀b,AV (AV av A) A' b ↔ AV av A b:=λA' {σ' H3 δ'} E3 b=>by
        constructor
        · rintro(z|⟨j,z⟩)
          · exact z
          · have:=E3.dom j (by rw [z];exact λz=>by cases z)
            cases this
        · exact λz => .inl z
       rw [List.drop_eq_getElem_cons hlt]at hr;unfold YZ at hr;cases hγ:γ xs[i] (X8 n δ js)with
       |none=>rw [hγ]at hr;cases hr
       |some δ1=>
        rw [hγ]at hr;dsimp only at hr;refine hg _ _ _ _ H2 _ EB _ v (rep'.av λb z => .inl ((triv _ EB b).mp z)) δ1 hγ _ λA3 σ3 H3 s3 E3 => ?_
        cases hτ:τ δ1 with
        |none=>rw [hτ]at hr;cases hr
        |some c=>
         rw [hτ]at hr;refine ht _ _ A3 σ3 H3 δ1 E3 c hτ _ λH4 s4 => ?_
         have E4:=E3.mono s4;cases c with
         |false=>
          exact V9 ⟨xs.length-(i+1),by omega,rfl,hlt,(s'.trans s2).trans (s3.trans s4),done,rest,rl.same ((s2.trans s3).trans s4),hr,hf⟩
         |true=>
          dsimp only at hr;cases hε:ε δ1 with
          |none=>rw [hε]at hr;cases hr
          |some yd=>
           rw [hε]at hr;dsimp only at hr;cases hr':YZ γ τ ε (X8 n δ js) (xs.drop (i+1))with
           |none=>rw [hr']at hr;cases hr
           |some rest'=>
            rw [hr']at hr;have hrr:yd::rest'=rest:=Option.some.inj hr;subst hrr;refine Ua (he _ _ A3 σ3 H4 δ1 E4 yd hε _ λvy H5 s5 r5 => ?_);have sall:Same H' H5:=((s2.trans s3).trans s4).trans s5;refine⟨?_,xs.length-(i+1),by omega,rfl,hlt,s'.trans sall,done++[yd],rest',(rl.same sall).append (.cons ((RepT.r r5).av λb z => .inl ((triv _ E4 b).mpr z)) .nil),hr',by rw [<-hf];simp⟩
            have:=congrArg List.length hf;rw [List.length_append,List.length_cons]at this;have:=rl.length;omega
     · have ei:i=xs.length:=by omega
       subst ei;rw [List.drop_length]at hr;cases hr;refine .inl ⟨w3 _ (Nat.le_refl _),λp hp=>k p ys full H' (s1.trans s') hp (by rw [<-hf,List.append_nil];exact rl) ed.symm⟩
   · rw [if_neg hz]at e;cases e
def spD(cA:Kn)(n:Nat)(m:List D->Option D):Sp:=λvs H Q _=>∃av ds d,(∀a,av a->H a≠none)/\RepL cA av H ds vs/\ds.length=n/\m ds=some d/\∀v H',Same H H'->Rep cA av H' d v->Q v H'
def Zs(n:Nat)(m:List D->Option D)(dds:List D)(α:Env->Option (List D))(δ:Env):Option D:=match α δ with
 |some ds=>if(ds++dds).length=n then m (ds++dds)else none
 |none=>none
def Ql.cq:Ql->Ql
 | .cl => .cl
 |_ => .dt
theorem YJ{n:Nat}{m:List D->Option D}{t:TA}{q:Ql}{α:Env->Option (List D)}{E0:XK}(dds:List D)(hd:dds.all ZC=true)(h:VA G ow t q α):VE G ow (X5 (spD G.1 n m) (dds.map val) E0 t) q.cq (Zs n m dds α):=λH0 av A σ H δ E d e Q k=>by
 unfold Zs at e;cases he:α δ with
 |none=>rw [he]at e;cases e
 |some ds=>
  rw [he]at e;dsimp only at e
  by_cases hz:(ds++dds).length=n
  · rw [if_pos hz]at e
    refine h H0 av A σ H δ E ds he _ λvs H1 s1 r1 => ?_
    have E1:=E.mono s1;cases q with
    |cl=>exact⟨AV av A,ds++dds,d,E1.avl,r1.cl.append (.of_vals hd),hz,e,λv H' s r=>k v H' (s1.trans s) r.t⟩
    |tp=>exact⟨av,ds++dds,d,E1.avH,r1.any.append (.of_vals hd),hz,e,λv H' s r=>k v H' (s1.trans s) r.t⟩
    |dt=>exact⟨av,ds++dds,d,E1.avH,r1.any.append (.of_vals hd),hz,e,λv H' s r=>k v H' (s1.trans s) r.t⟩
  · rw [if_neg hz]at e;cases e
def run(N:Nat)(φ:Env->Option Out)(ds:List D):Option D:=match φ (ds.map some++List.replicate (N-ds.length) none)with
 |some (.rt d)=>some d
 |some (.nx _)=>some .non
 |_=>none
theorem Zej{N:List Str}{ds:List D}{vs:List V}{av:Addr->Prop}{H:Hp}(r:RepL cA av H ds vs){i:Nat}{d:D}(h:(ds.map some++List.replicate (N.length-ds.length) none)[i]? = some (some d)) :
 ∃v,(L2.start N vs)[i]? = some (some v)/\Rep cA av H d v:=by
 by_cases hi:i<ds.length
 · rw [List.getElem?_append_left (by simpa using hi),List.getElem?_map]at h
   cases hd:ds[i]? with
   |none=>rw [hd]at h;cases h
   |some x=>
    rw [hd]at h;cases h;obtain⟨v,hv,rv⟩:=r.get hd;refine⟨v,?_,rv⟩;unfold L2.start;have:i<vs.length:=by rw [<-r.length];exact hi
    rw [List.getElem?_append_left (by simpa using this),List.getElem?_map,hv];rfl
 · rw [List.getElem?_append_right (by simpa using hi),List.getElem?_replicate]at h
   split at h<;>cases h
theorem Zbd{N:List Str}{ds:List D}{vs:List V}{av:Addr->Prop}{H:Hp}(ha:∀a,av a->H a≠none)(r:RepL cA av H ds vs) :
 ER ⟨cA,λ_=>none⟩ [] H av (λ_=>none) (L2.start N vs) H (ds.map some++List.replicate (N.length-ds.length) none):=by
 refine⟨Same.refl H,ha,λ_ _ z=>(by cases z),λ_ _ _ z=>(by cases z),λ_ _ z=>(by cases z),λ_ z=>absurd rfl z,λ_ z=>(by cases z),?_,λ_ _ z=>(by cases z),λ_ _ z=>(by cases z),λi d e => ?_⟩
 · unfold L2.start
   rw [List.length_append,List.length_append,List.length_map,List.length_map,List.length_replicate,List.length_replicate,r.length]
 · obtain⟨v,h1,h2⟩:=Zej r e
   refine⟨v,h1,λ_=>h2.av λb z => ?_,λ_ z=>(by cases z)⟩;rcases z with z|⟨_,z⟩
   · exact .inl z
   · cases z
section
variable{P:Program}{w:World}{K:PySem.W.Frag}{mg:Str->Option Value}{base:Heap}
end
theorem ZbX{vs:List V}{lo hi:Option Int}:V8 vs lo hi=cutL vs lo hi:=by
 unfold V8 cutL;have e:∀n d o,HT.sIx n d o=YR n d o:=λn d o=>by cases o<;>rfl
 rw [e,e]
theorem RepL.cutL{av:Addr->Prop}{H:Hp}{xs:List D}{vs:List V}(l:RepL cA av H xs vs)(lo hi:Option Int):RepL cA av H (L2.cutL xs lo hi) (L2.cutL vs lo hi):=by
 unfold L2.cutL;rw [l.length];exact(l.drop _).take _
def xNoP(_:Env):Option (Option Int):=some none
def xP(ε:Env->Option D)(δ:Env):Option (Option Int):=match ε δ with
 |some (.int i)=>some (some i)
 |_=>none
def VO(G:Cn)(ow:List Nat)(to:TO)(ω:Env->Option (Option Int)):Prop:=
 ∀H0 av A σ H δ,ER G ow H0 av A σ H δ->∀x,ω δ=some x->∀Q:Option Int->Hp->Prop,(∀H',Same H H'->Q x H')->to σ H Q
theorem VU:VO G ow tNoPart xNoP:=λH0 av A σ H δ E x e Q k=>by
 cases e;exact k H (Same.refl H)
theorem VV{te:TE}{q:Ql}{ε:Env->Option D}(h:VE G ow te q ε):VO G ow (Zhg te) (xP ε):=λH0 av A σ H δ E x e Q k=>by
 unfold xP at e;cases he:ε δ with
 |none=>rw [he]at e;cases e
 |some d=>
  rw [he]at e;cases d<;>first|(cases e;done)|skip
  cases e;exact h H0 av A σ H δ E _ he _ λv H' s r=>⟨_,r.any,k H' s⟩
def slD:D->Option Int->Option Int->Option D
 | .str a,lo,hi=>if a.length<=sizeLine then some (.str (L2.cutL a lo hi))else none
 | .lst xs,lo,hi=>some (.lst (L2.cutL xs lo hi))
 | .tup xs,lo,hi=>if YR xs.length 0 lo=0/\YR xs.length xs.length hi=xs.length then none else some (.tup (L2.cutL xs lo hi))
 |_,_,_=>none
def eSl(a:Env->Option D)(lo hi:Env->Option (Option Int))(δ:Env):Option D:=match a δ with
 |some x=>match lo δ with
  |some l=>match hi δ with
   |some u=>slD x l u
   |none=>none
  |none=>none
 |none=>none
theorem Zcq{a:Env->Option D}{lo hi:Env->Option (Option Int)}{δ:Env}{d:D}(h:eSl a lo hi δ=some d):∃x l u,a δ=some x/\lo δ=some l/\hi δ=some u/\slD x l u=some d:=by
 unfold eSl at h;cases ea:a δ with
 |none=>rw [ea]at h;cases h
 |some x=>
  rw [ea]at h;cases el:lo δ with
  |none=>rw [el]at h;cases h
  |some l=>
   rw [el]at h;cases eu:hi δ with
   |none=>rw [eu]at h;cases h
   |some u=>rw [eu]at h;exact⟨x,l,u,rfl,rfl,rfl,h⟩
theorem Ud{ta:TE}{tl th:TO}{q:Ql}{a:Env->Option D}{lo hi:Env->Option (Option Int)}(hq:q = .cl\/q = .tp)(ha:VE G ow ta q a)(hl:VO G ow tl lo)(hh:VO G ow th hi):VE G ow (tSl (JG G.1.K) ta tl th) .cl (eSl a lo hi):=λH0 av A σ H δ E d e Q k=>by
 obtain⟨x,l,u,ex,el,eu,ed⟩:=Zcq e;refine ha H0 av A σ H δ E x ex _ λv H1 s1 r1=>hl H0 av A σ H1 δ (E.mono s1) l el _ λH2 s2=>hh H0 av A σ H2 δ ((E.mono s1).mono s2) u eu _ λH3 s3 => ?_
 have s13:=s2.trans s3;have E3:=(E.mono s1).mono s13
 have r3:RepT G.1 av (AV av A) H3 x v:=by
  have:=(r1.same s13).tp;rcases hq with rfl|rfl<;>exact this
 cases x<;>first|(cases ed;done)|skip
 · rename_i cs
   cases(show v=_ from r3);dsimp only [slD]at ed
   by_cases hz:cs.length<=sizeLine
   · rw [if_pos hz]at ed
     cases ed;exact .inl ⟨cs,rfl,hz,k _ H3 (s1.trans s13) rfl⟩
   · rw [if_neg hz]at ed;cases ed
 · cases ed
   obtain⟨p,vs,rfl,_,rd,ll⟩:=r3;refine .inr (.inl ⟨p,vs,rfl,rd,λp' hp => ?_⟩);rw [ZbX];exact k _ _ ((s1.trans s13).trans (Xi hp)) ⟨p',_,rfl,λz=>(E3.avl p' z hp).elim,SqL.of YH,(ll.cutL l u).same (Xi hp)⟩
 · rename_i xs
   dsimp only [slD]at ed
   by_cases hz:YR xs.length 0 l=0/\YR xs.length xs.length u=xs.length
   · rw [if_pos hz]at ed;cases ed
   · rw [if_neg hz]at ed
     cases ed;obtain⟨p,vs,rfl,_,rd,ll⟩:=r3;refine .inr (.inr ⟨p,vs,rfl,SqT.of rd,?_,λp' hp => ?_⟩)
     · have e:∀n d o,HT.sIx n d o=YR n d o:=λn d o=>by cases o<;>rfl
       rw [e,e,<-ll.length];exact hz
     · rw [ZbX]
       exact k _ _ ((s1.trans s13).trans (Xi hp)) ⟨p',_,rfl,λz=>E3.avl p' z hp,YH,(ll.cutL l u).same (Xi hp)⟩
def Zf8(K:PySem.W.Frag):List V->Hp->VK->Prop:=λxs H Q=>Zlp K xs H Q\/∃p vs c cv b,xs=[.ref p,c]/\(∀v,RelV c v->v=cv)/\KL K p vs/\PySem.W.kitOne K (.type "list") cv=some b/\Q (.bl b) H
theorem JX{X:Cx}{K:PySem.W.Frag}(hK:X.K=K:=by rfl):Xh X (.builtin "isinstance") (Zf8 K):=by
 subst hK;intro pins s σ H xs us Q I rs h;rcases h with h|⟨p,vs,c,cv,b,rfl,hc,⟨o,its,n,hk,h1,_⟩,e,q⟩
 · exact ZeS pins s σ H xs us Q I rs h
 · obtain⟨u,w',rfl,rx,rc⟩:=QM rs
   have ec:=hc _ rc;subst ec;cases(show u=Value.ref p from rx);exact PySem.W.kia_one PySem.W.kitx_list I.kIn ⟨o,I.kIn p o hk,h1⟩ e (λz=>nomatch z) λtk=>⟨.bl b,H,I.tok tk,rfl,q⟩
def kind:D->String
 | .non => "NoneType"
 | .bl _ => "bool"
 | .int _ => "int"
 | .str _ => "str"
 | .lst _ => "list"
 | .tup _ => "tuple"
 | .obj c _ _=>c
 | .dct _ _ => "dict"
 | .dtt _ _ => "dict"
 | .exc _ _ => "dict"
def plainKinds:List String:=["NoneType", "bool", "int", "str", "list", "tuple"]
def Yd(tab:List (String×Bool)):D->Option Bool
 | .obj c _ _=>if plainKinds.contains c then none else tab.lookup c
 | .dct _ _=>none
 | .dtt _ _=>none
 | .exc _ _=>none
 |d=>tab.lookup (kind d)
def ZS(tab:List (String×Bool))(a:Env->Option D)(δ:Env):Option D:=match a δ with
 |some d=>match Yd tab d with
  |some b=>some (.bl b)
  |none=>none
 |none=>none
structure ClsI(K:PySem.W.Frag)(C:Addr):Prop where
 cl:Cls K C
 ha:PySem.W.findIn K (.ref C) "__class__" = some (some (.builtin "object.__class__"))
 hn:PySem.W.specialIn K (.builtin "object.__class__") "__get__" = some (some (.builtin "getset_descriptor.__get__"))
 htk:PySem.W.takesIn K (.builtin "object.__class__")=some true
 hm:PySem.W.mroIn K C (.type "object")=some true
structure IsiOk(K:PySem.W.Frag)(cA:Kn)(cv:Value)(tab:List (String×Bool)):Prop where
 plain:∀k∈plainKinds,∀b,tab.lookup k=some b->PySem.W.kitOne K (.type k) cv=some b
 own:∀(c:String)b,plainKinds.contains c=false->tab.lookup c=some b->PySem.W.kitOne K (.ref (cA.c c)) cv=some b/\ClsI K (cA.c c)
theorem Zbe{β:Type}{c:String}{b:β}:∀{tab:List (String×β)},tab.lookup c=some b->(c,b)∈tab
 | [],h=>by simp at h
 |(c',b')::r,h=>by
  rw [List.lookup_cons]at h;cases hc:c == c' with
  |true=>
   rw [hc]at h;cases h;rw [eq_of_beq hc];exact List.mem_cons_self
  |false=>
   rw [hc]at h;exact List.mem_cons_of_mem _ (Zbe h)
theorem JY{K:PySem.W.Frag}{cA:Kn}{cv:Value}{tab:List (String×Bool)}(h:∀p∈tab,if plainKinds.contains p.1=true then PySem.W.kitOne K (.type p.1) cv=some p.2 else PySem.W.kitOne K (.ref (cA.c p.1)) cv=some p.2/\ClsI K (cA.c p.1)):IsiOk K cA cv tab where
 plain:=λk hk b hl=>by
  have:=h _ (Zbe hl)
  rwa [if_pos (by simpa using hk)]at this
 own:=λc b hc hl=>by
  have:=h _ (Zbe hl)
  rwa [if_neg (by simpa using hc)]at this
theorem JZ{ta:TE}{q:Ql}{a:Env->Option D}{c:V}{cv:Value}{tab:List (String×Bool)}(hc:∀v,RelV c v->v=cv)(I:IsiOk G.1.K G.1 cv tab)(ha:VE G ow ta q a) :
 VE G ow (tCB (Zf8 G.1.K) (Y5 ta (Y5 (tC c) tNil))) .cl (ZS tab a):=λH0 av A σ H δ E d e Q k=>by
 unfold ZS at e;cases he:a δ with
 |none=>rw [he]at e;cases e
 |some x=>
  rw [he]at e;dsimp only at e;cases ht:Yd tab x with
  |none=>rw [ht]at e;cases e
  |some b=>
   rw [ht]at e;cases e;refine ha H0 av A σ H δ E x he _ λv H1 s r => ?_
   have r':=r.any;have fin:∀t,TyOf G.1.K H1 v t->PySem.W.kitOne G.1.K t cv=some b->Zf8 G.1.K [v,c] H1 Q:=λt ty e => .inl ⟨v,c,cv,t,b,rfl,hc,ty,e,k _ H1 s rfl⟩
   cases x with
   |non=>cases(show v=_ from r');exact fin _ .non (I.plain _ (by decide) b (by exact ht))
   |bl y=>cases(show v=_ from r');exact fin _ (.bl y) (I.plain _ (by decide) b (by exact ht))
   |int y=>cases(show v=_ from r');exact fin _ (.int y) (I.plain _ (by decide) b (by exact ht))
   |str y=>cases(show v=_ from r');exact fin _ (.str _) (I.plain _ (by decide) b (by exact ht))
   |lst y=>
    unfold Rep at r';obtain⟨p,vs,rfl,_,rd,_⟩:=r';rcases rd with(rd|⟨o,rd⟩)|rd
    · exact fin _ (.lst rd) (I.plain _ (by decide) b (by exact ht))
    · exact fin _ (.frz rd) (I.plain _ (by decide) b (by exact ht))
    · exact .inr ⟨p,vs,c,cv,b,rfl,hc,rd,I.plain _ (by decide) b (by exact ht),k _ H1 s rfl⟩
   |tup y=>
    unfold Rep at r';obtain⟨p,vs,rfl,_,rd,_⟩:=r';exact fin _ (.tup rd) (I.plain _ (by decide) b (by exact ht))
   |dct ks y=>cases ht
   |dtt ks y=>cases ht
   |exc c y=>cases ht
   |obj c' ks y=>
    unfold Rep at r';obtain⟨p,dx,vs,rfl,_,rd,_⟩:=r';dsimp only [Yd]at ht;cases hp:plainKinds.contains c' with
    |true=>rw [hp,if_pos rfl]at ht;cases ht
    |false=>
    rw [hp,if_neg Bool.false_ne_true]at ht;obtain⟨h1,h2⟩:=I.own c' b hp ht;exact fin _ (.ins rd h2.cl h2.ha h2.hn h2.htk h2.hm) h1
end
end DL
namespace L2
open PySem PySem.Spec
section
variable{X:Cx}
theorem ZeX:MtR X "str.count" (λx xs H Q=>∃a c,x=S a/\xs=[S [c]]/\Q (.int (a.count c:Nat)) H):=by
 intro pins s σ H x xs v us Q I rx rs h;obtain⟨a,c,rfl,rfl,q⟩:=h;obtain⟨t,rfl⟩:=rx;obtain⟨u,rfl,t',rfl⟩:=X4 rs;refine SC.count ?_;rw [ZeQ];exact⟨.int _,H,I.tok _,⟨_,rfl⟩,q⟩
theorem ZaY:∀{l:List (List Nat)}{us:List Value},Vals (l.map S) us->PyProof.Rows.StrsAre us (l.map tx)
 | [],us,r=>by
  rw [List.map_nil]at r;cases r;exact .nil
 |a::l,us,r=>by
  rw [List.map_cons]at r;cases r with
  |cons r1 r2=>
   obtain⟨t,rfl⟩:=r1;exact .cons _ t (ZaY r2)
theorem ZbY{K:PySem.W.Frag}(hK:X.K=K:=by rfl):MtR X "str.join" (λx xs H Q=>∃sep p l,x=S sep/\xs=[.ref p]/\SqL K H p (l.map S)/\(l.map List.length).sum+l.length*sep.length<=sizeLine/\Q (S (VM sep l)) H):=by
 subst hK;intro pins s σ H x xs v us Q I rx rs h;obtain⟨sep,p,l,rfl,rfl,hq,hz,q⟩:=h;obtain⟨t,rfl⟩:=rx;obtain⟨u,rfl,rp⟩:=X4 rs;cases rp;obtain⟨its,rv,pl,_⟩:=I.list hq;have hs:sizeLine=16777216:=sizeLine_eq;refine PyProof.Rows.join_list (ys:=l.map tx) pl.isList (by simpa using ZaY rv) ?_ λt' k=>⟨S (VM sep l),H,I.tok _,⟨t',?_⟩,q⟩
 · have e : ((l.map tx).map (·.length)) = l.map List.length := by
    rw [List.map_map];exact List.map_congr_left λa _=>XN a
   rw [e,List.length_map,XN];omega
 · have:=ZbU sep l
   show Value.str (Builtin.Str.glued (tx sep) (l.map tx)) t'=_;rw [StrLaws.glued_eq_join,ZbU]
end
end L2
namespace DL
open PySem PySem.Spec L2
section
variable{cA:Kn}{G:Cn}{ow:List Nat}
def Zjd(cA:Kn)(r:V->List V->Hp->VK->Prop)(f:List Nat->List D->Option D):Prop:=
 ∀(i:Addr->Prop)(H:Hp)(a:List Nat)(ds:List D)(vs:List V)(d:D),(∀a,i a->H a≠none)->Qi cA i H ds vs->f a ds=some d->∀Q:VK,(∀v H',Same H H'->Rep cA i H' d v->Q v H')->r (S a) vs H Q
def eBM(f:List Nat->List D->Option D)(a:Env->Option D)(α:Env->Option (List D))(δ:Env):Option D:=match a δ with
 |some (.str cs)=>match α δ with
  |some ds=>f cs ds
  |none=>none
 |_=>none
theorem J0{K:PySem.W.Frag}{r:V->List V->Hp->VK->Prop}{f:List Nat->List D->Option D}{to:TE}{t:TA}{q0 q:Ql}{a:Env->Option D}{α:Env->Option (List D)}(hr:Zjd G.1 r f)(ha:VE G ow to q0 a)(h:VA G ow t q α) :
 VE G ow (tBM K "str" r to t) q.it (eBM f a α):=λH0 av A σ H δ E d e Q k=>by
 unfold eBM at e;cases hx:a δ with
 |none=>rw [hx]at e;cases e
 |some x=>
  rw [hx]at e;cases x<;>first|(cases e;done)|skip
  rename_i cs;dsimp only at e;cases he:α δ with
  |none=>rw [he]at e;cases e
  |some ds=>
   rw [he]at e;refine ha H0 av A σ H δ E _ hx _ λv H1 s1 r1 => ?_
   have e1:v=S cs:=r1.any;subst e1;refine⟨rfl,h H0 av A σ H1 δ (E.mono s1) ds he _ λvs H2 s2 r2 => ?_⟩;have E2:=(E.mono s1).mono s2;have s12:=s1.trans s2;cases q with
   |cl=>exact hr _ H2 cs ds vs d E2.avl r2.il e _ λv H' s r=>k v H' (s12.trans s) r.t
   |tp=>exact hr _ H2 cs ds vs d E2.avl r2.il e _ λv H' s r=>k v H' (s12.trans s) r.t
   |dt=>exact hr _ H2 cs ds vs d E2.avH r2.il e _ λv H' s r=>k v H' (s12.trans s) r.t
def countD(a:List Nat):List D->Option D
 | [.str [c]]=>some (.int (a.count c:Nat))
 |_=>none
theorem Zh4{i:Addr->Prop}{H:Hp}{b:List Nat}{vs:List V}(h:Qi cA i H [.str b] vs):vs=[S b]:=by
 obtain⟨v,t,rfl,hx⟩:=il1 h;rw [show v=S b from hx]
theorem ZeY:Zjd cA (λx xs H Q=>∃a c,x=S a/\xs=[S [c]]/\Q (.int (a.count c:Nat)) H) countD:=λi H a ds vs d _ h e Q k=>by
 unfold countD at e
 split at e
 · cases e;exact⟨a,_,rfl,Zh4 h,k _ H (Same.refl H) rfl⟩
 · cases e
def strs? : List D->Option (List (List Nat))
 | []=>some []
 | .str a::r=>match strs? r with
  |some l=>some (a::l)
  |none=>none
 |_=>none
theorem strs_of:∀{xs:List D}{l:List (List Nat)},strs? xs=some l->xs=l.map D.str
 | [],l,h=>by cases h;rfl
 |x::xs,l,h=>by
  cases x<;>first|(cases h;done)|skip
  rename_i a;unfold strs? at h;cases hr:strs? xs with
  |none=>rw [hr]at h;cases h
  |some r=>
   rw [hr]at h;cases h;rw [List.map_cons,strs_of hr]
def joinD(sep:List Nat):List D->Option D
 | [.lst xs]=>match strs? xs with
  |some l=>if(l.map List.length).sum+l.length*sep.length<=sizeLine then some (.str (VM sep l))else none
  |none=>none
 |_=>none
theorem ZbZ:Zjd cA (λx xs H Q=>∃sep p l,x=S sep/\xs=[.ref p]/\SqL cA.K H p (l.map S)/\(l.map List.length).sum+l.length*sep.length<=sizeLine/\Q (S (VM sep l)) H) joinD:=λi H a ds vs d _ h e Q k=>by
 unfold joinD at e
 split at e
 · rename_i xs
   cases hs:strs? xs with
   |none=>rw [hs]at e;cases e
   |some l=>
    rw [hs]at e;dsimp only at e
    by_cases hz:(l.map List.length).sum+l.length*a.length<=sizeLine
    · rw [if_pos hz]at e
      cases e;obtain⟨v,t,rfl,p,ws,rfl,_,rd,ll⟩:=il1 h;have ex:=strs_of hs;subst ex;have ev:=ll.vals (by rw [List.all_map];exact List.all_eq_true.mpr λ_ _=>rfl);rw [List.map_map]at ev;subst ev;exact⟨a,p,l,rfl,rfl,rd,hz,k _ H (Same.refl H) rfl⟩
    · rw [if_neg hz]at e;cases e
 · cases e
end
end DL
namespace L2
open PySem PySem.Spec
structure FunX(K:PySem.W.Frag)(x qual:Str)(st:Stmt)(f:Addr)(fd:FuncData):Prop where
 ex:∃(oc:Value) (od:Option Addr) (dV kV doc pm:Value) (an:Option Addr) (cdv ct:Value) (osl:Array (Option Value)),
  fd=fnOf x qual (defArgs st) (defBody st) (defScope st) dV kV doc pm an cdv ct/\K.lookup f=some ⟨oc,od,.func fd,osl⟩/\codeIn K cdv qual=true
theorem Fun.x{K:PySem.W.Frag}{x qual:Str}{st:Stmt}{f:Addr}{fd:FuncData}(F:Fun K x qual st f fd):FunX K x qual st f fd:=by
 obtain⟨oc,od,kV,doc,pm,an,cdv,ct,osl,h⟩:=F.ex;exact⟨oc,od,.none,kV,doc,pm,an,cdv,ct,osl,h⟩
section
variable{P:Program}{w:World}{K:PySem.W.Frag}{mg:Str->Option Value}{base:Heap}
theorem FunX.ok {x qual:Str} {st:Stmt} {f:Addr} {fd:FuncData} {N ps:List Str} {k:Nat} {sp:Sp} (F:FunX K x qual st f fd) (S:FnScope N ps (defScope st)) (len:∀vs H Q E,sp vs H Q E->vs.length=ps.length)
 (hbody:∀(cdv:Value)(A:Around)(outer:List Env)(s:Shared)(H:Hp)(vs:List V)(Q:VK)(E:XK),Room k (A.deeper (PyProof.Rows.envOfC qual (defScope st) s.heap.objs.size f cdv))->sp vs H Q E ->
   ∃t,PSs (YO CX0 P w K mg base N qual (defScope st) f cdv A outer s H E).nox (defBody st) t/\t { nx:=λ_ H'=>Q .non H',rt:=Q } (start N vs) H):FnOk P w K mg base CX0 (k+1) f fd ps sp:=by
 obtain⟨oc,od,dV,kV,doc,pm,an,cdv,ct,osl,rfl,lk,hcd⟩:=F.ex;refine JD lk hcd S len λA outer s H vs Q E hr hsp => ?_
 obtain⟨t,h,q⟩:=hbody cdv A outer s H vs Q E hr hsp;exact⟨t,h.nox,q⟩
theorem ZaZ {x qual:Str} {st:Stmt} {dT:Addr} {o:Obj} {ps:List Str} {ds items:List Value} {n:Nat} {kV doc pm:Value} {an:Option Addr} {cdv ct:Value} (us0:List Str) (ht:K.lookup dT=some o) (hd:o.data = .seq items.toArray n) (hn:us0.length+ds.length=ps.length)
 (h:∀(us:List Value),us.length=us0.length->∃k,bindArgs (fnOf x qual (defArgs st) (defBody st) (defScope st) (.ref dT) kV doc pm an cdv ct) ⟨us,[]⟩=seqItems? (.ref dT) >>= k/\k (some items.toArray)=pure (ps.zip (us++ds))) :
 Binds K (fnOf x qual (defArgs st) (defBody st) (defScope st) (.ref dT) kV doc pm an cdv ct) ps ds:=λs us X hl=>by
 obtain⟨k,h1,h2⟩:=h us (by rw [List.length_append]at hl;omega);exact BindsTo.of_defaults (T:=dT) (o:=o) (items:=items.toArray) (n:=n) rfl (X _ _ ht) hd h1 h2
end
section
variable{X:Cx}
theorem ZeZ:OpR X (compareOp .Is) (λx y H Q=>∃a b,x = .bl a/\y = .bl b/\Q (.bl (a == b)) H):=by
 intro pins s σ H x y v u Q I rx ry h;obtain⟨a,b,rfl,rfl,q⟩:=h;cases rx;cases ry;refine wpAny_is_plain rfl ?_;have e:(Value.bool a == Value.bool b)=(a == b):=by cases a<;>cases b<;>rfl
 rw [e];exact⟨.bl (a == b),H,I,rfl,q⟩
end
structure CMeth(K:PySem.W.Frag)(C:Addr)(m:Str)(f:Addr):Prop where
 ga:PySem.W.specialIn K (.ref C) "__getattribute__" = some (some (.builtin "type.__getattribute__"))
 rd:PySem.W.readsIn K C (.type "type")=true
 fc:PySem.W.findCls K (.ref C) (.type "type") m=some (.val (.ref f))
 kp:PySem.W.keepIn K (.ref f)=true
section
variable{X:Cx}{CX:CXT}{k:Nat}{f C:Addr}{fd:FuncData}{ps:List Str}{sp:Sp}{dvs:List V}{ds:List Value}{E:XK}{x m:Str}{p pos apos:Pos}{e o:Expr}{es:List Expr}{ta:TE}{t:TA}
theorem Qk {pl:Sem Bool} (hg:Gl X x) (hmg:X.mg x=some (.ref C)) (hm:CMeth X.K C m f) (F:FnOk X.prog X.w X.K X.mg X.base CX k f fd ps sp) (hr:Room k X.A) (hb:Binds X.K fd ps ds) (hd:Vals dvs ds) (hx:XV CX X E) (ha:PA X (e::es) t)
 (hdb:(x == ("__debug__" : Str))=false:=by decide)
 (hst:starEach (e::es) X.env=(false,eval e X.env)::starEach es X.env:=by rfl) (hpl:(backTo pos (starEach es X.env)).any (·.1)=false:=by rfl)
 (ht:eval (.Call (.Attribute (.Name x p) m apos) (e::es) [] pos) X.env=(do
   let ov <-eval (.Name x p) X.env
   standAt apos.atName
   let(f,first) <-holding [ov] (getMethod ov m pl)
   callWith pos f first (backTo pos (starEach (e::es) X.env)) (backToKw pos (keywordEach [] X.env))):=by rfl) :
 PE X (.Call (.Attribute (.Name x p) m apos) (e::es) [] pos) (X5 sp dvs E t):=by
 intro pins s σ H Q I h;refine PySem.W.methodCall_KW (pl:=pl) (Vg I hg hmg ?_ hdb) ht;refine PySem.W.method_cls I.kIn hm.ga (PySem.W.cls_value I.kIn hm.rd hm.fc rfl ?_);have I1:Inv X pins σ H { s with toks:=s.toks+1 }:=I.tok _;refine PySem.W.callWith_K (first:=[]) (h₀:=X.base) I.ok.mod.kin hm.kp (thn (ha pos pins _ σ H _ I1 h) λus s2 ⟨vs,H2,I2,r,q2⟩=>⟨I2.kIn,?_⟩) hst hpl;exact QN (us:=us) (vs:=vs) F hr hb hd hx I2 r q2
end
end L2
namespace DL
open PySem PySem.Spec L2
theorem Zax{a b:String}(h:Str.ofString a=Str.ofString b):a=b:=by
 rw [Str.ofString_eq_toList,Str.ofString_eq_toList]at h
 have h1:(a.toList.map Char.toNat)=(b.toList.map Char.toNat):=by
  have:=congrArg (λs:Str=>s.cps.toList) h;simpa using this
 have inj:∀{x y:List Char},x.map Char.toNat=y.map Char.toNat->x=y:=by
  intro x
  induction x with
  |nil=>
   intro y h;cases y with
   |nil=>rfl
   |cons _ _=>cases h
  |cons c x ih=>
   intro y h;cases y with
   |nil=>cases h
   |cons d y=>
    rw [List.map_cons,List.map_cons,List.cons.injEq]at h;have:c=d:=Char.toNat_inj.mp h.1;rw [this,ih h.2]
 exact String.toList_inj.mp (inj h1)
theorem Zay(a b:String):(Str.ofString a == Str.ofString b)=(a == b):=by
 rw [Bool.eq_iff_iff,beq_iff_eq,beq_iff_eq];exact⟨Zax,λh=>by rw [h]⟩
section
variable{cA:Kn}{G:Cn}{ow owN owB owC:List Nat}
theorem Zcr{av:Addr->Prop}{H:Hp}{f:String}:∀{ks:List String}{xs:List D}{vs:List V}{d:D},RepL cA av H xs vs->(ks.zip xs).lookup f=some d->∃v,((ks.map Str.ofString).zip vs).lookup (Str.ofString f)=some v/\Rep cA av H d v
 | [],_,_,_,_,h=>by simp at h
 |k::ks,[],_,_,_,h=>by simp at h
 |k::ks,x::xs,vs,d,l,h=>by
  obtain⟨v,r,rfl,h1,h2⟩:=l.uncons;rw [List.zip_cons_cons,List.lookup_cons]at h;rw [List.map_cons,List.zip_cons_cons,List.lookup_cons,Zay];cases hk:f == k with
  |true=>rw [hk]at h;cases h;exact⟨v,rfl,h1⟩
  |false=>rw [hk]at h;exact Zcr h2 h
theorem Zcs{f:String}:∀{ks:List String}{vs:List V},ks.contains f=false->((ks.map Str.ofString).zip vs).lookup (Str.ofString f)=none
 | [],_,_=>by simp
 |k::ks,[],_=>by simp
 |k::ks,v::vs,h=>by
  rw [List.contains_cons,Bool.or_eq_false_iff]at h;rw [List.map_cons,List.zip_cons_cons,List.lookup_cons,Zay,h.1];exact Zcs h.2
theorem Zds{f:String}{y:V}:∀{ks:List String}{vs:List V},ks.length=vs.length->ks.contains f=false->Xc (Str.ofString f) y ((ks.map Str.ofString).zip vs)=(((ks++[f]).map Str.ofString).zip (vs++[y]))
 | [],[],_,_=>rfl
 | [],_::_,h,_=>by simp at h
 |_::_,[],h,_=>by simp at h
 |k::ks,v::vs,h,hf=>by
  rw [List.contains_cons,Bool.or_eq_false_iff]at hf
  have hne:¬Str.ofString k=Str.ofString f:=λz=>by
   have:=Zax z;have h1:=hf.1;rw [this]at h1;simp at h1
  rw [List.map_cons,List.zip_cons_cons,List.cons_append,List.cons_append,List.map_cons,List.zip_cons_cons];rw [show Xc (Str.ofString f) y ((Str.ofString k,v)::(ks.map Str.ofString).zip vs)=(if Str.ofString k=Str.ofString f then(Str.ofString k,y)::(ks.map Str.ofString).zip vs else(Str.ofString k,v)::Xc (Str.ofString f) y ((ks.map Str.ofString).zip vs))from rfl,if_neg hne];rw [Zds (by simpa using h) hf.2]
def XZ(K:PySem.W.Frag)(cA:Kn)(cls:List String)(f:String):Prop:=∀c∈cls,Cls K (cA.c c)/\NoAttr K (cA.c c) (Str.ofString f)
def ZY(cls:List String)(f:String)(a:Env->Option D)(δ:Env):Option D:=match a δ with
 |some (.obj c ks xs)=>if cls.contains c then(ks.zip xs).lookup f else none
 |_=>none
theorem J4{K:PySem.W.Frag}{ta:TE}{q:Ql}{a:Env->Option D}{cls:List String}{f:String}(F:XZ K G.1 cls f)(ha:VE G ow ta q a):VE G ow (Zi4 K ta (Str.ofString f)) q.it (ZY cls f a):=λH0 av A σ H δ E d e Q k=>by
 unfold ZY at e;cases he:a δ with
 |none=>rw [he]at e;cases e
 |some x=>
  rw [he]at e;cases x<;>first|(cases e;done)|skip
  rename_i c ks xs;dsimp only at e
  by_cases hc:cls.contains c=true
  · rw [if_pos hc]at e
    obtain⟨h1,h2⟩:=F c (by simpa using hc);refine ha H0 av A σ H δ E _ he _ λv H1 s r => ?_
    obtain⟨p,dx,vs,rfl,_,rd,_,l⟩:=r.tp;obtain⟨w,hw,rw'⟩:=Zcr l e;refine⟨p,_,dx,_,w,rfl,rd,h1,h2,hw,k w H1 s ?_⟩;cases q<;>exact rw'.t
  · rw [if_neg hc]at e;cases e
def ZM(i:Nat)(cls:List String)(f:String)(ε:Env->Option D)(δ:Env):Option Out:=match ε δ with
 |some d=>match Za i δ with
  |some (.obj c ks xs)=>if cls.contains c && !ks.contains f&&decide (ks.length<1000)then some (.nx (δ.set i (some (.obj c (ks++[f]) (xs++[d])))))else none
  |_=>none
 |none=>none
theorem X0{K:PySem.W.Frag}{te:TE}{ε:Env->Option D}{cls:List String}{f:String}(i:Nat)(hi:ow.contains i=true)(F:XZ K G.1 cls f)(h:VE G ow te .cl ε):VS G ow ow owB owC (Zk3 K (XJ i) te (Str.ofString f)) (ZM i cls f ε):=λH0 av A σ H δ E o e De k=>by
 unfold ZM at e;cases he:ε δ with
 |none=>rw [he]at e;cases e
 |some d=>
  rw [he]at e;dsimp only at e;cases hv:Za i δ with
  |none=>rw [hv]at e;cases e
  |some x=>
   rw [hv]at e;cases x<;>first|(cases e;done)|skip
   rename_i c ks xs;dsimp only at e
   by_cases hz:(cls.contains c && !ks.contains f&&decide (ks.length<1000))=true
   · rw [if_pos hz]at e
     cases e;simp only [Bool.and_eq_true,decide_eq_true_eq,Bool.not_eq_true']at hz;obtain⟨⟨z1,z2⟩,z3⟩:=hz;obtain⟨h1,h2⟩:=F c (by simpa using z1);have hi':i∈ow:=by simpa using hi
     cases hA:A i with
     |none=>exact absurd hA (E.dom' i hi')
     |some a=>
      refine h H0 av A σ H δ E d he _ λy H1 s r => ?_
      have E1:=E.mono s;obtain⟨v,g1,_,g3⟩:=E1.var i _ (XO hv);obtain⟨rfl,dx,vs,q1,q0,q2⟩:=g3 a hA;have hl:ks.length=vs.length:=q0.trans q2.length;refine⟨_,g1,a,_,dx,_,rfl,q1,h1,h2,?_,k A σ _ (E1.put hA (XO hv) (λb o hb e=>by rw [ZJ hb];exact e) (by rw [YH];exact λz=>by cases z) ?_)⟩
      · rw [List.length_zip,List.length_map];omega
      · refine⟨dx,vs++[y],?_,by rw [List.length_append,List.length_append,q0];rfl,?_⟩
        · rw [YH,Zds hl z2]
        · have ex : ∀ b o, ¬ AV av A b -> H1 b = some o -> upd H1 a (.ins (G.1.c c) dx (Xc (Str.ofString f) y ((ks.map Str.ofString).zip vs))) b = some o := fun b o n e => by
           rw [ZJ λz=>n (.inr ⟨i,by rw [z];exact hA⟩)];exact e
          exact(q2.append (.cons (RepT.r r) .nil)).ext ex
   · rw [if_neg hz]at e;cases e
def spI(cA:Kn)(n:Nat)(m:List D->Option D):Sp:=λvs H Q _=>∃(x:Addr) (r:List V) (av:Addr->Prop) (ds:List D) (d d':D),vs = .ref x::r/\(∀a,av a->H a≠none)/\¬av x/\Own cA (λa=>av a\/a=x) H d x/\RepL cA (λa=>av a\/a=x) H ds r/\(d::ds).length=n/\m (d::ds)=some d' /\
 ∀H',(∀b o,b≠x->H b=some o->H' b=some o)->Own cA (λa=>av a\/a=x) H' d' x->Q .non H'
theorem Own.live{av:Addr->Prop}{H:Hp}{d:D}{a:Addr}(h:Own cA av H d a):H a≠none:=by
 cases d with
 |lst xs=>obtain⟨vs,q,_⟩:=h;rw [q];exact λz=>by cases z
 |obj c ks xs=>obtain⟨dx,vs,q,_⟩:=h;rw [q];exact λz=>by cases z
 |dct ks xs=>obtain⟨vs,q,_⟩:=h;rw [q];exact λz=>by cases z
 |dtt ks xs=>obtain⟨vs,q,_⟩:=h;rw [q];exact λz=>by cases z
 |_=>exact h.elim
theorem Own.av{av av':Addr->Prop}{H:Hp}{d:D}{a:Addr}(k:∀b,av' b->av b\/H b=none)(h:Own cA av H d a):Own cA av' H d a:=by
 cases d with
 |lst xs=>obtain⟨vs,q,l⟩:=h;exact⟨vs,q,l.av k⟩
 |obj c ks xs=>obtain⟨dx,vs,q,z,l⟩:=h;exact⟨dx,vs,q,z,l.av k⟩
 |dct ks xs=>obtain⟨vs,q,z,l⟩:=h;exact⟨vs,q,z,l.av k⟩
 |dtt ks xs=>obtain⟨vs,q,z,l⟩:=h;exact⟨vs,q,z,l.av k⟩
 |_=>exact h.elim
theorem Own.rep{av:Addr->Prop}{H:Hp}{d:D}{a:Addr}(n:¬av a)(h:Own cA av H d a):Rep cA av H d (.ref a):=by
 cases d with
 |lst xs=>obtain⟨vs,q,l⟩:=h;unfold Rep;exact⟨a,vs,rfl,λz=>(n z).elim,SqL.of q,l⟩
 |obj c ks xs=>obtain⟨dx,vs,q,z,l⟩:=h;unfold Rep;exact⟨a,dx,vs,rfl,n,q,z,l⟩
 |dct ks xs=>obtain⟨vs,q,z,l⟩:=h;unfold Rep;exact⟨a,vs,rfl,n,q,z,l⟩
 |dtt ks xs=>obtain⟨vs,q,z,l⟩:=h;unfold Rep;exact⟨a,vs,rfl,n,q,z,l⟩
 |_=>exact h.elim
def ZK(c:String)(n:Nat)(m:List D->Option D)(dds:List D)(α:Env->Option (List D))(δ:Env):Option D:=match α δ with
 |some ds=>if(D.obj c [] []::(ds++dds)).length=n then m (.obj c [] []::(ds++dds))else none
 |none=>none
def Yi(i n:Nat)(m:List D->Option D)(dds:List D)(α:Env->Option (List D))(δ:Env):Option Out:=match Za i δ with
 |some d=>match α δ with
  |some ds=>if(d::(ds++dds)).length=n then(match m (d::(ds++dds))with
   |some d'=>some (.nx (δ.set i (some d')))
   |none=>none)else none
  |none=>none
 |none=>none
def runI(N:Nat)(φ:Env->Option Out)(ds:List D):Option D:=match φ (ds.map some++List.replicate (N-ds.length) none)with
 |some (.nx δ)=>Za 0 δ
 |_=>none
section
variable{P:Program}{w:World}{K:PySem.W.Frag}{mg:Str->Option Value}{base:Heap}
theorem ZjO {x qual:Str} {st:Stmt} {f:Addr} {fd:FuncData} {N ps:List Str} {k:Nat} {φ:Env->Option Out} (F:FunX K x qual st f fd) (S:FnScope N ps (defScope st))
 (hbody:∀(cdv:Value)(A:Around)(outer:List PySem.Env)(s:Shared)(H:Hp)(E:XK),Room k (A.deeper (PyProof.Rows.envOfC qual (defScope st) s.heap.objs.size f cdv)) ->
   ∃t,PSs (YO CX0 P w K mg base N qual (defScope st) f cdv A outer s H E).nox (defBody st) t/\∃owN,VS ⟨cA,λ_=>none⟩ [] owN [] [] t φ):FnOk P w K mg base CX0 (k+1) f fd ps (spD cA ps.length (run N.length φ)):=by
 refine F.ok S (λvs H Q E h => ?_) λcdv A outer s H vs Q E hr h => ?_
 · obtain⟨av,ds,d,_,r,hl,_⟩:=h
   rw [<-r.length,hl]
 · obtain⟨av,ds,d,ha,r,hl,hm,q⟩:=h
   obtain⟨t,ht,owN,hv⟩:=hbody cdv A outer s H E hr;refine⟨t,ht,?_⟩;unfold run at hm;cases hφ:φ (ds.map some++List.replicate (N.length-ds.length) none)with
   |none=>rw [hφ]at hm;cases hm
   |some o=>
    rw [hφ]at hm;refine hv H av _ _ H _ (Zbd ha r) o hφ _ ?_;cases o with
    |nx δ'=>cases hm;exact λA' σ' H' E'=>q .non H' E'.same rfl
    |rt d'=>cases hm;exact λv H' s' r'=>q v H' s' r'
    |bk δ'=>cases hm
    |ct δ'=>cases hm
end
abbrev MTab:=List (String×(Nat×(List D->Option D)))
structure MethOk(X:Cx)(cA:Kn)(k:Nat)(m:String)(c:String)(n:Nat)(mm:List D->Option D):Prop where
 ex:∃f fd ps,Cls X.K (cA.c c)/\Meth X.K (cA.c c) (Str.ofString m) f/\FnOk X.prog X.w X.K X.mg X.base CX0 k f fd ps (spD cA n mm)/\Binds X.K fd ps []
def MTOk(X:Cx)(cA:Kn)(k:Nat)(m:String):MTab->Prop
 | []=>True
 |(c,n,mm)::r=>MethOk X cA k m c n mm/\MTOk X cA k m r
theorem MTOk.get{X:Cx}{k:Nat}{m:String}:∀{tab:MTab}{c:String}{n:Nat}{mm:List D->Option D},MTOk X cA k m tab->tab.lookup c=some (n,mm)->MethOk X cA k m c n mm
 | [],_,_,_,_,h=>by simp at h
 |(c',n',mm')::r,c,n,mm,T,h=>by
  rw [List.lookup_cons]at h;cases hc:c == c' with
  |true=>
   rw [hc]at h;cases h;have:c=c':=eq_of_beq hc;subst this;exact T.1
  |false=>
   rw [hc]at h;exact MTOk.get T.2 h
def Zde(cA:Kn)(m:String)(tab:MTab)(ta:TE)(t:TA):TE:=λσ H Q=>ta σ H λx H1=>∃a dx fs c n mm,x = .ref a/\H1 a=some (.ins (cA.c c) dx fs)/\fs.lookup (Str.ofString m)=none/\tab.lookup c=some (n,mm)/\t σ H1 λvs H2=>spD cA n mm (x::vs) H2 Q E0
theorem Zct {X:Cx} {k:Nat} {m:String} {tab:MTab} {o e:Expr} {es:List Expr} {ta:TE} {t:TA} {pos apos:Pos} {pl:Sem Bool} (T:MTOk X cA k m tab) (hr:Room k X.A) (he:PE X o ta) (ha:PA X (e::es) t)
 (hst:starEach (e::es) X.env=(false,eval e X.env)::starEach es X.env:=by rfl) (hpl:(backTo pos (starEach es X.env)).any (·.1)=false:=by rfl)
 (ht:eval (.Call (.Attribute o (Str.ofString m) apos) (e::es) [] pos) X.env=(do
   let ov <-eval o X.env
   standAt apos.atName
   let(f,first) <-holding [ov] (getMethod ov (Str.ofString m) pl)
   callWith pos f first (backTo pos (starEach (e::es) X.env)) (backToKw pos (keywordEach [] X.env))):=by rfl) :
 PE X (.Call (.Attribute o (Str.ofString m) apos) (e::es) [] pos) (Zde cA m tab ta t):=by
 intro pins s σ H Q I h;refine PySem.W.methodCall_KW (pl:=pl) (thn (he pins s σ H _ I h) λu s1 ⟨x,H1,I1,rx,a,dx,fs,c,n,mm,ex,ea,l,tl,q⟩ => ?_) ht;subst ex;obtain rfl:u=Value.ref a:=rx;obtain⟨f,fd,ps,hc,hm,F,hb⟩:=(T.get tl).ex;refine ZaV I1 ea hc hm l ?_;refine PySem.W.callWith_K (first:=[.ref a]) (h₀:=X.base) I.ok.mod.kin hm.kp (thn (ha pos pins s1 σ H1 _ I1 q) λus s2 ⟨vs,H2,I2,r,q2⟩=>⟨I2.kIn,?_⟩) hst hpl
 exact QN (us:=.ref a::us) (vs:=.ref a::vs) (dvs:=[]) (ds:=[]) F hr hb .nil Yq I2 (.cons rfl r) (by rw [List.append_nil];exact q2)
theorem ZbB {X:Cx} {k:Nat} {m:String} {tab:MTab} {o:Expr} {ta:TE} {pos apos:Pos} {pl:Sem Bool} (T:MTOk X cA k m tab) (hr:Room k X.A) (he:PE X o ta)
 (ht:eval (.Call (.Attribute o (Str.ofString m) apos) [] [] pos) X.env=(do
   let ov <-eval o X.env
   standAt apos.atName
   let(f,first) <-holding [ov] (getMethod ov (Str.ofString m) pl)
   callWith pos f first (backTo pos (starEach [] X.env)) (backToKw pos (keywordEach [] X.env))):=by rfl) :
 PE X (.Call (.Attribute o (Str.ofString m) apos) [] [] pos) (Zde cA m tab ta tNil):=by
 intro pins s σ H Q I h;refine PySem.W.methodCall_KW (pl:=pl) (thn (he pins s σ H _ I h) λu s1 ⟨x,H1,I1,rx,a,dx,fs,c,n,mm,ex,ea,l,tl,q⟩ => ?_) ht;subst ex;obtain rfl:u=Value.ref a:=rx;obtain⟨f,fd,ps,hc,hm,F,hb⟩:=(T.get tl).ex;refine ZaV I1 ea hc hm l ?_;exact PySem.W.callWith_K0 (first:=[.ref a]) I1.kIn hm.kp (QN (us:=[.ref a]) (vs:=[.ref a]) (dvs:=[]) (ds:=[]) F hr hb .nil Yq I1 (.cons rfl .nil) (by rw [List.append_nil];exact q))
def ZQ(m:String)(tab:MTab)(a:Env->Option D)(α:Env->Option (List D))(δ:Env):Option D:=match a δ with
 |some (.obj c ks xs)=>if ks.contains m then none else(match tab.lookup c with
  |some (n,mm)=>match α δ with
   |some ds=>if(D.obj c ks xs::ds).length=n then mm (.obj c ks xs::ds)else none
   |none=>none
  |none=>none)
 |_=>none
theorem J5{m:String}{tab:MTab}{ta:TE}{t:TA}{a:Env->Option D}{α:Env->Option (List D)}(ha:VE G ow ta .cl a)(h:VA G ow t .cl α):VE G ow (Zde G.1 m tab ta t) .cl (ZQ m tab a α):=λH0 av A σ H δ E d e Q k=>by
 unfold ZQ at e;cases hx:a δ with
 |none=>rw [hx]at e;cases e
 |some x=>
  rw [hx]at e;cases x<;>first|(cases e;done)|skip
  rename_i c ks xs;dsimp only at e;cases hf:ks.contains m with
  |true=>rw [hf,if_pos rfl]at e;cases e
  |false=>
   rw [hf,if_neg Bool.false_ne_true]at e;cases htb:tab.lookup c with
   |none=>rw [htb]at e;cases e
   |some p=>
    obtain⟨n,mm⟩:=p;rw [htb]at e;dsimp only at e;cases he:α δ with
    |none=>rw [he]at e;cases e
    |some ds=>
     rw [he]at e;dsimp only at e
     by_cases hz:(D.obj c ks xs::ds).length=n
     · rw [if_pos hz]at e
       refine ha H0 av A σ H δ E _ hx _ λv H1 s1 r1 => ?_
       obtain⟨p,dx,vs,rfl,np,rd,zl,l⟩:=r1;refine⟨p,dx,_,c,n,mm,rfl,rd,Zcs hf,htb,h H0 av A σ H1 δ (E.mono s1) ds he _ λws H2 s2 r2 => ?_⟩;have E2:=(E.mono s1).mono s2;refine⟨AV av A,.obj c ks xs::ds,d,E2.avl,.cons ?_ r2.cl,hz,e,λv H' s r=>k v H' ((s1.trans s2).trans s) r.t⟩;unfold Rep;exact⟨p,dx,vs,rfl,np,s2 _ _ rd,zl,l.same s2⟩
     · rw [if_neg hz]at e;cases e
def isD:D->D->Option D
 | .bl a,.bl b=>some (.bl (a == b))
 |_,_=>none
theorem ZjP:XQ cA (λx y H Q=>∃a b,x = .bl a/\y = .bl b/\Q (.bl (a == b)) H) isD:=λt t' i H x y vx vy d _ hx hy e Q k=>by
 cases x<;>cases y<;>first|(cases e;done)|skip
 cases(show vx=_ from hx);cases(show vy=_ from hy);cases e;exact⟨_,_,rfl,rfl,k _ H (Same.refl H) rfl⟩
end
end DL
namespace DL
open PySem PySem.Spec L2
def VW:Nat->List D->List D
 |_,[]=>[]
 |k,x::xs => .tup [.int (k:Nat),x]::VW (k+1) xs
theorem Zag:∀(k:Nat)(xs:List D),(VW k xs).length=xs.length
 |_,[]=>rfl
 |k,x::xs=>by rw [VW,List.length_cons,List.length_cons,Zag]
theorem ZbC:∀(k:Nat)(xs:List D)(i:Nat),(VW k xs)[i]? = (xs[i]?).map λx => .tup [.int ((k+i:Nat):Int),x]
 |_,[],i=>by simp [VW]
 |k,x::xs,0=>by simp [VW]
 |k,x::xs,i+1=>by
  rw [VW,List.getElem?_cons_succ,List.getElem?_cons_succ,ZbC (k+1) xs i];have:k+1+i=k+(i+1):=by omega
  rw [this]
section
variable{cA:Kn}{G:Cn}{ow:List Nat}
def Zf9(k:Nat)(ε:Env->Option D)(δ:Env):Option (List D):=match ε δ with
 |some (.str cs)=>some (VW k (cs.map λc => .str [c]))
 |_=>none
theorem Zb9{iv:Addr->Prop}{H0:Hp}{n0:Nat}{cs:List Nat}:UF cA iv (Zjc n0 cs) (VW n0 (cs.map λc => .str [c])) H0:=λH s=>by
 refine⟨λi hi => ?_,λi x v H' hx y => ?_,λi hi => ?_⟩
 · have:i<cs.length:=by simpa [Zag]using hi
   exact this
 · obtain⟨c,p,hc,hp,rfl,rfl⟩:=y
   rw [ZbC,List.getElem?_map,hc]at hx;cases hx;refine⟨Xi hp,λav' h1 _ => ?_⟩;unfold Rep;exact⟨p,_,rfl,λz=>h1 p z hp,YH,.cons rfl (.cons rfl .nil)⟩
 · have:cs.length<=i:=by simpa [Zag]using hi
   exact this
theorem Ze0 {X:Cx} {elts:List Expr} {x1:Nat} {tpos:Pos} {a:Expr} {ta:TE} {p pos:Pos} (hg:Gl X "enumerate") (hm:X.mg "enumerate" = none) (ha:PE X a ta) (hs:starEach [a] X.env=[(false,eval a X.env)]:=by rfl) :
 PI X (.Tuple elts x1 tpos) (.Call (.Name "enumerate" p) [a] [] pos) (Zf5 (Y5 ta tNil)):=Zgt hg hm (Zc ha Zj hs) hs
theorem Ze1{ta:TE}{q:Ql}{ε:Env->Option D}(h:VE G ow ta q ε):VI G ow (Zf5 (Y5 ta tNil)) (Zf9 0 ε):=λH0 av A σ H δ E xs e R k=>by
 unfold Zf9 at e;cases he:ε δ with
 |none=>rw [he]at e;cases e
 |some d=>
  rw [he]at e;cases d<;>first|(cases e;done)|skip
  cases e;refine h H0 av A σ H δ E _ he _ λv H1 s r => ?_
  have e1:v=S _:=r.any;subst e1;exact⟨_,rfl,k _ H1 s Zb9⟩
end
end DL
namespace DL
open PySem PySem.Spec L2
section
variable{cA:Kn}{P:Program}{w:World}{K:PySem.W.Frag}{mg:Str->Option Value}{base:Heap}
theorem Xl {x qual:Str} {st:Stmt} {f:Addr} {fd:FuncData} {N ps:List Str} {k:Nat} {φ:Env->Option Out} {body:List Stmt} {scope:Scope} {n:Nat} {m:List D->Option D} (F:FunX K x qual st f fd) (S:FnScope N ps (defScope st)) (hS:defScope st=scope) (hB:defBody st=body)
 (hbody:∀(cdv:Value)(A:Around)(outer:List PySem.Env)(s:Shared)(H:Hp)(E:XK),Room k (A.deeper (PyProof.Rows.envOfC qual scope s.heap.objs.size f cdv)) ->
   ∃t,PSs (YO CX0 P w K mg base N qual scope f cdv A outer s H E).nox body t/\∃owN,VS ⟨cA,λ_=>none⟩ [] owN [] [] t φ)  (hm:m=run N.length φ) (hn:ps.length=n):FnOk P w K mg base CX0 (k+1) f fd ps (spD cA n m):=by
 subst hS hB hm hn;exact ZjO F S hbody
end
end DL
namespace L2
open PySem PySem.Spec PySem.W PyProof.Rows
def bmV:List Value:=[.type "ValueError",.type "Exception",.type "BaseException",.type "object"]
theorem Zdt{K:PySem.W.Frag}{hp:Heap}{C:Addr}{tlB:List Value}{nid:String}(KX:K.In hp)(q0:excIn K C tlB nid=true) :
 ∃bm N nm q bs hdct sn sub ab col dd k0 k1 k2 k3 k5 mN,hp.get? C=some (excClassObj nm q C N bs bm hdct sn sub ab col dd k0 k1 k2 k3 k5 nid)/\hp.Ns N mN/\mN "__init__" = none/\OwnTail hp tlB bm:=by
 unfold excIn at q0
 split at q0
 · rename_i dict0 cls0 slots0 look0
   split at q0
   · rename_i C1 rest0 j0 j1 j2 j3 nid1 j5 mro0 sl0
     simp only [Bool.and_eq_true,beq_iff_eq,Bool.not_eq_true']at q0;have e1:C1=C:=q0.1.1.1.1.1;have e2:nid1=nid:=q0.1.1.1.1.2;have e3:=q0.1.1.1.2;have e4:=q0.1.1.2;have e5:=q0.1.2;have e6:=q0.2;subst e1 e2;cases cls0 with
     |mk f1 f2 f3 f4 f5 f6 f7 f8 f9 f10 f11=>
      dsimp only at mro0 e3 e5 e6;subst mro0 e3
      have es:slots0 = #[j0,j1,j2,j3,some (.builtin nid1),j5]:=by
       cases slots0 with
       |mk l=>exact congrArg Array.mk sl0
      subst es;exact⟨rest0,f4,f1,f5,f2,f6,f7,f8,f9,f10,dict0,j0,j1,j2,j3,j5,_,KX _ _ look0,.of_isNs (isNs_of_in KX e5),nsMap_none_of_in KX e5 e6,tail_of_in KX e4⟩
   · cases q0
 · cases q0
def Zb0(X:Cx)(E:XK)(C:Addr):Prop:=∀(pins:List (Addr×Obj))(σ:St)(H:Hp)(s:Shared)(h':Heap)(e:Addr)(us:List Value),Inv X pins σ H s->Heap.MadeExcOf s.heap h' e (.ref C) us->E (.ref C) none H->X.xe (.ref e) { s with heap:=h' }
def Zdf(E:XK)(C:Addr)(t:TA):TS:=λ_ σ H=>t σ H λvs H1=>vs.length<=8/\E (.ref C) none H1
section
variable{X:Cx}{E:XK}{C:Addr}{x:Str}{p cpos pos:Pos}{e:Expr}{es:List Expr}{t:TA}
theorem Zcu (hg:Gl X x) (hm:X.mg x=some (.ref C)) (hq:excIn X.K C bmV "ValueError.__new__" = true) (hR:Zb0 X E C) (ha:PA X (e::es) t) (hc:X.calm=true:=by rfl)
 (he:starEach (e::es) X.env=(false,eval e X.env)::starEach es X.env:=by rfl) (hpl:(backTo cpos (starEach es X.env)).any (·.1)=false:=by rfl) (hdb:(x == ("__debug__" : Str))=false:=by decide) :
 PS X (.Raise (some (.Call (.Name x p) (e::es) [] cpos)) none pos) (Zdf E C t):=by
 intro pins s σ H D I h;obtain⟨tl,N,nm,q,bs,hdct,sn,sub,ab,col,dd,k0,k1,k2,k3,k5,mN,hC,hN,hni,T⟩:=Zdt I.ok.mod.kin hq
 refine wpAny_Raise_call_subT (C:=C) (nm:=nm) (q:=q) (N:=N) (bs:=bs) (bm:=tl) (hdct:=hdct) (sn:=sn) (sub:=sub) (ab:=ab) (col:=col) (dd:=dd) (k0:=k0) (k1:=k1) (k2:=k2) (k3:=k3) (k5:=k5)
  PySem.F.excBase_ValueError (mN:=mN) (T.hasType PySem.F.excBase_ValueError.hasBase) (I.ok.hd hc) (by rw [he];show(false||(backTo cpos (starEach es X.env)).any (·.1))=false;rw [hpl];rfl) hni (Vg I hg hm ⟨rfl,?_⟩ hdb)
 have h1:=ha cpos pins s σ H _ I h;rw [he]at h1 ⊢;refine Calls.evalArgs_plain (thn h1 λus s2 ⟨vs,H2,I2,r,hl,hE⟩=>⟨rfl,?_,I2.bk _ _ hC,hN.keeps I2.bk,T.keeps I2.bk,λh' ea hx => ?_⟩)
 · show us.length<=sizeLine
   rw [<-r.length];exact Nat.le_trans hl (by decide)
 · exact hR pins σ H2 s2 h' ea us I2 hx hE
end
theorem HOk.hide{P:Program}{w:World}{H:Hp}{h:Heap}{as:List Addr}(x:HOk P w H h)(hn:∀b∈as,H b=none):HOk P w H (hideAll h as):=λa o e=>
 (x a o e).stay (λb u hb q=>hideAll_get _ q λz=>by
   rcases hb with rfl|hb
   · rw [hn _ z]at e;cases e
   · rw [hn _ z]at hb;cases hb) (λ_ q=>q) λ_ _ q=>q
def CX1(P:Program)(w:World):CXT:=λouter H s E ev s'=>∃(ea:Addr) (cls a0:Value) (B:Heap) (H':Hp),ev = .ref ea/\s'.os=s.os/\AllBare s'.gens/\Heap.FlyingW B outer ea cls a0 s'.heap /\
 (∀b o,s.heap.get? b=some o->H b=none->b∉frs outer->B.get? b=some o)/\HOk P w H' B/\Same H H'/\(∀b o,s.heap.get? b=some o->H b=none->H' b=none)/\(∀b o,s.heap.get? b=some o->b∈frs outer->∃sl,s'.heap.get? b=some { o with slots:=sl })/\E cls none H'
section
variable{P:Program}{w:World}{K:PySem.W.Frag}{mg:Str->Option Value}{base:Heap}{N:List Str}{qual:Str}{scope:Scope}{f:Addr}{cd:Value}{A:Around}{outer:List Env}{s:Shared}{H:Hp}{E:XK}
theorem ZbS{C:Addr}:Zb0 (YO (CX1 P w) P w K mg base N qual scope f cd A outer s H E) (λc d H'=>Same H H'/\E c d H') C:=by
 intro pins σ H1 s1 h' e us I hx ⟨hsm,hw⟩;show wpAny (model P w) _ (leaving _ (.ref e)) _ _ _;have hin:∀env∈((YO (CX1 P w) P w K mg base N qual scope f cd A outer s H E).stack),∀b,env.frame=some b->b∈frs (YO (CX1 P w) P w K mg base N qual scope f cd A outer s H E).stack:=λenv he b hb=>List.mem_filterMap.mpr ⟨env,he,hb⟩
 have hfr:=I.ok.frames;have hfun:=funFrames_hide I.stack hin;have hfree:=I.stkFree;have hsub:=I.stkSub;refine wpAny_leaves_madeW (base:=hideAll s1.heap (frs (YO (CX1 P w) P w K mg base N qual scope f cd A outer s H E).stack)) (h:=s1.heap) (outer:=outer) hfr rfl (λb o q=>of_hideAll _ q) hfun hx λh2 t x1 x2 x3 x4 => ?_
 refine⟨e,.ref C,.ref t,_,H1,rfl,I.os,I.bare,x1,λb o q n hb => ?_,HOk.hide I.hok hfree,hsm,λb o q n=>I.base.free b o q n (λz=>nomatch z),λb o q hb => ?_,hw⟩
 · have q1:=I.base.keep b o q n hb (λz=>nomatch z)
   refine hideAll_get _ q1 λz => ?_
   rcases List.mem_cons.mp (hsub b z)with e'|z
   · have:=I.ok.above
     exact absurd (Heap.lt_size q) (Nat.not_lt.mpr (by rw [e'];exact this))
   · exact hb z
 · obtain⟨sl,q1⟩:=I.base.slot b o q (I.ok.frf b hb) hb (λz=>nomatch z)
   obtain⟨_,o',q2,hnf⟩:=I.ok.funs.mem hb;have:o'=o:=Option.some.inj (q2.symm.trans q);subst this;obtain⟨sl2,q4⟩:=x4 b _ (hx.keeps b _ q1) (show ∀vs,({ cls:=o'.cls,dict:=o'.dict,data:=o'.data,slots:=sl }:Obj).data ≠ .fields vs from hnf);exact⟨sl2,q4⟩
theorem QV:XV (CX1 P w) (YO (CX1 P w) P w K mg base N qual scope f cd A outer s H E) (λc d H'=>Same H H'/\E c d H'):=by
 intro pins σ H1 s1 ev s' I ⟨ea,cls,a0,B,H2,e,hos,hb,hfl,hKB,hok,hsame,hfree,hup,hS,hE⟩;subst e;show wpAny (model P w) _ (leaving _ (.ref ea)) _ _ _;refine wpAny_leaves_onW (outer:=outer) I.ok.frames rfl hfl λh2 y1 y2 => ?_
 refine⟨ea,cls,a0,B,H2,rfl,hos.trans I.os,hb,y1,λb o q n hn => ?_,hok,hS,λb o q n => ?_,λb o q hn => ?_,hE⟩
 · refine hKB b o (I.base.keep b o q n hn (λz=>nomatch z)) (I.base.free b o q n (λz=>nomatch z)) λz => ?_
   rcases List.mem_cons.mp (I.stkSub b z)with e'|z
   · exact absurd (Heap.lt_size q) (Nat.not_lt.mpr (by rw [e'];exact I.ok.above))
   · exact hn z
 · obtain⟨sl,q1⟩:=I.base.any q n (λz=>nomatch z)
   exact hfree b _ q1 (I.base.free b o q n (λz=>nomatch z))
 · obtain⟨sl,q1⟩:=I.base.slot b o q (I.ok.frf b hn) hn (λz=>nomatch z)
   obtain⟨_,o',q2,hnf⟩:=I.ok.funs.mem hn;have:o'=o:=Option.some.inj (q2.symm.trans q);subst this;obtain⟨sl',q3⟩:=hup b _ q1 (List.mem_cons_of_mem _ hn);obtain⟨sl2,q4⟩:=y2 b _ q3 (show ∀vs,({ cls:=o'.cls,dict:=o'.dict,data:=o'.data,slots:=sl' }:Obj).data ≠ .fields vs from hnf);exact⟨sl2,q4⟩
end
end L2
namespace L2
open PySem PySem.Spec PySem.W PyProof.Rows PySem.Calls PySem.Builtin PySem.Builtin.ObjectAttr PySem.Builtin.Getset_descriptor
structure ExCls(K:PySem.W.Frag)(C:Addr):Prop where
 ga:findIn K (.ref C) "__getattribute__" = some (some (.builtin "BaseException.__getattribute__"))
 mb:mroIn K C (.type "BaseException")=some true
 gt:findIn K (.ref C) "__getattr__" = some none
 ca:findIn K (.ref C) "__class__" = some (some (.builtin "object.__class__"))
 cg:specialIn K (.builtin "object.__class__") "__get__" = some (some (.builtin "getset_descriptor.__get__"))
 ct:takesIn K (.builtin "object.__class__")=some true
 mo:mroIn K C (.type "object")=some true
 cl:(clsIn K C).isSome=true
section
variable{P:Program}{w:World}{A:Around}{E:Value->Shared->Prop}{s:Shared}{K:PySem.W.Frag}{e C:Addr}
theorem UJ{M:Model}{hp:Heap}(p:Y6 e (.ref C) hp):Looks M hp (typeOf (.ref e)) (.ref C):=by
 obtain⟨o,h1,h2⟩:=p;exact h2▸(Looks.ld h1).andThen .now
theorem Ze2{M:Model}{hp:Heap}(T:ExCls K C)(KX:K.In hp):Looks M hp (Builtin.ObjectAttr.find (.ref e) (.ref C) "__class__") (.bind (.builtin "getset_descriptor.__get__") (.builtin "object.__class__")):=
 (looks_findIn (M:=M) KX T.ca).andThen ((show Looks M hp (Builtin.ObjectAttr.getOf (some (.builtin "object.__class__"))) _ from looks_specialIn KX T.cg).andThen
   ((show Looks M hp (Builtin.ObjectAttr.dataDescriptor? (some (.builtin "object.__class__")) (some (.builtin "getset_descriptor.__get__"))) (some (Value.builtin "getset_descriptor.__get__",Value.builtin "object.__class__"))from(looks_takesIn (M:=M) KX T.ct).andThen .now).andThen (Looks.tag .now)))
theorem Ze3{tp:Value}{R:Result->Shared->Prop}(T:ExCls K C)(KX:K.In s.heap)(p:Y6 e (.ref C) s.heap)(hr:R (.ok (.ret (.ref C))) s) :
 codeAny (model P w) A (.call (.builtin "getset_descriptor.__get__") ⟨[.builtin "object.__class__",.ref e,tp],[]⟩) R s:=by
 cases s with
 |mk hp gs dr tk os'=>
 have Y0:=UJ (M:=model P w) p;have Y1:=looks_mroIn (M:=model P w) KX T.mo
 refine codeAny_call_builtin KF.slot_gs.plain KF.entry_gs (KF.slot_gs.check _ _ _ _ _ _ _ _ KF.type_class (KF.args_gs _ _ _) (by
  unfold Builtin.«getset_descriptor.__get__» descrGet;rw [dga_obj];refine wpAny_bind (wpAny_pure ?_);unfold descrGetter descrCheckInstance descrNameAndClass isInstance;simp only [KF.owner_class];(repeat lk);refine⟨Code.quiet_builtin _ (by decide +kernel),codeAny_builtin KF.entry_class (by unfold Builtin.«object.__class__» shownTypeOf;(repeat lk);exact hr)⟩))
theorem Zek{tk:Tok}{Q:Fin->Shared->Prop}(T:ExCls K C)(KX:K.In s.heap)(p:Y6 e (.ref C) s.heap)(hq:Q (.done (.ret (.ref C))) s):wpAny (model P w) A (Builtin.«object.__getattribute__» ⟨[.ref e,.str "__class__" tk],[]⟩) Q E s:=by
 have Y0:=UJ (M:=model P w) p;have Y2:=Ze2 (e:=e) (M:=model P w) T KX;unfold Builtin.«object.__getattribute__»;refine wpAny_bind (wpAny_pure ?_);refine wpAny_bind (wpAny_pure ?_);refine wpAny_bind (Y0.here (wpAny_bind (Y2.here ?_)));show wpAny _ _ (holding [Value.builtin "object.__class__"] (call (.builtin "getset_descriptor.__get__") [.builtin "object.__class__",.ref e,.ref C]) >>= ret) _ _ _
 exact wpAny_bind (wpAny_holding (wpAny_call (Ze3 T KX p (wpAny_pure hq))))
theorem Zel{nameV:Value}{Q:Unit->Shared->Prop}(T:ExCls K C)(KX:K.In s.heap)(p:Y6 e (.ref C) s.heap)(hq:Q () s):wpAny (model P w) A (checkBuiltinCall "BaseException.__getattribute__" ⟨[.ref e,nameV],[]⟩) Q E s:=by
 cases s with
 |mk hp gs dr tk os'=>
 have Y0:=UJ (M:=model P w) p;have Y1:=looks_mroIn (M:=model P w) KX T.mb;have e1:builtinKind "BaseException.__getattribute__" = some .slot:=by decide +kernel
 have e2:splitId "BaseException.__getattribute__" = some ("BaseException", "__getattribute__"):=by decide +kernel
 have e3:=F.args_bexc_ga (.ref e) nameV;simp only [checkBuiltinCall,e1,e2];unfold isInstance
 repeat (first|exact hq|assumption|lk|wp_step)
theorem Zem{Q:Option Value->Shared->Prop}(T:ExCls K C)(KX:K.In s.heap)(p:Y6 e (.ref C) s.heap)(hq:Q (some (.ref C)) { s with toks:=s.toks+1 }):wpAny (model P w) A (getAttr? (.ref e) "__class__") Q E s:=by
 cases s with
 |mk hp gs dr tk os'=>
 have Y0:=UJ (M:=model P w) p;have Y1:=looks_findIn (M:=model P w) KX T.ga;have Y3:=looks_findIn (M:=model P w) KX T.gt;have b1:=PySem.F.attr_ValueError.ga.bind (.ref e);unfold getAttr? getAttrBy? getAttrBy;refine wpAny_bind (wpAny_mkText (wpAny_bind (wpAny_attempt (wpAny_holding (wpAny_bind (Y0.at (wpAny_bind (Y1.at ?_))))))));show wpAny _ _ (getAttrByItsOwn (.ref e) _ (.ref C) (.builtin "BaseException.__getattribute__") false false) _ _ _
 unfold getAttrByItsOwn hookBefore;refine wpAny_bind (Y3.at ?_);refine wpAny_bind (wpAny_attempt (wpAny_holding ?_));show wpAny _ _ (boundAndCalled (.builtin "BaseException.__getattribute__") (.ref e) _) _ _ _;unfold boundAndCalled;rw [b1];refine wpAny_bind (wpAny_pure ?_);show wpAny _ _ (call (.builtin "BaseException.__getattribute__") [.ref e,.str "__class__" _]) _ _ _;refine wpAny_call (codeAny_call_builtin PySem.F.attr_ValueError.ga.plain F.entry_bexc_ga (Zel (s:=⟨hp,gs,dr,tk+1,os'⟩) T KX p (Zek (s:=⟨hp,gs,dr,tk+1,os'⟩) T KX p ?_)))
 exact wpAny_mono (handed_on (E:=λ_ _=>False) rfl (show(λv s''=>Q (some v) s'') (.ref C) _ from hq)) (λv s'' hv=>wpAny_pure hv) (λ_ _ z=>z.elim)
theorem Zcv(T:ExCls K C):KitX K (.ref e) (.ref C) (Y6 e (.ref C)) where
 ty:=λ_ _ _ p=>UJ p
 it:=λM hp KX _=>by
  have hc:=T.cl;cases hq:clsIn K C with
  |none=>rw [hq]at hc;cases hc
  |some cd=>
   unfold clsIn at hq
   split at hq
   · rename_i look0
     intro A' Q' E' s' k0 q0;unfold isType loadHead;exact wpAny_bind (wpAny_loadPart (k0 _ _ (KX _ _ look0)) (wpAny_pure q0))
   · cases hq
 ne:=λhp tp dd its n sl KX htp=>by
  have hc:=T.cl;cases hq:clsIn K C with
  |none=>rw [hq]at hc;cases hc
  |some cd=>
   cases hz:(Value.ref C == Value.ref tp)with
   |false=>rfl
   |true=>
    exfalso
    have ez:C=tp:=Value.ref.inj (beq_iff_eq.mp hz);subst ez;unfold clsIn at hq
    split at hq
    · rename_i look0
      have:=(KX _ _ look0).symm.trans htp;cases this
    · cases hq
 ca:=λKX p k=>Zem T KX p k
end
end L2
namespace L2
open PySem PySem.Spec PySem.W PyProof.Rows
theorem ObjOk.there{P:Program}{w:World}{H:Hp}{hp:Heap}{a:Addr}{o:HO}(x:ObjOk P w H hp a o):∃u,hp.get? a=some u:=by
 cases o with
 |lst xs=>obtain⟨_,_,_,_,e⟩:=x;exact⟨_,e⟩
 |tup xs=>obtain⟨_,_,_,ob,e,_⟩:=x;exact⟨_,e⟩
 |dK kvs=>obtain⟨_,_,_,_,o,_,_,e,_⟩:=x;exact⟨_,e⟩
 |dT kvs=>obtain⟨_,_,_,_,o,_,_,e,_⟩:=x;exact⟨_,e⟩
 |set S n=>obtain⟨o,_,_,_,e,_⟩:=x;exact⟨_,e⟩
 |ins C dx fs=>obtain⟨_,_,_,e,_⟩:=x;exact⟨_,e⟩
 |own y=>exact x
 |xd fs=>obtain⟨_,⟨_,_,_,e,_⟩,_⟩:=x;exact⟨_,e⟩
 |rng lo hi=>obtain⟨_,_,_,e⟩:=x;exact⟨_,e⟩
 |frz ob u=>obtain⟨e,_⟩:=x;exact⟨_,e⟩
 |tbl ps=>exact⟨_,x⟩
 |met f y=>exact⟨_,x⟩
 |ext φ=>exact x.2.1
section
variable{X:Cx}{pins:List (Addr×Obj)}{σ:St}{H H':Hp}{s s':Shared}{B hp:Heap}{ea:Addr}{C:Value}
theorem Za0 (I:Inv X pins σ H s) (hos:s'.os=s.os) (hbare:AllBare s'.gens) (hst:B.StaysIn s'.heap) (hea:B.get? ea=none) (hKB:∀b o,s.heap.get? b=some o->H b=none->b∉frs X.stack->B.get? b=some o)
 (hok:HOk X.prog X.w H' B) (hsame:Same H H') (hfree:∀b o,s.heap.get? b=some o->H b=none->H' b=none) (hup:∀b o,s.heap.get? b=some o->b∈frs X.stack->∃sl,s'.heap.get? b=some { o with slots:=sl })
 (hx:Y6 ea C s'.heap) (hnf:ea∉frs X.stack):Inv X pins σ (upd H' ea (.ext (Y6 ea C))) s'/\H' ea=none:=by
 have hn:H' ea=none:=by
  cases q:H' ea with
  |none=>rfl
  |some o=>
   obtain⟨u,e⟩:=(hok ea o q).there;rw [hea]at e;cases e
 have ne':∀b o,H' b=some o->b≠ea:=λb o q z=>by rw [z,hn]at q;cases q
 have hup':∀b o,H' b=some o->upd H' ea (.ext (Y6 ea C)) b=some o:=λb o q=>(ZJ (ne' b o q)).trans q
 refine⟨I.call' (ch:=[]) hos ⟨λb o q n hb _=>hst b o (hKB b o q n hb),λb o q n hb _=>hup b o q hb,λb o q n _ => ?_,λb o q _ => ?_,λb xs q=>hup' b _ (hsame b _ q),λb ob u q=>hup' b _ (hsame b _ q),λb ps q=>⟨#[],by rw [hup' b _ (hsame b _ q)];simp⟩⟩ ?_ hbare (λb z=>nomatch z),hn⟩
 · by_cases hb:b∈frs X.stack
   · have hbe:b≠ea:=λz=>hnf (by rw [<-z];exact hb)
     rw [ZJ hbe];exact hfree b o q n
   · have:=hKB b o q n hb
     have hbe:b≠ea:=λz=>by rw [z,hea]at this;cases this
     rw [ZJ hbe];exact hfree b o q n
 · by_cases hb:b∈frs X.stack
   · obtain⟨sl,e⟩:=hup b o q hb
     exact⟨_,e⟩
   · cases n:H b with
     |none=>exact⟨o,hst b o (hKB b o q n hb)⟩
     |some u=>
      obtain⟨v,e⟩:=(hok b u (hsame b u n)).there;exact⟨v,hst b v e⟩
 · intro a o q
   by_cases ha:a=ea
   · subst ha
     rw [YH]at q;cases q;obtain⟨ob,h1,h2⟩:=hx;exact⟨⟨ob,h1,h2⟩,⟨ob,h1⟩,λg1 g2 ⟨o1,a1,a2⟩ k=>⟨o1,k o1 a1,a2⟩⟩
   · rw [ZJ ha]at q
     exact(hok a o q).stay (λb u _ e=>hst b u e) (λb e=>hup' b _ e) λb xs e=>hup' b _ e
theorem J6 {M:Model} {A:Around} {E:Value->Shared->Prop} {i:Nat} {n:Str} {pos:Pos} {Q:Unit->Shared->Prop} (I:Inv X pins σ H s) (hN:X.N.Nodup) (hi:X.N[i]? = some n) (hk:X.env.scope.names.lookup n=some .local)
 (hq:∀s',Inv X pins (σ.set i none) H s'->Q () s'):wpAny M A (do bindName X.env n .none;unbindBehindTheSuite X.env n pos) Q E s:=by
 obtain⟨m,hn,hl⟩:=id I.loc;have hcls:(X.env.scope.kind == .class||(X.env.scope.kind == .module&&X.env.locals != X.env.globals))=false:=by rw [I.ok.kind];rfl
 have cne:=I.cne;refine wpAny_nameGoes_keeps hk hn hcls λh1 v hn1 hs => ?_
 obtain⟨oL,_,_,hoL,_⟩:=id hn;have low:∀{b:Addr}{o:Obj},X.s₀.heap.get? b=some o->b≠X.env.locals:=λ{b o} e=>Nat.ne_of_lt (Nat.lt_of_lt_of_le (Heap.lt_size e) I.ok.above)
 refine hq _ ⟨I.ok,I.os,I.bare,⟨λb o e n' hb hx=>(hs.2 b (low e)).trans (I.base.keep b o e n' hb hx),λb o e n' hb hx => ?_,I.base.free,λb o e hx => ?_,I.base.tups,I.base.frzs,I.base.tbls⟩,⟨_,hn1,λj y v' e1 e2 e3 => ?_⟩,λy c e => ?_,I.free,I.freeC,λp hp => ?_,λb ob e => ?_,by simpa using I.len⟩
 · obtain⟨sl,e1⟩:=I.base.slot b o e n' hb hx
   exact⟨sl,(hs.2 b (low e)).trans e1⟩
 · obtain⟨o',e1⟩:=I.base.there b o e hx
   exact⟨o',(hs.2 b (low e)).trans e1⟩
 · by_cases hj:j=i
   · subst hj
     have:j<σ.length:=by rw [I.len];exact(List.getElem?_eq_some_iff.mp hi).1
     rw [List.getElem?_set_self this]at e2;cases e2
   · rw [List.getElem?_set_ne (Ne.symm hj)]at e2
     obtain⟨u',r',q⟩:=hl j y v' e1 e2 e3;refine⟨u',r',?_⟩;rcases q with⟨k1,e⟩|⟨k1,c,e,z⟩
     · refine .inl ⟨k1,?_⟩
       have hyn:y≠n:=λe=>hj (Zbb hN e1 (e▸hi))
       show(if y=n then v else m y)=some u';rw [if_neg hyn];exact e
     · exact .inr ⟨k1,c,e,z.sameBut hs (cne y c e)⟩
 · obtain⟨w',z⟩:=I.cell y c e
   exact⟨w',z.sameBut hs (cne y c e)⟩
 · obtain⟨e,n',ne,nf,d⟩:=I.pin p hp
   exact⟨(hs.2 p.1 ne).trans e,n',ne,nf,d⟩
 · refine(I.hok b ob e).stay (λc w' hc q=>(hs.2 c ?_).trans q) (λ_ q=>q) λ_ _ q=>q
   intro z;have fr:=I.free;rcases hc with hc|hc
   · rw [<-z,hc,e]at fr;cases fr
   · rw [<-z,hc]at fr;cases fr
end
abbrev Cx.suite(X:Cx)(ea:Addr):Cx:={ X with A:=X.A.mark (some (.ref ea)),calm:=false,xe:=λ_ _=>False }
theorem Inv.suite{X:Cx}{pins:List (Addr×Obj)}{σ:St}{H:Hp}{s:Shared}(I:Inv X pins σ H s)(ea:Addr):Inv (X.suite ea) pins σ H s:=
 ⟨⟨I.ok.mod,I.ok.kind,I.ok.glob,I.ok.blt,I.ok.above,I.ok.inj,I.ok.has,I.ok.cab,(λz=>nomatch z),I.ok.frames,I.ok.stk,I.ok.exf,I.ok.bs,I.ok.bsz,I.ok.noex,I.ok.exfs,I.ok.funs,I.ok.frf⟩,I.os,I.bare,I.base,I.loc,I.cell,I.free,I.freeC,I.pin,I.hok,I.len⟩
theorem Inv.unsuite{X:Cx}{pins:List (Addr×Obj)}{σ:St}{H:Hp}{s:Shared}{ea:Addr}(ok:X.Ok)(I:Inv (X.suite ea) pins σ H s):Inv X pins σ H s:=
 ⟨ok,I.os,I.bare,I.base,I.loc,I.cell,I.free,I.freeC,I.pin,I.hok,I.len⟩
def PEx(X:Cx)(E:XK)(e:Expr)(t:TE):Prop:=∀(pins:List (Addr×Obj))(s:Shared)(σ:St)(H:Hp)(Q:VK)(xe:Value->Shared->Prop),Inv X pins σ H s->t σ H Q ->
 (∀H2 s2 ev s',Inv X pins σ H2 s2->CX1 X.prog X.w X.stack H2 s2 E ev s'->xe ev s')->wpAny (model X.prog X.w) X.A (eval e X.env) (EP X pins σ Q) xe s
def PSx(X:Cx)(E:XK)(st:List Stmt)(t:TS):Prop:=∀(pins:List (Addr×Obj))(s:Shared)(σ:St)(H:Hp)(D:Ends)(xe:Value->Shared->Prop),Inv X pins σ H s->t D σ H ->
 (∀H2 s2 ev s',Inv X pins σ H2 s2->CX1 X.prog X.w X.stack H2 s2 E ev s'->xe ev s')->wpAny (model X.prog X.w) X.A (execs st X.env) (SP X pins D) xe s
section
variable{X:Cx}{E:XK}
theorem Ze4 {k:Nat} {f:Addr} {fd:FuncData} {ps:List Str} {sp:Sp} {dvs:List V} {ds:List Value} {x:Str} {p pos:Pos} {e:Expr} {es:List Expr} {t:TA}
 (F:FnOk X.prog X.w X.K X.mg X.base (CX1 X.prog X.w) k f fd ps sp) (hr:Room k X.A) (hg:Gl X x) (hm:X.mg x=some (.ref f)) (hk:PySem.W.keepIn X.K (.ref f)=true) (hb:Binds X.K fd ps ds) (hd:Vals dvs ds) (h0:∀e s,¬X.xe e s) (ha:PA X (e::es) t)
 (hdb:(x == ("__debug__" : Str))=false:=by decide) (he:starEach (e::es) X.env=(false,eval e X.env)::starEach es X.env:=by rfl) (hpl:(backTo pos (starEach es X.env)).any (·.1)=false:=by rfl) :
 PEx X E (.Call (.Name x p) (e::es) [] pos) (X5 sp dvs E t):=by
 intro pins s σ H Q xe I h hx;refine wpAny_Call_Name_kw (Vg I hg hm ?_ hdb);refine PySem.W.callWith_K (h₀:=X.base) I.ok.mod.kin hk (wpAny_mono (ha pos pins s σ H _ I h) (λus s1 ⟨vs,H1,I1,r,q⟩=>⟨I1.kIn,?_⟩) λe s z=>(h0 e s z).elim) he hpl;have r2:Vals (vs++dvs) (us++ds):=r.append hd;have hl:(us++ds).length=ps.length:=by rw [<-r2.length];exact F.len _ _ _ _ q
 refine wpAny_call (codeAny_mono (F.run X.A X.stack s1 H1 ⟨us,[]⟩ (us++ds) (vs++dvs) Q E hr I1.env0 (hb s1 us I1.kIn hl) r2 q) λr' s' hq => ?_);cases r' with
 |error ev=>exact hx H1 s1 ev s' I1 hq
 |ok fl=>
  cases fl with
  |ret u=>exact I1.after hq
  |next=>exact False.elim hq
  |brk=>exact False.elim hq
  |cont=>exact False.elim hq
end
end L2
namespace L2
open PySem PySem.Spec PySem.W PyProof.Rows
def Zdu(i:Nat)(D:Ends):Ends:={ nx:=λσ H=>D.nx (σ.set i none) H,rt:=D.rt,bk:=λσ H=>D.bk (σ.set i none) H,ct:=λσ H=>D.ct (σ.set i none) H }
section
variable{X:Cx}{G:Addr}{g n:Str}{i:Nat}{body suite:List Stmt}{b₀:Stmt}{gp hpos pos:Pos}{tb:XK->TS}{ts:Addr->Addr->TS}
end
end L2
namespace DL
open PySem PySem.Spec L2
def spX(cA:Kn)(n:Nat)(m:List D->Option D)(x:List D->Option String):Sp:=λvs H Q E=>spD cA n m vs H Q E \/
 ∃(av:Addr->Prop) (ds:List D) (c:String),(∀a,av a->H a≠none)/\RepL cA av H ds vs/\ds.length=n/\x ds=some c/\∀H',Same H H'->E (.ref (cA.c c)) none H'
def Qm(N:Nat)(χ:Env->Option String)(ds:List D):Option String:=χ (ds.map some++List.replicate (N-ds.length) none)
def VX(G:Cn)(ow:List Nat)(E:XK)(ts:TS)(χ:Env->Option String):Prop:=
 ∀H0 av A σ H δ,ER G ow H0 av A σ H δ->∀c,χ δ=some c->(∀H',Same H0 H'->E (.ref (G.1.c c)) none H')->∀De:Ends,ts De σ H
def VXe(G:Cn)(ow:List Nat)(E:XK)(te:TE)(χ:Env->Option String):Prop:=
 ∀H0 av A σ H δ,ER G ow H0 av A σ H δ->∀c,χ δ=some c->(∀H',Same H H'->E (.ref (G.1.c c)) none H')->∀Q:VK,te σ H Q
def VXs(G:Cn)(ow:List Nat)(E:XK)(ts:TS)(χ:Env->Option String):Prop:=
 ∀H0 av A σ H δ,ER G ow H0 av A σ H δ->∀c,χ δ=some c->(∀H',Same H H'->E (.ref (G.1.c c)) none H')->∀De:Ends,ts De σ H
section
variable{cA:Kn}{G:Cn}{ow ow1 owB owC owN:List Nat}{E:XK}
def Qn(c:String)(α:Env->Option (List D))(δ:Env):Option String:=match α δ with
 |some ds=>if ds.length<=8 then some c else none
 |none=>none
theorem Ze5{C:Addr}{t:TA}{q:Ql}{α:Env->Option (List D)}(c:String)(hC:C=G.1.c c)(h:VA G ow t q α):VX G ow E (Zdf E C t) (Qn c α):=λH0 av A σ H δ R c' e k De=>by
 unfold Qn at e;cases he:α δ with
 |none=>rw [he]at e;cases e
 |some ds=>
  rw [he]at e;dsimp only at e
  by_cases hz:ds.length<=8
  · rw [if_pos hz]at e
    cases e;subst hC;exact h H0 av A σ H δ R ds he _ λvs H1 s1 r1=>⟨by rw [<-r1.any.length];exact hz,k H1 (R.same.trans s1)⟩
  · rw [if_neg hz]at e;cases e
def xIf(τ:Env->Option Bool)(χ ψ:Env->Option String)(δ:Env):Option String:=match τ δ with
 |some true=>χ δ
 |some false=>ψ δ
 |none=>none
theorem ZjQ{c:TT}{t u:TS}{τ:Env->Option Bool}{χ ψ:Env->Option String}(hc:VT G ow c τ)(h1:VX G ow E t χ)(h2:VX G ow E u ψ):VX G ow E (Jz c t u) (xIf τ χ ψ):=λH0 av A σ H δ R c' e k De=>by
 unfold xIf at e;cases he:τ δ with
 |none=>rw [he]at e;cases e
 |some b=>
  rw [he]at e;refine hc H0 av A σ H δ R b he _ λH' s => ?_
  cases b with
  |true=>exact Ua (h1 H0 av A σ H' δ (R.mono s) c' e k De)
  |false=>exact V9 (h2 H0 av A σ H' δ (R.mono s) c' e k De)
def Zje(χ:Env->Option String)(φ:Env->Option Out)(ψ:Env->Option String)(δ:Env):Option String:=match χ δ with
 |some c=>some c
 |none=>match φ δ with
  |some (.nx δ1)=>ψ δ1
  |_=>none
theorem Zh5{t u:TS}{χ ψ:Env->Option String}{φ:Env->Option Out}(h1:VX G ow E t χ)(hv:VS G ow ow1 owB owC t φ)(h2:VX G ow1 E u ψ):VX G ow E (Uv t u) (Zje χ φ ψ):=λH0 av A σ H δ R c e k De=>by
 unfold Zje at e;cases hx:χ δ with
 |some c'=>
  rw [hx]at e;cases e;exact h1 H0 av A σ H δ R c hx k _
 |none=>
  rw [hx]at e;dsimp only at e;cases hp:φ δ with
  |none=>rw [hp]at e;cases e
  |some o=>
   rw [hp]at e;cases o with
   |nx δ1=>exact hv H0 av A σ H δ R _ hp _ λA' σ' H' R'=>h2 H0 av A' σ' H' δ1 R' c e k De
   |rt d=>cases e
   |bk δ1=>cases e
   |ct δ1=>cases e
theorem VXs.vx{ts:TS}{χ:Env->Option String}(h:VXs G ow E ts χ):VX G ow E ts χ:=λH0 av A σ H δ R c e k De=>h H0 av A σ H δ R c e (λH' s=>k H' (R.same.trans s)) De
theorem Ze6{te:TE}{χ:Env->Option String}(h:VXe G ow E te χ):VXs G ow E (VB te) χ:=λH0 av A σ H δ R c e k De=>h H0 av A σ H δ R c e k _
theorem ZgB{te:TE}{χ:Env->Option String}{g:TG}(h:VXe G ow E te χ):VXs G ow E (V6 te g) χ:=λH0 av A σ H δ R c e k De=>h H0 av A σ H δ R c e k _
theorem Zdv{te:TE}{χ:Env->Option String}(h:VXe G ow E te χ):VXs G ow E (QJ te) χ:=λH0 av A σ H δ R c e k De=>h H0 av A σ H δ R c e k _
theorem Zbf{n:Nat}{m:List D->Option D}{x:List D->Option String}{t:TA}{q:Ql}{α:Env->Option (List D)}{E0:XK}(dds:List D)(hd:dds.all ZC=true)(h:VA G ow t q α):VE G ow (X5 (spX G.1 n m x) (dds.map val) E0 t) q.cq (Zs n m dds α):=λH0 av A σ H δ R d e Q k=>by
 unfold Zs at e;cases he:α δ with
 |none=>rw [he]at e;cases e
 |some ds=>
  rw [he]at e;dsimp only at e
  by_cases hz:(ds++dds).length=n
  · rw [if_pos hz]at e
    refine h H0 av A σ H δ R ds he _ λvs H1 s1 r1 => .inl ?_
    have E1:=R.mono s1;cases q with
    |cl=>exact⟨AV av A,ds++dds,d,E1.avl,r1.cl.append (.of_vals hd),hz,e,λv H' s r=>k v H' (s1.trans s) r.t⟩
    |tp=>exact⟨av,ds++dds,d,E1.avH,r1.any.append (.of_vals hd),hz,e,λv H' s r=>k v H' (s1.trans s) r.t⟩
    |dt=>exact⟨av,ds++dds,d,E1.avH,r1.any.append (.of_vals hd),hz,e,λv H' s r=>k v H' (s1.trans s) r.t⟩
  · rw [if_neg hz]at e;cases e
def Vs(n:Nat)(x:List D->Option String)(dds:List D)(α:Env->Option (List D))(δ:Env):Option String:=match α δ with
 |some ds=>if(ds++dds).length=n then x (ds++dds)else none
 |none=>none
theorem Zbg{n:Nat}{m:List D->Option D}{x:List D->Option String}{t:TA}{q:Ql}{α:Env->Option (List D)}(dds:List D)(hd:dds.all ZC=true)(h:VA G ow t q α):VXe G ow E (X5 (spX G.1 n m x) (dds.map val) E t) (Vs n x dds α):=λH0 av A σ H δ R c e k Q=>by
 unfold Vs at e;cases he:α δ with
 |none=>rw [he]at e;cases e
 |some ds=>
  rw [he]at e;dsimp only at e
  by_cases hz:(ds++dds).length=n
  · rw [if_pos hz]at e
    refine h H0 av A σ H δ R ds he _ λvs H1 s1 r1 => .inr ⟨av,ds++dds,c,(R.mono s1).avH,r1.any.append (.of_vals hd),hz,e,λH' s=>k H' (s1.trans s)⟩
  · rw [if_neg hz]at e;cases e
end
section
variable{P:Program}{w:World}{K:PySem.W.Frag}{mg:Str->Option Value}{base:Heap}{cA:Kn}
theorem ZjR {x qual:Str} {st:Stmt} {f:Addr} {fd:FuncData} {N ps:List Str} {k:Nat} {φ:Env->Option Out} {χ:Env->Option String} {body:List Stmt} {scope:Scope} {n:Nat} {m:List D->Option D} {xm:List D->Option String} (F:FunX K x qual st f fd) (S:FnScope N ps (defScope st)) (hS:defScope st=scope) (hB:defBody st=body)
 (hbody:∀(cdv:Value)(A:Around)(outer:List PySem.Env)(s:Shared)(H:Hp)(E:XK),Room k (A.deeper (PyProof.Rows.envOfC qual scope s.heap.objs.size f cdv)) ->
   ∃t,PSs (YO (CX1 P w) P w K mg base N qual scope f cdv A outer s H E) body t/\∃owN,VS ⟨cA,λ_=>none⟩ [] owN [] [] t φ/\VX ⟨cA,λ_=>none⟩ [] (λc d H'=>Same H H'/\E c d H') t χ) (hm:m=run N.length φ) (hx:xm=Qm N.length χ) (hn:ps.length=n) :
 FnOk P w K mg base (CX1 P w) (k+1) f fd ps (spX cA n m xm):=by
 subst hS hB hm hx hn;obtain⟨oc,od,dV,kV,doc,pm,an,cdv,ct,osl,rfl,lk,hcd⟩:=F.ex;refine JD lk hcd S (λvs H Q E h => ?_) λA outer s H vs Q E hr h => ?_
 · rcases h with⟨av,ds,d,_,r,hl,_⟩|⟨av,ds,c,_,r,hl,_⟩
   · rw [<-r.length,hl]
   · rw [<-r.length,hl]
 · obtain⟨t,ht,owN,hv,hX⟩:=hbody cdv A outer s H E hr
   refine⟨t,ht,?_⟩;rcases h with⟨av,ds,d,ha,r,hl,hm,q⟩|⟨av,ds,c,ha,r,hl,hm,q⟩
   · unfold run at hm
     cases hφ:φ (ds.map some++List.replicate (N.length-ds.length) none)with
     |none=>rw [hφ]at hm;cases hm
     |some o=>
      rw [hφ]at hm;refine hv H av _ _ H _ (Zbd ha r) o hφ _ ?_;cases o with
      |nx δ'=>cases hm;exact λA' σ' H' E'=>q .non H' E'.same rfl
      |rt d'=>cases hm;exact λv H' s' r'=>q v H' s' r'
      |bk δ'=>cases hm
      |ct δ'=>cases hm
   · exact hX H av _ _ H _ (Zbd ha r) c hm (λH' s'=>⟨s',q H' s'⟩) _
end
end DL
namespace DL
open PySem PySem.Spec L2
def Qo(c:String):List (List (String×Bool))->Option (List Bool)
 | []=>some []
 |t::r=>match t.lookup c,Qo c r with
  |some b,some bs=>some (b::bs)
  |_,_=>none
def Zls(K:PySem.W.Frag)(cA:Kn)(v:V)(tab:List (String×Bool)):Prop:=∀c b,tab.lookup c=some b->∃cv,(∀u,RelV v u->u=cv)/\PySem.W.kitOne K (.ref (cA.c c)) cv=some b
inductive IsiEs(K:PySem.W.Frag)(cA:Kn):List V->List (List (String×Bool))->Prop where
 |nil:IsiEs K cA [] []
 |cons {v:V} {t:List (String×Bool)} {vs:List V} {ts:List (List (String×Bool))}:Zls K cA v t->IsiEs K cA vs ts->IsiEs K cA (v::vs) (t::ts)
section
variable{cA:Kn}{G:Cn}{ow owB owC:List Nat}
theorem ER.none{H0 H:Hp}{av:Addr->Prop}{A:Nat->Option Addr}{σ:L2.St}{δ:Env}{i:Nat}{x:Option V}(R:ER G ow H0 av A σ H δ)(hi:ow.contains i=false)(hn:G.2 i=Option.none):ER G ow H0 av A (σ.set i x) H (δ.set i Option.none):=
 ⟨R.same,R.avd,R.fr,R.inj,R.live,R.dom,R.dom',by rw [List.length_set,List.length_set];exact R.len,R.pin,(λj v' e=>by
   have q:j≠i:=λz=>by rw [z,hn]at e;cases e
   rw [List.getElem?_set_ne (Ne.symm q)];exact R.kept j v' e),λj d e=>by
   have hj:j≠i:=by
    intro z;subst z
    by_cases hl:j<δ.length
    · rw [List.getElem?_set_self hl]at e;cases e
    · rw [List.getElem?_eq_none (by rw [List.length_set];omega)]at e;cases e
   rw [List.getElem?_set_ne (Ne.symm hj)]at e;obtain⟨v,h1,h2⟩:=R.var j d e;exact⟨v,by rw [List.getElem?_set_ne (Ne.symm hj)];exact h1,h2⟩⟩
end
end DL
namespace DL
open PySem PySem.Spec L2 PyProof.Rows
def Wd(i:Int):Prop:=i.natAbs<2 ^ 8000
instance (i:Int):Decidable (Wd i):=by unfold Wd;infer_instance
def CMulW(i j:Int):Prop:=(Wd i/\Wd j)\/CMul i j
instance (i j:Int):Decidable (CMulW i j):=by unfold CMulW;infer_instance
def Zhj(_ j:Int):Prop:=j≠0/\Wd j
instance (i j:Int):Decidable (Zhj i j):=by unfold Zhj;infer_instance
instance (i j:Int):Decidable (Ux i j):=by unfold Ux;infer_instance
theorem Zh6{i:Int}(h:Wd i)(h0:i≠0):i.natAbs.log2<8000:=(Nat.log2_lt (by omega)).mpr h
theorem CMulW.ok{i j:Int}(h:CMulW i j):IntMulOk i j:=by
 rcases h with⟨h1,h2⟩|h
 · have bits : ∀ {a : Int}, Wd a -> Builtin.Int.intBits a <= 2 ^ 20 := fun {a} ha => by
    unfold Builtin.Int.intBits
    by_cases h0:a=0
    · subst h0;decide
    · have:=Zh6 ha h0
      have e:(2:Nat) ^ 20=1048576:=by decide
      rw [e]
      split<;>omega
   exact .of_bits (bits h1) (bits h2)
 · exact h.ok
section
variable{X:Cx}{cA:Kn}
def powW:D->D->Option D
 | .int i,.int j=>if Ux i j then some (.int (i ^ j.toNat))else none
 |_,_=>none
theorem ZjS{C:Int->Int->Prop} [∀i j,Decidable (C i j)]{g:Int->Int->Int}{f:D->D->Option D}(hf:∀x y d,f x y=some d->∃i j,x = .int i/\y = .int j/\C i j/\d = .int (g i j)):XQ cA (rI C λi j => .int (g i j)) f:=λt t' i H x y vx vy d _ hx hy e Q k=>by
 obtain⟨a,b,rfl,rfl,hc,rfl⟩:=hf x y d e;cases(show vx=_ from hx);cases(show vy=_ from hy);exact⟨_,_,rfl,rfl,hc,k _ H (Same.refl H) rfl⟩
theorem Zdw:XQ cA (rI Ux λi j => .int (i ^ j.toNat)) powW:=ZjS λx y d e=>by
 cases x<;>cases y<;>first|(cases e;done)|skip
 rename_i a b;dsimp only [powW]at e
 by_cases hz:Ux a b
 · rw [if_pos hz]at e;cases e;exact⟨_,_,rfl,rfl,hz,rfl⟩
 · rw [if_neg hz]at e;cases e
end
end DL
namespace L2
open PySem PySem.Spec PyProof.Rows
section
variable{X:Cx}
def Zhk(K:PySem.W.Frag):R2:=λx y H Q=>∃l b xs zs,x = .ref l/\y = .ref b/\SqL K H l xs/\SqL K H b zs/\xs.length+zs.length<=sizeLine/\∀p,H p=none->Q (.ref p) (upd H p (.lst (xs++zs)))
theorem ZgC:OpR X (binaryOp .Add) (Zhk X.K):=by
 intro pins s σ H x y v u Q I rx ry h;obtain⟨l,b,xs,zs,rfl,rfl,hH,hB,hz,q⟩:=h;cases rx;cases ry;obtain⟨its,r,pl,_⟩:=I.list hH;obtain⟨its2,r2,pl2,_⟩:=I.list hB;obtain⟨⟨c1,d1,da1,sl1⟩,n1,g1,e1,e2,e3⟩:=pl;obtain⟨⟨c2,d2,da2,sl2⟩,n2,g2,f1,f2,f3⟩:=pl2;dsimp only at e1 e2 e3 f1 f2 f3;subst e1 e2 e3 f1 f2 f3;have hl:=r.length;have hl2:=r2.length;refine concat_meets ⟨_,g1,rfl⟩ ⟨_,g2,rfl⟩ noFill_list_add seq_list_add PySem.F.slot_list_add PySem.F.entry_list_add (PySem.F.args_list_add_2 _ _) (list_addW l b its.toArray its2.toArray n1 n2 none none sl1 sl2 (by rw [List.size_toArray,List.size_toArray];omega)) ⟨g1,g2,?_⟩
 have ea:its.toArray++its2.toArray=(its++its2).toArray:=by simp
 rw [ea];exact⟨.ref _,_,I.lnew (t':=s.toks) (r.append r2) (by rw [List.length_append];omega),rfl,q _ I.fresh⟩
def Zga(K:PySem.W.Frag):R2:=λx y H Q=>rI0 (λi j => .int (i+j)) x y H Q\/rAddS x y H Q\/Zhk K x y H Q
theorem ZgD:OpR X (binaryOp .Add) (Zga X.K):=op_add.or (op_addS.or ZgC)
theorem QW{K:PySem.W.Frag}(hK:X.K=K:=by rfl):OpR X (binaryOp .Add) (Zga K):=hK▸ZgD
end
end L2
namespace DL
open PySem PySem.Spec L2
section
variable{cA:Kn}{G:Cn}{ow owB owC:List Nat}
def Zjf:D->D->Option D
 | .lst a,.lst b=>if a.length+b.length<=sizeLine then some (.lst (a++b))else none
 |x,y=>addD x y
def Qp(i:Nat)(κ ε:Env->Option D)(δ:Env):Option Out:=match ε δ with
 |some d=>match Za i δ with
  |some (.lst xs)=>match κ δ with
   |some (.int k)=>match ixN xs.length k with
    |some j=>some (.nx (δ.set i (some (.lst (xs.set j d)))))
    |none=>none
   |_=>none
  |_=>none
 |none=>none
theorem ZgE{te ti:TE}{q:Ql}{ε κ:Env->Option D}(i:Nat)(hi:ow.contains i=true)(h:VE G ow te .cl ε)(hk:VE G ow ti q κ):VS G ow ow owB owC (V6 te (Zk0 (XJ i) ti rSetL)) (Qp i κ ε):=λH0 av A σ H δ E o e De k=>by
 unfold Qp at e;cases he:ε δ with
 |none=>rw [he]at e;cases e
 |some d=>
  rw [he]at e;dsimp only at e;cases hv:Za i δ with
  |none=>rw [hv]at e;cases e
  |some x=>
   rw [hv]at e;cases x<;>first|(cases e;done)|skip
   rename_i xs;dsimp only at e;cases hq:κ δ with
   |none=>rw [hq]at e;cases e
   |some y=>
    rw [hq]at e;cases y<;>first|(cases e;done)|skip
    rename_i n;dsimp only at e;cases hj:ixN xs.length n with
    |none=>rw [hj]at e;cases e
    |some j=>
     rw [hj]at e;cases e;have hi':i∈ow:=by simpa using hi
     cases hA:A i with
     |none=>exact absurd hA (E.dom' i hi')
     |some a=>
      refine h H0 av A σ H δ E d he _ λv H1 s1 r1 => ?_
      have E1:=E.mono s1;obtain⟨v0,h1,_,h3⟩:=E1.var i _ (XO hv);obtain⟨rfl,vs,q1,q2⟩:=h3 a hA;refine⟨_,h1,hk H0 av A σ H1 δ E1 _ hq _ λy H2 s2 r2 => ?_⟩;have ey:y = .int n:=r2.any;subst ey;have E2:=E1.mono s2;have q1':=s2 _ _ q1;refine⟨a,vs,n,j,rfl,rfl,q1',by rw [<-q2.length];exact hj,k A σ _ (E2.put hA (XO hv) (λb o hb e=>by rw [ZJ hb];exact e) (by rw [YH];exact λz=>by cases z) ⟨_,YH,?_⟩)⟩
      have ex:∀b o,¬AV av A b->H2 b=some o->upd H2 a (.lst (vs.set j v)) b=some o:=λb o nb e=>by
       rw [ZJ λz=>nb (.inr ⟨i,by rw [z];exact hA⟩)];exact e
      exact(((q2.same s2).set ((RepT.r r1).same s2) j)).ext ex
end
end DL
namespace L2
open PySem PySem.W
end L2
namespace DL
open L2
theorem VX.frz{G:Cn}{ow ow1:List Nat}{E:XK}{t:TS}{χ:Env->Option String}(i:Nat)(h:VX G ow1 E t χ)(hn:G.2 i=none)(h1:sub ow1 ow=true)(h2:ow1.contains i=false)(h3:sub ow (i::ow1)=true):VX G ow E t χ:=λH0 av A σ H δ R c e k De=>
 h H0 av _ σ H δ (R.freeze i (JV h1 h2 h3) hn) c e k De
end DL
namespace L2
open PySem
end L2
namespace L2
open PySem
end L2
namespace L2
open PySem PySem.Spec PySem.W PyProof.Rows
def X9(cs:List Nat):List Nat:=(reprText (tx cs)).cps.toList
theorem Zcw(cs:List Nat)(h:cs.all (λc=>decide (c<65536))=true):(X9 cs).length<=10*cs.length+2:=by
 have:=StrLaws.reprText_len (tx cs) (λc hc=>by
  have h1:=List.all_eq_true.mp h c (by simpa using hc);have:c<65536:=of_decide_eq_true h1;exact Nat.lt_trans this (by decide))
 simpa [X9,Str.length]using this
section
variable{X:Cx}{e:Expr}{te:TE}{pos:Pos}
def Zhl(te:TE):TE:=λσ H Q=>te σ H λv H1=>∃cs,v=S cs/\(X9 cs).length<=sizeLine/\Q (S (X9 cs)) H1
theorem ZgF(he:PE X e te):PE X (.FormattedValue e 114 none pos) (Zhl te):=by
 intro pins s σ H Q I h;refine wpAny_FormattedValue_repr (thn (he pins s σ H _ I h) λu s1 ⟨v,H1,I1,r,cs,ev,hl,q⟩ => ?_);subst ev;obtain⟨t,rfl⟩:=r;have er:tx (X9 cs)=reprText (tx cs):=rfl;have hz:(reprText (tx cs)).length<=sizeLine:=by simpa [X9,Str.length]using hl
 refine wpAny_pyReprObj_str ?_ hz;refine wpAny_formatField_str ⟨S (X9 cs),H1,I1.tok _,⟨_,rfl⟩,q⟩ ⟨S (X9 cs),H1,(I1.tok _),⟨_,rfl⟩,q⟩ hz
def Zhm(te:TE):TE:=λσ H Q=>te σ H λv H1=>(∃cs,v=S cs/\cs.length<=sizeLine/\Q (S cs) H1)\/∃n:Nat,v = .int n/\n<10 ^ 10/\Q (S (Qc n)) H1
theorem Zdx(he:PE X e te):PE X (.FormattedValue e (-1) none pos) (Zhm te):=by
 intro pins s σ H Q I h;refine wpAny_FormattedValue_plain (thn (he pins s σ H _ I h) λu s1 ⟨v,H1,I1,r,q⟩ => ?_);rcases q with⟨cs,ev,hl,q⟩|⟨n,ev,hn,q⟩
 · subst ev
   obtain⟨t,rfl⟩:=r;have hz:(tx cs).length<=sizeLine:=by simpa [Str.length]using hl
   exact wpAny_formatField_str ⟨S cs,H1,I1,⟨_,rfl⟩,q⟩ ⟨S cs,H1,I1.tok _,⟨_,rfl⟩,q⟩ hz
 · subst ev
   obtain⟨t,rfl⟩:=r;refine formatField_int_small ?_ ?_
   · have h1 : n.log2 < 40 := by
      by_cases h0:n=0
      · subst h0;decide
      · exact(Nat.log2_lt h0).mpr (Nat.lt_trans hn (by decide))
     show(n:Int).natAbs.log2<1920;rw [Int.natAbs_natCast];omega
   · refine⟨S (Qc n),H1,I1.tok _,⟨s1.toks+1,?_⟩,q⟩
     rw [ZhY]
inductive PJ(X:Cx):List Expr->List TE->Prop where
 |nil:PJ X [] []
 |cons {e:Expr} {es:List Expr} {t:TE} {ts:List TE}:PE X e t->PJ X es ts->PJ X (e::es) (t::ts)
def tJs:List TE->List Nat->L2.St->Hp->(List Nat->Hp->Prop)->Prop
 | [],acc,_,H,Q=>Q acc H
 |t::r,acc,σ,H,Q=>t σ H λv H1=>∃cs,v=S cs/\(acc++cs).length<=sizeLine/\tJs r (acc++cs) σ H1 Q
theorem Zcx{pins:List (Addr×Obj)}{σ:L2.St}{Q:List Nat->Hp->Prop}:∀{es:List Expr}{ts:List TE}{acc:List Nat}{H:Hp}{s:Shared},PJ X es ts->Inv X pins σ H s->acc.length<=sizeLine->tJs ts acc σ H Q ->
 Joins (model X.prog X.w) X.A X.xe (evalEach es X.env) (tx acc) (λout s1=>∃cs H',out=tx cs/\Inv X pins σ H' s1/\cs.length<=sizeLine/\Q cs H') s
 |_,_,acc,H,s,.nil,I,hl,q=>⟨acc,H,rfl,I,hl,q⟩
 |_,_,acc,H,s,.cons he hr,I,hl,q=>by
  show wpAny (model X.prog X.w) X.A _ _ X.xe s;refine thn (he pins s σ H _ I q) λu s1 ⟨v,H1,I1,r,cs,ev,hz,q1⟩ => ?_
  subst ev;obtain⟨t,rfl⟩:=r
  have ea:tx acc++tx cs=tx (acc++cs):=by
   show(⟨acc.toArray++cs.toArray⟩:Str)=⟨(acc++cs).toArray⟩
   simp
  refine⟨_,_,rfl,?_,?_⟩
  · rw [ea];simpa [Str.length]using hz
  · rw [ea];exact Zcx hr I1 hz q1
theorem Za1{P Q:Str->Shared->Prop}(k:∀x s,P x s->Q x s):∀{parts:List (Sem Value)}{acc:Str}{s:Shared},Joins (model X.prog X.w) X.A X.xe parts acc P s->Joins (model X.prog X.w) X.A X.xe parts acc Q s
 | [],acc,s,h=>k _ _ h
 |x::r,acc,s,h=>thn h λv s1 ⟨y,t,e,hz,q⟩=>⟨y,t,e,hz,Za1 k q⟩
def Zgb(ts:List TE):TE:=λσ H Q=>tJs ts [] σ H λcs H1=>Q (S cs) H1
theorem Zb1{e1 e2:Expr}{es:List Expr}{ts:List TE}(h:PJ X (e1::e2::es) ts):PE X (.JoinedStr (e1::e2::es) pos) (Zgb ts):=by
 intro pins s σ H Q I q;refine wpAny_JoinedStr (Za1 (λx s1 ⟨cs,H1,ex,I1,hl,q1⟩ => ?_) (Zcx (acc:=[]) h I (Nat.zero_le _) q));subst ex;exact⟨by simpa [Str.length]using hl,S cs,H1,I1.tok _,⟨_,rfl⟩,q1⟩
end
end L2
namespace DL
open PySem PySem.Spec L2
def QX:D->Option D
 | .str cs=>if cs.length<=1000/\cs.all (λc=>decide (c<65536))=true then some (.str (X9 cs))else none
 |_=>none
def QY(f:D->Option D)(a:Env->Option D)(δ:Env):Option D:=match a δ with
 |some d=>f d
 |none=>none
section
variable{G:Cn}{ow:List Nat}
theorem ZgG{te:TE}{a:Env->Option D}(h:VE G ow te .cl a):VE G ow (Zhl te) .cl (QY QX a):=λH0 av A σ H δ E d e Q k=>by
 unfold QY at e;cases hx:a δ with
 |none=>rw [hx]at e;cases e
 |some x=>
  rw [hx]at e;dsimp only at e;unfold QX at e
  split at e
  · rename_i cs
    by_cases hz:cs.length<=1000/\cs.all (λc=>decide (c<65536))=true
    · rw [if_pos hz]at e
      cases e;refine h H0 av A σ H δ E _ hx _ λv H1 s1 r1=>⟨cs,r1,?_,k _ H1 s1 rfl⟩
      have:=Zcw cs hz.2;have hs:sizeLine=16777216:=sizeLine_eq;omega
    · rw [if_neg hz]at e;cases e
  · cases e
inductive VJ(G:Cn)(ow:List Nat):List TE->List (Env->Option D)->Prop where
 |nil:VJ G ow [] []
 |cons {t:TE} {a:Env->Option D} {ts:List TE} {as:List (Env->Option D)}:VE G ow t .cl a->VJ G ow ts as->VJ G ow (t::ts) (a::as)
def xJs:List (Env->Option D)->List Nat->Env->Option (List Nat)
 | [],acc,_=>some acc
 |a::r,acc,δ=>match a δ with
  |some (.str cs)=>if(acc++cs).length<=sizeLine then xJs r (acc++cs) δ else none
  |_=>none
theorem vjs{H0:Hp}{av:Addr->Prop}{A:Nat->Option Addr}{σ:L2.St}{δ:Env}:∀{ts:List TE}{as:List (Env->Option D)},VJ G ow ts as->∀{acc cs:List Nat}{H:Hp},ER G ow H0 av A σ H δ->xJs as acc δ=some cs->∀Q:List Nat->Hp->Prop,(∀H',Same H H'->Q cs H')->tJs ts acc σ H Q
 |_,_,.nil,acc,cs,H,E,e,Q,k=>by cases e;exact k H (Same.refl H)
 |_,_,.cons h hr,acc,cs,H,E,e,Q,k=>by
  rename_i t a ts as;unfold xJs at e;cases hx:a δ with
  |none=>rw [hx]at e;cases e
  |some x=>
   rw [hx]at e;cases x<;>first|(cases e;done)|skip
   rename_i c1;dsimp only at e
   by_cases hz:(acc++c1).length<=sizeLine
   · rw [if_pos hz]at e
     exact h H0 av A σ H δ E _ hx _ λv H1 s1 r1=>⟨c1,r1,hz,vjs hr (E.mono s1) e _ λH' s=>k H' (s1.trans s)⟩
   · rw [if_neg hz]at e;cases e
def QZ(as:List (Env->Option D))(δ:Env):Option D:=match xJs as [] δ with
 |some cs=>some (.str cs)
 |none=>none
theorem ZgH{ts:List TE}{as:List (Env->Option D)}(h:VJ G ow ts as):VE G ow (Zgb ts) .cl (QZ as):=λH0 av A σ H δ E d e Q k=>by
 unfold QZ at e;cases hx:xJs as [] δ with
 |none=>rw [hx]at e;cases e
 |some cs=>
  rw [hx]at e;cases e;exact vjs h E hx _ λH' s=>k _ H' s rfl
end
end DL
namespace L2
open PySem PySem.Spec PySem.W PyProof.Rows
section
variable{X:Cx}{E:XK}
end
end L2
namespace DL
open PySem PySem.Spec L2
abbrev XTab:=List (String×(Nat×(List D->Option D)×(List D->Option String)))
structure MethOkX(X:Cx)(cA:Kn)(k:Nat)(m:String)(c:String)(n:Nat)(mm:List D->Option D)(xm:List D->Option String):Prop where
 ex:∃f fd ps,Cls X.K (cA.c c)/\Meth X.K (cA.c c) (Str.ofString m) f/\FnOk X.prog X.w X.K X.mg X.base (CX1 X.prog X.w) k f fd ps (spX cA n mm xm)/\Binds X.K fd ps []
def MTOkX(X:Cx)(cA:Kn)(k:Nat)(m:String):XTab->Prop
 | []=>True
 |(c,n,mm,xm)::r=>MethOkX X cA k m c n mm xm/\MTOkX X cA k m r
theorem MTOkX.get{X:Cx}{cA:Kn}{k:Nat}{m:String}:∀{tab:XTab}{c:String}{n:Nat}{mm:List D->Option D}{xm:List D->Option String},MTOkX X cA k m tab->tab.lookup c=some (n,mm,xm)->MethOkX X cA k m c n mm xm
 | [],_,_,_,_,_,h=>by simp at h
 |(c',n',mm',xm')::r,c,n,mm,xm,T,h=>by
  rw [List.lookup_cons]at h;cases hc:c == c' with
  |true=>
   rw [hc]at h;cases h;have:c=c':=eq_of_beq hc;subst this;exact T.1
  |false=>
   rw [hc]at h;exact MTOkX.get T.2 h
section
variable{X:Cx}{cA:Kn}{k:Nat}{m:String}{tab:XTab}{o e:Expr}{es:List Expr}{ta:TE}{t:TA}{pos apos:Pos}{pl:Sem Bool}{E:XK}
end
section
variable{cA:Kn}{G:Cn}{ow ow1 owB owC owN:List Nat}{E:XK}
end
end DL
namespace L2
open PySem PySem.Spec PySem.W PyProof.Rows
end L2
namespace DL
open PySem PySem.Spec L2
section
variable{G:Cn}{ow:List Nat}
end
end DL
namespace DL
open PySem PySem.Spec L2
def mat(rows:List (List D)):D := .lst (rows.map D.lst)
structure Mx(H:Hp)(a:Addr)(bs:List Addr)(rows:List (List D)):Prop where
 top:H a=some (.lst (bs.map V.ref))
 len:bs.length=rows.length
 nd:bs.Nodup
 na:a∉bs
 row:∀(k:Nat)(b:Addr)(r:List D),bs[k]? = some b->rows[k]? = some r->H b=some (.lst (r.map val))
 sc:∀r∈rows,r.all ZC=true
section
variable{H H':Hp}{a:Addr}{bs:List Addr}{rows:List (List D)}
theorem Mx.mem(M:Mx H a bs rows){b:Addr}(h:b∈bs):∃r∈rows,H b=some (.lst (r.map val)):=by
 obtain⟨k,hk,e⟩:=List.mem_iff_getElem.mp h;have hk2:k<rows.length:=by rw [<-M.len];exact hk
 exact⟨rows[k],List.getElem_mem hk2,M.row k b _ (by rw [List.getElem?_eq_getElem hk,e]) (List.getElem?_eq_getElem hk2)⟩
theorem Mx.there(M:Mx H a bs rows){x:Addr}(h:x∈a::bs):∃vs,H x=some (.lst vs):=by
 rcases List.mem_cons.mp h with rfl|h
 · exact⟨_,M.top⟩
 · obtain⟨r,_,e⟩:=M.mem h
   exact⟨_,e⟩
theorem Mx.mono(M:Mx H a bs rows)(k:Same H H'):Mx H' a bs rows:=⟨k _ _ M.top,M.len,M.nd,M.na,λn b r h1 h2=>k _ _ (M.row n b r h1 h2),M.sc⟩
theorem Mx.rep{cA:Kn}{av:Addr->Prop}(M:Mx H a bs rows)(hn:∀x∈a::bs,¬av x):Rep cA av H (mat rows) (.ref a):=by
 have go:∀(bs:List Addr)(rows:List (List D)),bs.length=rows.length->(∀x∈bs,¬av x)->(∀(k:Nat)(b:Addr)(r:List D),bs[k]? = some b->rows[k]? = some r->H b=some (.lst (r.map val)))->(∀r∈rows,r.all ZC=true)->RepL cA av H (rows.map D.lst) (bs.map V.ref):=by
  intro bs
  induction bs with
  |nil=>
   intro rows hl _ _ _;cases rows with
   |nil=>exact .nil
   |cons _ _=>simp at hl
  |cons b bs ih=>
   intro rows hl hn hr hs;cases rows with
   |nil=>simp at hl
   |cons r rows=>
    refine .cons ?_ (ih rows (by simpa using hl) (λx hx=>hn x (List.mem_cons_of_mem _ hx)) (λk b r h1 h2=>hr (k+1) b r (by simpa using h1) (by simpa using h2)) λr hr=>hs r (List.mem_cons_of_mem _ hr));unfold Rep;exact⟨b,r.map val,rfl,λz=>(hn b List.mem_cons_self z).elim,SqL.of (hr 0 b r rfl rfl),.of_vals (hs r List.mem_cons_self)⟩
 unfold mat Rep;exact⟨a,bs.map V.ref,rfl,λz=>(hn a List.mem_cons_self z).elim,SqL.of M.top,go bs rows M.len (λx hx=>hn x (List.mem_cons_of_mem _ hx)) M.row M.sc⟩
end
open Classical in
noncomputable def ovl(H0 H:Hp)(F:List Addr):Hp:=λx=>if x∈F then H x else H0 x
theorem ZfP{H0 H:Hp}{F:List Addr}{x:Addr}(h:x∈F):ovl H0 H F x=H x:=if_pos h
theorem Zdy{H0 H:Hp}{F:List Addr}{x:Addr}(h:x∉F):ovl H0 H F x=H0 x:=if_neg h
abbrev Cn.keep(G:Cn)(i:Nat)(v:V):Cn:=⟨G.1,λj=>if j=i then some (.inr v)else G.2 j⟩
abbrev avF(av:Addr->Prop)(F:List Addr):Addr->Prop:=λx=>av x\/x∈F
def PinOk(G:Cn)(i:Nat)(σ:L2.St):Prop:=∀z,G.2 i=some z->∃v,z = .inr v/\σ[i]? = some (some v)
theorem PinOk.none{G:Cn}{i:Nat}{σ:L2.St}(h:G.2 i=Option.none):PinOk G i σ:=λz e=>by rw [h]at e;cases e
theorem PinOk.set{G:Cn}{i k:Nat}{σ:L2.St}{x:Option V}(h:PinOk G i σ)(hk:k≠i):PinOk G i (σ.set k x):=λz e=>by
 obtain⟨v,h1,h2⟩:=h z e;exact⟨v,h1,by rw [List.getElem?_set_ne hk];exact h2⟩
structure MR(G:Cn)(ow:List Nat)(i:Nat)(H0:Hp)(av:Addr->Prop)(A:Nat->Option Addr)(σ:L2.St)(H:Hp)(δ:Env):Prop where
 ni:i∉ow
 nn:PinOk G i σ
 avd:∀x,av x->H0 x≠none
 ex:∃a bs rows,δ[i]? = some (some (mat rows))/\Mx H a bs rows/\(∀x∈a::bs,H0 x=none)/\ER (G.keep i (.ref a)) ow (ovl H0 H (a::bs)) (avF av (a::bs)) A σ H (δ.set i none)
section
variable{cA:Kn}{G:Cn}{ow owN owB owC ow1:List Nat}{i:Nat}{H0 H H':Hp}{av:Addr->Prop}{A:Nat->Option Addr}{σ:L2.St}{δ:Env}
theorem Zdz{j:Nat}{v:V}(h:j≠i):(G.keep i v).2 j=G.2 j:=if_neg h
theorem Ze7{a:Addr}{bs:List Addr}{rows:List (List D)}(M:Mx H a bs rows)(k:Same H H'):ovl H0 H' (a::bs)=ovl H0 H (a::bs):=by
 funext x
 by_cases h:x∈a::bs
 · rw [ZfP h,ZfP h]
   obtain⟨vs,q⟩:=M.there h;rw [q,k _ _ q]
 · rw [Zdy h,Zdy h]
theorem MR.set{k:Nat}{d:D}(R:MR G ow i H0 av A σ H δ)(hs:ZC d=true)(hk:k≠i)(hw:∀j,j∈owN ↔ j∈ow/\j≠k)(hn:G.2 k=none):MR G owN i H0 av (λj=>if j=k then none else A j) (σ.set k (some (val d))) H (δ.set k (some d)):=by
 obtain⟨a,bs,rows,hd,M,h0,E⟩:=R.ex;refine⟨λz=>R.ni ((hw i).mp z).1,R.nn.set hk,R.avd,a,bs,rows,by rw [List.getElem?_set_ne hk];exact hd,M,h0,?_⟩;rw [List.set_comm _ _ hk];exact E.set (.of_val hs) hw (by rw [Zdz hk];exact hn)
end
end DL
namespace DL
open PySem PySem.Spec L2
section
variable{cA:Kn}{G:Cn}{ow owN owB owC ow1:List Nat}{i:Nat}
end
end DL
namespace DL
open PySem PySem.Spec L2
section
variable{H:Hp}{a b:Addr}{bs:List Addr}{rows:List (List D)}{j:Nat}{r r':List D}
theorem Mx.at(M:Mx H a bs rows)(hr:rows[j]? = some r):∃b,bs[j]? = some b/\H b=some (.lst (r.map val)):=by
 have hjl:j<bs.length:=by rw [M.len];exact(List.getElem?_eq_some_iff.mp hr).1
 exact⟨bs[j],List.getElem?_eq_getElem hjl,M.row j _ r (List.getElem?_eq_getElem hjl) hr⟩
end
section
variable{cA:Kn}{G:Cn}{ow owN owB owC ow1:List Nat}{i:Nat}
end
end DL
namespace DL
open PySem PySem.Spec L2
def VFM(G:Cn)(ow:List Nat)(te:TE)(ε:Env->Option D):Prop:=
 ∀H0 av A σ H δ,ER G ow H0 av A σ H δ->∀d,ε δ=some d->∀Q:VK,(∀a bs rows H',Same H H'->(∀x∈a::bs,H x=none)->Mx H' a bs rows->d=mat rows->Q (.ref a) H')->te σ H Q
section
variable{cA:Kn}{G:Cn}{ow owN owB owC ow1:List Nat}{i:Nat}
theorem VFM.cl{te:TE}{ε:Env->Option D}(h:VFM G ow te ε):VE G ow te .cl ε:=λH0 av A σ H δ E d e Q k=>
 h H0 av A σ H δ E d e Q λa bs rows H' s hf M hd=>by
  subst hd;exact k _ H' s (M.rep λx hx z=>E.avl x z (hf x hx)).t
end
section
variable{P:Program}{w:World}{K:PySem.W.Frag}{mg:Str->Option Value}{base:Heap}{cA:Kn}
end
end DL
namespace DL
open PySem PySem.Spec L2
section
variable{cA:Kn}{G:Cn}{ow:List Nat}
structure RowsAt(H0 H:Hp)(bs:List Addr)(rows:List (List D)):Prop where
 len:bs.length=rows.length
 nd:bs.Nodup
 row:∀(k:Nat)(b:Addr)(r:List D),bs[k]? = some b->rows[k]? = some r->H b=some (.lst (r.map val))
 fr:∀b∈bs,H0 b=none
 sc:∀r∈rows,r.all ZC=true
theorem RowsAt.same{H0 H H':Hp}{bs:List Addr}{rows:List (List D)}(R:RowsAt H0 H bs rows)(s:Same H H'):RowsAt H0 H' bs rows:=⟨R.len,R.nd,λk b r h1 h2=>s _ _ (R.row k b r h1 h2),R.fr,R.sc⟩
end
end DL
namespace DL
open PySem PySem.Spec L2
section
variable{cA:Kn}{G:Cn}{ow owN owB owC ow1:List Nat}{i:Nat}
open Classical in
end
section
variable{P:Program}{w:World}{K:PySem.W.Frag}{mg:Str->Option Value}{base:Heap}{cA:Kn}
end
end DL
namespace L2
open PySem PySem.Spec PySem.W PyProof.Rows
end L2
namespace DL
open PySem PySem.Spec L2 PyProof.Rows
section
variable{X:Cx}{K:PySem.W.Frag}{cA:Kn}
end
end DL
namespace L2
open PySem PySem.Spec PyProof.Rows
section
variable{X:Cx}{scope:Scope}{tn cn:List Str}{js:List Nat}{tg iter elt:Expr}{ifs:List Expr}{pos spos pos':Pos}{wi:TI}{g:TG}{tt:TT}{te:TE}
end
end L2
namespace L2
open PySem PySem.Spec PyProof.Rows Builtin Builtin.Str
section
variable{X:Cx}
end
end L2
namespace DL
open PySem PySem.Spec L2
variable{cA:Kn}
end DL
namespace PySem
open Builtin SmallTypes
open AutoSeq1 (wpAny_loadPart')
end PySem
namespace PySem
open Sem (wp)
end PySem
namespace PySem
open Sem (wp)
section
variable{P:Program}{w:World}{A:Around}{E:Value->Shared->Prop}{s:Shared}
end
end PySem
namespace L2
open PySem PySem.Spec PyProof.Rows
end L2
namespace L2
open PySem PySem.Spec PyProof.Rows
section
variable{X:Cx}{elts:List Expr}{x1:Nat}{tpos:Pos}
end
end L2
namespace L2
open PySem PySem.Spec PyProof.Rows
section
variable{X:Cx}{elts:List Expr}{x1:Nat}{tpos:Pos}
end
end L2
namespace DL
open PySem PySem.Spec L2
section
variable{cA:Kn}{G:Cn}{ow:List Nat}
end
end DL
namespace DL
open PySem PySem.Spec L2
section
variable{cA:Kn}{G:Cn}{ow:List Nat}
end
end DL
namespace DL
open PySem PySem.Spec L2
section
variable{cA:Kn}{G:Cn}{ow owN owB owC ow1:List Nat}{i:Nat}
theorem MR.own{H0 H:Hp}{av:Addr->Prop}{A:Nat->Option Addr}{σ:L2.St}{δ:Env}{k:Nat}{xs:List D}{p:Addr}(R:MR G ow i H0 av A σ H δ)(hs:xs.all ZC=true)(hp:H p=none)(hk:k≠i)(hw:∀j,j∈ow1 ↔ j∈ow\/j=k)(hn:G.2 k=none):MR G ow1 i H0 av (λj=>if j=k then some p else A j) (σ.set k (some (.ref p))) (upd H p (.lst (xs.map val))) (δ.set k (some (.lst xs))):=by
 obtain⟨a,bs,rows,hd,M,h0,E⟩:=R.ex;refine⟨λz=>((hw i).mp z).elim R.ni λz=>hk z.symm,R.nn.set hk,R.avd,a,bs,rows,by rw [List.getElem?_set_ne hk];exact hd,M.mono (Xi hp),h0,?_⟩;rw [List.set_comm _ _ hk,Ze7 M (Xi hp)];exact E.own hp (.of_vals hs) hw (by rw [Zdz hk];exact hn)
end
end DL
namespace L2
open PySem PySem.Spec PyProof.Rows
section
variable{κ:Type} [DecidableEq κ]
def Vi(kvs:List (κ×V))(k:κ):Option V:=(kvs.find? λkv=>decide (kv.1=k)).map (·.2)
def J7(kvs:List (κ×V))(k:κ)(v:V):List (κ×V):=
 if(kvs.any λkv=>decide (kv.1=k))=true then kvs.map (λkv=>if kv.1=k then(kv.1,v)else kv)else kvs++[(k,v)]
theorem Zcy{p:κ×V}{r:List (κ×V)}{k:κ}(e:p.1=k):Vi (p::r) k=some p.2:=by simp [Vi,List.find?_cons,e]
theorem Zcz{p:κ×V}{r:List (κ×V)}{k:κ}(e:¬p.1=k):Vi (p::r) k=Vi r k:=by simp [Vi,List.find?_cons,e]
theorem KV.val{kvs:List (κ×V)}{vs:List (κ×Value)}(r:KV kvs vs)(k:κ):RelO (Vi kvs k) (valueAt vs k):=by
 unfold KV at r
 induction r with
 |nil=>exact True.intro
 | @cons p q ps qs h t ih=>
  obtain⟨h1,h2⟩:=h
  by_cases e:p.1=k
  · have e':q.1=k:=h1.symm.trans e
    have b:valueAt (q::qs) k=some q.2:=by simp [valueAt,List.find?_cons,e']
    rw [Zcy e,b];exact h2
  · have e':¬q.1=k:=λz=>e (h1.trans z)
    have b:valueAt (q::qs) k=valueAt qs k:=by simp [valueAt,List.find?_cons,e']
    rw [Zcz e,b];exact ih
theorem KV.any{kvs:List (κ×V)}{vs:List (κ×Value)}(r:KV kvs vs)(k:κ):(kvs.any λkv=>decide (kv.1=k))=vs.any λkv=>decide (kv.1=k):=by
 unfold KV at r
 induction r with
 |nil=>rfl
 |cons h t ih=>rw [List.any_cons,List.any_cons,ih,h.1]
theorem KV.length{kvs:List (κ×V)}{vs:List (κ×Value)}(r:KV kvs vs):kvs.length=vs.length:=Paired.length r
end
abbrev KT(H:Hp):List (List Key×V)->List (List Key×Addr×Value)->Prop:=Paired λp q=>p.1=q.1/\H q.2.1=some (.tup (p.1.map kV))/\RelV p.2 q.2.2
theorem KT.val{H:Hp}{kvs:List (List Key×V)}{xs:List (List Key×Addr×Value)}(r:KT H kvs xs)(k:List Key):RelO (Vi kvs k) ((atKey xs k).map (·.2)):=by
 induction r with
 |nil=>exact True.intro
 | @cons p q ps qs h t ih=>
  obtain⟨h1,_,h2⟩:=h
  by_cases e:p.1=k
  · have e':q.1=k:=h1.symm.trans e
    have b:atKey (q::qs) k=some q.2:=by simp [atKey,List.find?_cons,e']
    rw [Zcy e,b];exact h2
  · have e':¬q.1=k:=λz=>e (h1.trans z)
    have b:atKey (q::qs) k=atKey qs k:=by simp [atKey,List.find?_cons,e']
    rw [Zcz e,b];exact ih
theorem KT.keeps{H H':Hp}{kvs:List (List Key×V)}{xs:List (List Key×Addr×Value)}(r:KT H kvs xs)(ht:∀b ys,H b=some (.tup ys)->H' b=some (.tup ys)):KT H' kvs xs:=
 Paired.mapP r λ_ _ z=>⟨z.1,ht _ _ z.2.1,z.2.2⟩
section
variable{P:Program}{w:World}{H:Hp}{h:Heap}{a:Addr}
theorem rd_of{u:HO}(ok:HOk P w H h)(e:Rd H a u):ObjOk P w H h a u:=e.ok ok
end
def DGet(H:Hp)(a:Addr)(y:V)(r:Option V):Prop:=
 (∃kvs k,Rd H a (.dK kvs)/\y=kV k/\r=Vi kvs k)\/∃kvs k b,Rd H a (.dT kvs)/\y = .ref b/\H b=some (.tup (k.map kV))/\r=Vi kvs k
def DPut(H:Hp)(a:Addr)(y v:V)(H':Hp):Prop:=
 (∃kvs k,H a=some (.dK kvs)/\y=kV k/\kvs.length<sizeLine/\H'=upd H a (.dK (J7 kvs k v))) \/
 ∃kvs k b,H a=some (.dT kvs)/\y = .ref b/\H b=some (.tup (k.map kV))/\kvs.length<sizeLine/\H'=upd H a (.dT (J7 kvs k v))
theorem DGet.k{H:Hp}{a:Addr}{kvs:List (Key×V)}{k:Key}(e:H a=some (.dK kvs)):DGet H a (kV k) (Vi kvs k) := .inl ⟨kvs,k,.inl e,rfl,rfl⟩
theorem DGet.t{H:Hp}{a b:Addr}{kvs:List (List Key×V)}{k:List Key}(e:H a=some (.dT kvs))(eb:H b=some (.tup (k.map kV))):DGet H a (.ref b) (Vi kvs k) := .inr ⟨kvs,k,b,.inl e,rfl,eb,rfl⟩
theorem DPut.k{H:Hp}{a:Addr}{kvs:List (Key×V)}{k:Key}{v:V}(e:H a=some (.dK kvs))(hl:kvs.length<sizeLine):DPut H a (kV k) v (upd H a (.dK (J7 kvs k v))) := .inl ⟨kvs,k,e,rfl,hl,rfl⟩
theorem DPut.t{H:Hp}{a b:Addr}{kvs:List (List Key×V)}{k:List Key}{v:V}(e:H a=some (.dT kvs))(eb:H b=some (.tup (k.map kV)))(hl:kvs.length<sizeLine) :
 DPut H a (.ref b) v (upd H a (.dT (J7 kvs k v))) := .inr ⟨kvs,k,b,e,rfl,eb,hl,rfl⟩
section
variable{X:Cx}{pins:List (Addr×Obj)}{σ:St}{H:Hp}{s:Shared}{a:Addr}{y v:V}{u r:Value}{o:Option V}{A:Around}{E:Value->Shared->Prop}
end
section
variable{X:Cx}{pins:List (Addr×Obj)}{σ:St}{H:Hp}{s:Shared}{a:Addr}{kvs:List (Key×V)}{k:Key}{u:Value}{A:Around}{E:Value->Shared->Prop}
end
section
variable{X:Cx}{o i e value:Expr}{pos pos' tpos:Pos}{td ty tv:TE}
end
section
variable{X:Cx}{pos:Pos}
end
structure M1(X:Cx)(o:Expr)(m:Str)(apos:Pos)(e:Expr)(cpos:Pos):Prop where
 base:attributeBase o m X.env (eval o X.env)=eval o X.env
 few:((backTo cpos (starEach [e] X.env)).all (λx => !x.1)&&(backToKw cpos (keywordEach [] X.env)).all (λx=>x.1.isSome)
  && decide (([e]:List Expr).length+([]:List Keyword).length+(if([]:List Keyword).isEmpty then 0 else 1)<30))=true
 line:(apos.endLine == cpos.line)=true
 trees:backTo cpos (starEach [e] X.env)=[(false,eval e X.env)]
structure M2(X:Cx)(o:Expr)(m:Str)(apos:Pos)(e f:Expr)(cpos:Pos):Prop where
 base:attributeBase o m X.env (eval o X.env)=eval o X.env
 few:((backTo cpos (starEach [e,f] X.env)).all (λx => !x.1)&&(backToKw cpos (keywordEach [] X.env)).all (λx=>x.1.isSome)
  && decide (([e,f]:List Expr).length+([]:List Keyword).length+(if([]:List Keyword).isEmpty then 0 else 1)<30))=true
 line:(apos.endLine == cpos.line)=true
 trees:backTo cpos (starEach [e,f] X.env)=[(false,eval e X.env),(false,eval f X.env)]
section
variable{X:Cx}{pins:List (Addr×Obj)}{σ:St}{H:Hp}{s:Shared}{a:Addr}{y d:V}{u r:Value}{o:Option V}{A:Around}{E:Value->Shared->Prop}
end
section
variable{X:Cx}{o e f:Expr}{apos cpos:Pos}{td ty tx:TE}
end
section
variable{X:Cx}{pins:List (Addr×Obj)}{σ:St}{H:Hp}{s:Shared}{a:Addr}{kvs:List (Key×V)}{A:Around}{E:Value->Shared->Prop}
end
section
variable{X:Cx}{pins:List (Addr×Obj)}{σ:St}{H:Hp}{s:Shared}{a:Addr}{y:V}{u:Value}{A:Around}{E:Value->Shared->Prop}
end
end L2
namespace DL
open PySem PySem.Spec L2
section
variable{cA:Kn}{av:Addr->Prop}{H:Hp}
end
section
variable{G:Cn}{ow owN owB owC ow1:List Nat}{H0 H:Hp}{av:Addr->Prop}{A:Nat->Option Addr}{σ:L2.St}{δ:Env}
end
end DL
namespace L2
open PySem
end L2
namespace DL
open PySem PySem.Spec L2
section
variable{G:Cn}{ow owN owB owC ow1:List Nat}
end
section
variable{cA:Kn}{G:Cn}{ow owN owB owC ow1:List Nat}{i:Nat}
end
section
variable{P:Program}{w:World}{K:PySem.W.Frag}{mg:Str->Option Value}{base:Heap}{cA:Kn}
open Classical in
end
end DL


namespace PySem
open Builtin SmallTypes
open AutoSeq1 (wpAny_loadPart')
end PySem
namespace PySem
section
variable{P:Program}{w:World}{A:Around}{E:Value->Shared->Prop}{s:Shared}
end
end PySem
namespace L2
open PySem PySem.Spec PyProof.Rows
section
variable{X:Cx}{elts:List Expr}{x1:Nat}{tpos:Pos}
end
end L2
namespace DL
open PySem PySem.Spec L2
section
variable{cA:Kn}{G:Cn}{ow:List Nat}
end
end DL

namespace L2
open PySem PySem.Spec PySem.W PyProof.Rows
structure RoomE(k:Nat)(A:Around):Prop where
 dp:A.depth+3*k+5<recursionLimit
 un:A.units+16*k+200<cLine
structure FnOkE(P:Program)(w:World)(K:PySem.W.Frag)(mg:Str->Option Value)(base:Heap)(k:Nat)(f:Addr)(fd:FuncData)(ps:List Str)(sp:List V->Hp->VK->Prop):Prop where
 len:∀vs H Q,sp vs H Q->vs.length=ps.length
 run:∀(A:Around)(outer:List PySem.Env)(s:Shared)(H:Hp)(args:Args)(us:List Value)(vs:List V)(Q:VK),RoomE k A->Env0 P w K mg base A outer s H->BindsTo s fd args (ps.zip us)->Vals vs us->sp vs H Q ->
  codeAny (model P w) A (.call (.ref f) args) (CR CX0 outer P w H s Q E0) s
end L2
namespace DL
open PySem PySem.Spec L2
def tCs:List V->TA
 | []=>tNil
 |v::vs=>Y5 (tC v) (tCs vs)
theorem ZfQ{σ:L2.St}{H:Hp}:∀{vs:List V}(Q:List V->Hp->Prop),Q vs H->tCs vs σ H Q
 | [],Q,q=>q
 |v::vs,Q,q=>ZfQ (vs:=vs) (λxs H2=>Q (v::xs) H2) q
theorem ZbD{K:PySem.W.Frag}{cA:Kn}{c:String}:∀{vs:List V}{tabs:List (List (String×Bool))}{bs:List Bool},IsiEs K cA vs tabs->Qo c tabs=some bs->∃cvs,(∀us,Vals vs us->us=cvs)/\PySem.W.kitAny K (.ref (cA.c c)) cvs=some (bs.any id)
 |_,_,bs,.nil,e=>by
  cases e;exact⟨[],λus r=>by cases r;rfl,rfl⟩
 |_,_,bs,.cons h1 h2,e=>by
  unfold Qo at e
  split at e
  · rename_i b bs' e1 e2
    cases e;obtain⟨cv,hc,hk⟩:=h1 c b e1;obtain⟨cvs,hcs,hks⟩:=ZbD h2 e2;refine⟨cv::cvs,λus r => ?_,?_⟩
    · cases r with
      |cons r1 r2=>rw [hc _ r1,hcs _ r2]
    · unfold PySem.W.kitAny
      rw [hk];cases b with
      |true=>rfl
      |false=>exact hks
  · cases e
def Zh7(K:PySem.W.Frag)(cA:Kn)(i:Nat)(mk:Addr->Addr->TE)(tab:List (String×Bool)):Prop:=∀(c:String)(b:Bool)(ea:Addr)(σ:L2.St)(H:Hp)(Q:VK),ExCls K (cA.c c)->tab.lookup c=some b->σ[i]? = some (some (.ref ea))->H ea=some (.ext (Y6 ea (.ref (cA.c c))))->(∀H',Same H H'->Q (.bl b) H')->mk (cA.c c) ea σ H Q
inductive Items(K:PySem.W.Frag)(cA:Kn)(i:Nat):List (Addr->Addr->TE)->List (List (String×Bool))->Prop where
 |nil:Items K cA i [] []
 |cons {m:Addr->Addr->TE} {t:List (String×Bool)} {ms:List (Addr->Addr->TE)} {ts:List (List (String×Bool))}:Zh7 K cA i m t->Items K cA i ms ts->Items K cA i (m::ms) (t::ts)
section
variable{cA:Kn}{G:Cn}{ow owB owC:List Nat}
end
end DL

namespace L2
open PySem PySem.Spec PyProof.Rows
section
variable{X:Cx}
theorem Za2{x:V}:∀{xs:List V}{us:List Value},Vals xs us->xs.all XW=true->us.countP (eqU x)=xs.countP λy=>eqV y x
 |_,_,.nil,_=>rfl
 |y::xs,u::us,.cons r t,f=>by
  rw [List.all_cons,Bool.and_eq_true]at f;rw [List.countP_cons,List.countP_cons,Zc8 r f.1,Za2 t f.2]
def ZdA(K:PySem.W.Frag):V->List V->Hp->VK->Prop:=λx vs H Q=>∃p xs y,x = .ref p/\vs=[y]/\SqL K H p xs/\XW y=true/\xs.all XW=true/\Q (.int (xs.countP λz=>eqV z y:Nat)) H
theorem Zen{K:PySem.W.Frag}(hK:X.K=K:=by rfl):MtR X "list.count" (ZdA K):=by
 subst hK;intro pins s σ H x xs v us Q I rx rs h;obtain⟨p,zs,y,rfl,rfl,hq,fy,fs,q⟩:=h;cases rx;obtain⟨u,rfl,ru⟩:=X4 rs;obtain⟨its,r,pl,hz⟩:=I.list hq;obtain⟨⟨cls,dd,data,sl⟩,ho,hc,n,hd⟩:=id pl.isList;simp only at hc hd;subst hc hd;refine call_meets PySem.F.slot_list_count ⟨_,ho,rfl⟩ PySem.F.entry_list_count (PySem.F.args_list_count_2 _ _) (SeqAt.list_countAt p its.toArray n dd sl u (eqU y)) ⟨ho,λw hw=>Qa ru fy r fs w (by simpa using hw),?_⟩
 rw [show its.toArray.toList=its from rfl,Za2 r fs];exact⟨.int _,H,I.tok _,⟨_,rfl⟩,q⟩
end
end L2
namespace DL
open PySem PySem.Spec L2
section
variable{cA:Kn}{G:Cn}{ow owN owB owC ow1:List Nat}{i:Nat}
def Zla(K:PySem.W.Frag)(r:V->List V->Hp->VK->Prop)(f:List D->D->Option D):Prop:=
 ∀(H:Hp)(a:Addr)(xs:List D)(y d:D),xs.all ZC=true->ZC y=true->SqL K H a (xs.map val)->f xs y=some d->ZC d=true/\∀Q:VK,Q (val d) H->r (.ref a) [val y] H Q
def eLM(f:List D->D->Option D)(a b:Env->Option D)(δ:Env):Option D:=match a δ with
 |some (.lst xs)=>match b δ with
  |some y=>if xs.all ZC&&ZC y then f xs y else none
  |none=>none
 |_=>none
theorem ZjT{K:PySem.W.Frag}{r:V->List V->Hp->VK->Prop}{f:List D->D->Option D}{to tb:TE}{q0 q:Ql}{a b:Env->Option D}(hr:Zla K r f)(ha:VE G ow to q0 a)(hb:VE G ow tb q b)(hK:G.1.K=K:=by rfl) :
 VE G ow (tBM K "list" r to (Y5 tb tNil)) .cl (eLM f a b):=λH0 av A σ H δ E d e Q k=>by
 subst hK;unfold eLM at e;cases hx:a δ with
 |none=>rw [hx]at e;cases e
 |some x=>
  rw [hx]at e;cases x<;>first|(cases e;done)|skip
  rename_i xs;dsimp only at e;cases hy:b δ with
  |none=>rw [hy]at e;cases e
  |some y=>
   rw [hy]at e;dsimp only at e
   by_cases hz:(xs.all ZC&&ZC y)=true
   · rw [if_pos hz]at e
     rw [Bool.and_eq_true]at hz;refine ha H0 av A σ H δ E _ hx _ λv H1 s1 r1 => ?_
     obtain⟨p,vs,rfl,_,hq,l⟩:=r1.any;have ev:=l.vals hz.1;subst ev;refine⟨.inl ⟨rfl,_,hq⟩,?_⟩;refine hb H0 av A σ H1 δ (E.mono s1) y hy _ λv2 H2 s2 r2 => ?_
     have e2:v2=val y:=r2.any.val hz.2;subst e2;have hq2:SqL G.1.K H2 p (xs.map val):=hq.elim (λz => .inl (Rd.ext z (s2 p))) .inr;obtain⟨hsd,hh⟩:=hr H2 p xs y d hz.1 hz.2 hq2 e;exact hh _ (k _ H2 (s1.trans s2) (Rep.of_val hsd).t)
   · rw [if_neg hz]at e;cases e
def lcountD(xs:List D)(y:D):Option D:=some (.int ((xs.map val).countP λz=>eqV z (val y):Nat))
theorem Ze8{K:PySem.W.Frag}:Zla K (ZdA K) lcountD:=λH a xs y d hx hy hq e=>by
 cases e;exact⟨rfl,λQ q=>⟨a,_,_,rfl,rfl,hq,JO hy,JP hx,q⟩⟩
mutual
def frz:D->Bool
 | .non=>true
 | .bl _=>true
 | .int _=>true
 | .str _=>true
 | .lst _=>false
 | .tup xs=>frzL xs
 | .obj _ _ xs=>frzL xs
 | .dct _ _=>false
 | .dtt _ _=>false
 | .exc _ _=>false
def frzL:List D->Bool
 | []=>true
 |x::xs=>frz x&&frzL xs
end
mutual
theorem Rep.frz{av av':Addr->Prop}{H:Hp}:∀{d:D}{v:V},frz d=true->(∀b,av' b->av b\/∃vs,H b=some (.lst vs))->Rep cA av H d v->Rep cA av' H d v
 | .non,_,_,_,h=>h
 | .bl _,_,_,_,h=>h
 | .int _,_,_,_,h=>h
 | .str _,_,_,_,h=>h
 | .lst xs,v,hf,k,h=>by cases hf
 | .tup xs,v,hf,k,h=>by
  unfold DL.frz at hf;unfold Rep at h ⊢;obtain⟨a,vs,e,n,r,l⟩:=h;exact⟨a,vs,e,λz=>(k a z).elim n (by rw [r];exact λ⟨_,z⟩=>by cases z),r,RepL.frz hf k l⟩
 | .obj c ks xs,v,hf,k,h=>by
  unfold DL.frz at hf;unfold Rep at h ⊢;obtain⟨a,dx,vs,e,n,r,z,l⟩:=h;exact⟨a,dx,vs,e,λz=>(k a z).elim n (by rw [r];exact λ⟨_,z⟩=>by cases z),r,z,RepL.frz hf k l⟩
 | .dct ks xs,v,hf,k,h=>by cases hf
 | .dtt ks xs,v,hf,k,h=>by cases hf
 | .exc c r,v,hf,k,h=>by cases hf
theorem RepL.frz{av av':Addr->Prop}{H:Hp}:∀{xs:List D}{vs:List V},frzL xs=true->(∀b,av' b->av b\/∃vs,H b=some (.lst vs))->RepL cA av H xs vs->RepL cA av' H xs vs
 | [],_,_,_,h=>h
 |x::xs,vs,hf,k,h=>by
  unfold DL.frzL at hf;rw [Bool.and_eq_true]at hf;unfold RepL at h ⊢;obtain⟨v,r,e,h1,h2⟩:=h;exact⟨v,r,e,Rep.frz hf.1 k h1,RepL.frz hf.2 k h2⟩
end
end
end DL
namespace PySem
open Sem (wp)
section
variable{prog:Program}{w:World}{A:Around}{E:Value->Shared->Prop}{s:Shared}
end
def IsQI(k:Bool)(h:Heap)(a l:Addr)(i:Nat):Prop:=match k with
 |true=>h.IsTupleIter a l i
 |false=>h.IsListIter a l i
def IsQ(k:Bool)(h:Heap)(l:Addr)(xs:Array Value):Prop:=match k with
 |true=>h.IsTuple l xs
 |false=>h.IsList l xs
theorem IsQI.get{k:Bool}{h:Heap}{a l:Addr}{i:Nat}(x:IsQI k h a l i):∃o,h.get? a=some o/\o.data = .fields #[.ref l,.int i 0]:=by
 cases k with
 |true=>obtain⟨o,e,_,d⟩:=x;exact⟨o,e,d⟩
 |false=>obtain⟨o,e,_,d⟩:=x;exact⟨o,e,d⟩
theorem IsQI.at{k:Bool}{h h':Heap}{a l:Addr}{i:Nat}(x:IsQI k h a l i)(f:∀o,h.get? a=some o->h'.get? a=some o):IsQI k h' a l i:=by
 cases k with
 |true=>obtain⟨o,e,r⟩:=x;exact⟨o,f o e,r⟩
 |false=>obtain⟨o,e,r⟩:=x;exact⟨o,f o e,r⟩
theorem IsQI.ext{k:Bool}{h h':Heap}{a b l:Addr}{i:Nat}(x:IsQI k h a l i)(hs:Heap.ExtBut b h h')(n:a≠b):IsQI k h' a l i:=x.at λo e=>hs a o n e
theorem IsQ.at{k:Bool}{h h':Heap}{l:Addr}{xs:Array Value}(x:IsQ k h l xs)(f:∀o,h.get? l=some o->h'.get? l=some o):IsQ k h' l xs:=by
 cases k with
 |true=>obtain⟨o,e,r⟩:=x;exact⟨o,f o e,r⟩
 |false=>obtain⟨o,e,r⟩:=x;exact⟨o,f o e,r⟩
theorem IsQ.ext{k:Bool}{h h':Heap}{b l:Addr}{xs:Array Value}(x:IsQ k h l xs)(hs:Heap.ExtBut b h h')(n:l≠b):IsQ k h' l xs:=x.at λo e=>hs l o n e
section
variable{prog:Program}{w:World}{A:Around}{E:Value->Shared->Prop}{s:Shared}
end
section
variable{prog:Program}{w:World}{A:Around}{E:Value->Shared->Prop}{s:Shared}
end
end PySem
namespace L2
open PySem PySem.Spec PyProof.Rows
section
variable{X:Cx}{elts:List Expr}{x1:Nat}{tpos:Pos}
end
end L2
namespace DL
open PySem PySem.Spec L2
section
variable{cA:Kn}{G:Cn}{ow:List Nat}
end
end DL
namespace DL
open PySem PySem.Spec PyProof.Rows L2
section
variable{X:Cx}{K:PySem.W.Frag}{cA:Kn}
variable{G:Cn}{ow:List Nat}
open Classical in
end
end DL
namespace DL
open PySem PySem.Spec L2
section
variable{cA:Kn}{av:Addr->Prop}{H:Hp}
end
section
variable{G:Cn}{ow owN owB owC ow1:List Nat}{H0 H:Hp}{av:Addr->Prop}{A:Nat->Option Addr}{σ:L2.St}{δ:Env}
end
end DL
namespace L2
open PySem PySem.Spec PyProof.Rows
section
variable{X:Cx}
end
end L2
namespace DL
open PySem PySem.Spec L2
section
variable{G:Cn}{ow owN owB owC ow1:List Nat}
open Classical in
end
end DL
namespace L2
open PySem PySem.Spec PyProof.Rows
section
variable{X:Cx}
end
end L2
namespace DL
open PySem PySem.Spec L2
section
variable{G:Cn}{ow owN owB owC ow1:List Nat}
end
end DL
namespace DL
open PySem PySem.Spec L2
section
variable{cA:Kn}{G:Cn}{ow owN owB owC:List Nat}
end
end DL
namespace DL
open PySem PySem.Spec L2
section
variable{X:Cx}{cA:Kn}
open Classical in
end
end DL
namespace DL
open PySem PySem.Spec L2
section
variable{cA:Kn}{G:Cn}{ow owN owB owC ow1:List Nat}{i:Nat}{H0 H H':Hp}{av:Addr->Prop}{A:Nat->Option Addr}{σ:L2.St}{δ:Env}
open Classical in
end
end DL
namespace DL
open PySem PySem.Spec L2
section
variable{cA:Kn}{G:Cn}{ow owN owB owC ow1:List Nat}{i:Nat}{H0 H H':Hp}{av:Addr->Prop}{A A':Nat->Option Addr}{σ σ':L2.St}{δ δ1:Env}
end
end DL
namespace DL
open PySem PySem.Spec L2
section
variable{cA:Kn}{G:Cn}{ow owN owB owC ow1:List Nat}{i:Nat}
open Classical in
end
end DL
namespace DL
open PySem PySem.Spec L2
section
variable{G:Cn}{ow ow1:List Nat}
end
end DL
namespace L2
open PySem PySem.Spec PyProof.Rows
theorem Q0{x:Str}{c:Addr}:∀(names:List (Str×NameKind))(n:Nat)(acc:List (Str×Addr)),(cellsFrom n names acc).lookup x=some c->(n<=c/\(x,NameKind.cell)∈names)\/acc.lookup x=some c
 | [],n,acc,h => .inr h
 |(y,k)::r,n,acc,h=>by
  unfold cellsFrom at h
  by_cases hk:(k == .cell)=true
  · rw [if_pos hk]at h
    have hk':k = .cell:=by simpa using hk
    subst hk';rcases Q0 r (n+1) _ h with⟨h1,h2⟩|h1
    · exact .inl ⟨by omega,List.mem_cons_of_mem _ h2⟩
    · rw [List.lookup_cons]at h1
      cases hx:x == y with
      |true=>
       rw [hx]at h1;have e:n=c:=Option.some.inj h1;have e2:x=y:=eq_of_beq hx;subst e2;exact .inl ⟨by omega,List.mem_cons_self⟩
      |false=>rw [hx]at h1;exact .inr h1
  · rw [if_neg hk]at h
    rcases Q0 r n acc h with⟨h1,h2⟩|h1
    · exact .inl ⟨h1,List.mem_cons_of_mem _ h2⟩
    · exact .inr h1
theorem Zad{x:Str}{c:Addr}:∀(names:List (Str×NameKind))(n:Nat)(acc:List (Str×Addr)),(x,NameKind.cell)∈names->(cellsFrom n names acc).lookup x=some c->n<=c
 |(y,k)::r,n,acc,hm,h=>by
  unfold cellsFrom at h
  by_cases hk:(k == .cell)=true
  · rw [if_pos hk]at h
    rcases List.mem_cons.mp hm with e|e
    · cases e
      rcases Q0 r (n+1) _ h with⟨h1,_⟩|h1
      · omega
      · rw [List.lookup_cons]at h1
        simp at h1;exact Nat.le_of_eq h1
    · have:=Zad r (n+1) _ e h
      omega
  · rw [if_neg hk]at h
    rcases List.mem_cons.mp hm with e|e
    · cases e
      exact absurd rfl hk
    · exact Zad r n acc e h
theorem cellsFrom_some{x:Str}:∀(names:List (Str×NameKind))(n:Nat)(acc:List (Str×Addr)),((x,NameKind.cell)∈names\/∃c,acc.lookup x=some c)->∃c,(cellsFrom n names acc).lookup x=some c
 | [],n,acc,h=>h.elim (λz=>nomatch z) id
 |(y,k)::r,n,acc,h=>by
  unfold cellsFrom
  by_cases hk:(k == .cell)=true
  · rw [if_pos hk]
    refine cellsFrom_some r (n+1) _ ?_;cases hx:x == y with
    |true=>exact .inr ⟨n,by rw [List.lookup_cons,hx]⟩
    |false=>
     rcases h with h|⟨c,h⟩
     · rcases List.mem_cons.mp h with e|e
       · cases e
         simp at hx
       · exact .inl e
     · exact .inr ⟨c,by rw [List.lookup_cons,hx];exact h⟩
  · rw [if_neg hk]
    refine cellsFrom_some r n acc ?_;rcases h with h|h
    · rcases List.mem_cons.mp h with e|e
      · cases e
        exact absurd rfl hk
      · exact .inl e
    · exact .inr h
theorem Zaa{x:Str}:∀(names:List (Str×NameKind))(n:Nat)(acc:List (Str×Addr)),(x,NameKind.cell)∉names->(cellsFrom n names acc).lookup x=acc.lookup x
 | [],_,_,_=>rfl
 |(y,k)::r,n,acc,h=>by
  unfold cellsFrom;have hr:(x,NameKind.cell)∉r:=λz=>h (List.mem_cons_of_mem _ z)
  by_cases hk:(k == .cell)=true
  · rw [if_pos hk,Zaa r (n+1) _ hr,List.lookup_cons]
    have hk':k = .cell:=by simpa using hk
    cases hx:x == y with
    |true=>
     have e2:x=y:=eq_of_beq hx;exact absurd (by rw [e2,hk'];exact List.mem_cons_self) h
    |false=>rfl
  · rw [if_neg hk]
    exact Zaa r n acc hr
theorem Zae{x y:Str}{c:Nat}:∀(names:List (Str×NameKind))(n:Nat)(acc:List (Str×Addr)),(∀(z:Str)(d:Nat),acc.lookup z=some d->d<n)->n<=c->(cellsFrom n names acc).lookup x=some c->(cellsFrom n names acc).lookup y=some c->x=y
 | [],n,acc,ha,hn,h1,h2=>by
  have:=ha x c h1;omega
 |(z,k)::r,n,acc,ha,hn,h1,h2=>by
  unfold cellsFrom at h1 h2
  by_cases hk:(k == .cell)=true
  · rw [if_pos hk]at h1 h2
    by_cases hc:c=n
    · subst hc
      have one:∀{w:Str},(cellsFrom (c+1) r ((z,c)::acc)).lookup w=some c->w=z:=λ{w} hw=>by
       rcases Q0 r (c+1) _ hw with⟨q,_⟩|q
       · omega
       · rw [List.lookup_cons]at q
         cases hx:w == z with
         |true=>exact eq_of_beq hx
         |false=>
          rw [hx]at q;have:=ha w c q;omega
      rw [one h1,one h2]
    · refine Zae r (n+1) _ (λw d hw => ?_) (by omega) h1 h2
      rw [List.lookup_cons]at hw;cases hx:w == z with
      |true=>rw [hx]at hw;have e:n=d:=Option.some.inj hw;exact Nat.lt_succ_of_le (Nat.le_of_eq e.symm)
      |false=>rw [hx]at hw;exact Nat.lt_succ_of_lt (ha w d hw)
  · rw [if_neg hk]at h1 h2
    exact Zae r n acc ha hn h1 h2
theorem Zab{lo:Nat}:∀(names:List (Str×NameKind))(h:Heap)(acc:List (Str×Addr)),(∀z d,acc.lookup z=some d->lo<=d->h.IsCell d none)->∀{x:Str}{c:Addr},(cellsFrom h.objs.size names acc).lookup x=some c->lo<=c->(pushCells h names).IsCell c none
 | [],h,acc,ha,x,c,h1,h2=>ha x c h1 h2
 |(z,k)::r,h,acc,ha,x,c,h1,h2=>by
  unfold cellsFrom at h1;unfold pushCells
  by_cases hk:(k == .cell)=true
  · rw [if_pos hk]at h1 ⊢
    have e:h.objs.size+1=(h.push { cls := .type "cell",data := .cell none }).objs.size:=(Heap.size_push ..).symm;rw [e]at h1;refine Zab r _ _ (λw d hw hd => ?_) h1 h2;rw [List.lookup_cons]at hw;cases hx:w == z with
    |true=>
     rw [hx]at hw;have q:h.objs.size=d:=Option.some.inj hw;rw [<-q];exact⟨_,Heap.get?_push_size _ rfl,rfl⟩
    |false=>
     rw [hx]at hw;exact(ha w d hw hd).keeps λb o e=>Heap.get?_push_of_some _ e
  · rw [if_neg hk]at h1 ⊢
    exact Zab r h acc ha h1 h2
theorem ZaB {M:Model} {A:Around} {E:Value->Shared->Prop} {s:Shared} {scope:Scope} {globals:Addr} {closure:List (Str×Addr)} {qual:Str} {func:Option Addr} {code:Value} {outer:Env} {builtins:Addr} {Q:Env->Shared->Prop}
 (hQ:Q (newEnv scope s.heap.objs.size globals (cellsFrom (s.heap.objs.size+1) scope.names closure) qual func code (some outer) builtins) { s with heap:=pushCells (s.heap.push { cls := .type "dict",data := .dict #[] }) scope.names }) :
 wpAny M A (newFunctionEnv scope globals closure [] qual func code (some outer) builtins) Q E s:=by
 simp only [newFunctionEnv,Option.isSome_some,if_true];refine wpAny_bind (wpAny_alloc ?_);refine wpAny_bind (wpAny_layCells _ (λname kind cells=>by cases hkc:kind == NameKind.cell<;>simp [hkc]) _ _ _ _ ?_);rw [show({ s with heap:=s.heap.push { cls := .type "dict",data := .dict #[] } }:Shared).heap.objs.size=s.heap.objs.size+1 from Heap.size_push ..];simp only [List.forIn_nil];exact wpAny_bind (wpAny_pure (wpAny_pure hQ))
structure CompSd(X:Cx)(scope:Scope)(tn cn:List Str)(js:List Nat):Prop where
 kind:scope.kind = .function
 own:∀y∈scope.names,y.2 = .cell->scope.names.lookup y.1=some .cell
 names:∀y∈scope.names,y.2 = .local->scope.names.lookup y.1=some .local
 free:∀y∈scope.names,y.2 = .free->X.env.kindOf y.1=some .cell\/X.env.kindOf y.1=some .free
 cap:∀(k:Nat)(x:Str),cn[k]? = some x->∃j,js[k]? = some j/\X.N[j]? = some x/\(X.env.kindOf x=some .cell\/X.env.kindOf x=some .free)/\scope.names.lookup x=some .free
 len:cn.length=js.length
def Zb2(onames:List (Str×NameKind))(oN:List Str)(names:List (Str×NameKind))(cn:List Str)(js:List Nat):Bool:=
 names.all (λy => !(y.2 == .cell)||(names.lookup y.1 == some .cell))&&names.all (λy => !(y.2 == .local)||(names.lookup y.1 == some .local)) &&
 names.all (λy => !(y.2 == .free)||(onames.lookup y.1 == some .cell||onames.lookup y.1 == some .free)) &&
 ((cn.zip js).all λp=>oN[p.2]? == some p.1&&(onames.lookup p.1 == some .cell||onames.lookup p.1 == some .free)&&names.lookup p.1 == some .free)&&(cn.length == js.length)
def UK(X:Cx)(scope:Scope)(C:Addr):List (Str×Addr):=cellsFrom (C+1) scope.names (XE X.env.cells scope.names [])
def Qq(X:Cx)(scope:Scope)(N':List Str)(C:Addr)(s₂:Shared)(H₂:Hp)(fp:List Addr)(xe:Value->Shared->Prop):Cx:=
 { X with N:=N',s₀:=s₂,H₀:=H₂,env:=compEnvC scope (UK X scope C) C X.env,outer:=X.stack,ex:=fp,fn:=λx=>scope.names.lookup x == some .cell,pn:=[],xe:=xe }
section
variable{X:Cx}{pins:List (Addr×Obj)}{σ:St}{H₂:Hp}{s₂:Shared}{scope:Scope}{tn cn:List Str}{js:List Nat}
theorem CompSd.clos(S:CompSd X scope tn cn js)(ok:X.Ok):∀y∈scope.names,y.2 = .free->∃c,X.env.cells.lookup y.1=some c:=λy hy e=>ok.has y.1 (S.free y hy e)
theorem UL{C:Addr}(S:CompSd X scope tn cn js)(ok:X.Ok){x:Str}{c:Addr}(h:(UK X scope C).lookup x=some c):(C+1<=c/\(x,NameKind.cell)∈scope.names)\/X.env.cells.lookup x=some c:=by
 rcases Q0 _ _ _ h with q|q
 · exact .inl q
 · exact .inr (QP _ [] (S.clos ok) (λ_ z=>by cases z) q)
theorem Zam{env:Env}:∀{names:List (Str×NameKind)}{x:Str}{k:NameKind},(names.map λ(n,k)=>if(k == NameKind.free&&env.scope.kind == .function&&env.kindOf n == some .cell)then(n,NameKind.cell)else(n,k)).lookup x=some k ->
 (k = .cell\/k = .free)->(x,NameKind.free)∈names\/(x,NameKind.cell)∈names
 | [],_,_,h,_=>by simp at h
 |(n,k0)::r,x,k,h,hk=>by
  have ih := @Zam env r x k;have more:((x,NameKind.free)∈r\/(x,NameKind.cell)∈r)->(x,NameKind.free)∈(n,k0)::r\/(x,NameKind.cell)∈(n,k0)::r:=λz=>z.elim (λz => .inl (List.mem_cons_of_mem _ z)) λz => .inr (List.mem_cons_of_mem _ z)
  have h:List.lookup x ((if(k0 == NameKind.free&&env.scope.kind == .function&&env.kindOf n == some .cell)=true then(n,NameKind.cell)else(n,k0))::_)=_:=h
  by_cases hb:(k0 == NameKind.free&&env.scope.kind == .function&&env.kindOf n == some .cell)=true
  · rw [if_pos hb,List.lookup_cons]at h
    have e0:k0 = .free:=by
     simp only [Bool.and_eq_true]at hb;simpa using hb.1.1
    cases hx:x == n with
    |true=>
     have e:x=n:=eq_of_beq hx;subst e;subst e0;exact .inl List.mem_cons_self
    |false=>
     rw [hx]at h;exact more (ih h hk)
  · rw [if_neg hb,List.lookup_cons]at h
    cases hx:x == n with
    |true=>
     rw [hx]at h;have e:x=n:=eq_of_beq hx;have e0:k0=k:=Option.some.inj h;subst e;subst e0;rcases hk with hk|hk
     · subst hk;exact .inr List.mem_cons_self
     · subst hk;exact .inl List.mem_cons_self
    |false=>
     rw [hx]at h;exact more (ih h hk)
theorem Ze9{C:Addr}{fp:List Addr}{xe:Value->Shared->Prop}(S:CompSd X scope tn cn js)(I:Inv X pins σ H₂ s₂)(hC:s₂.heap.objs.size<=C)(hf:∀b∈fp,XT X pins H₂ b)(ho:∀b∈fp,∃o,s₂.heap.get? b=some o/\∀v,o.data ≠ .cell v) :
 (Qq X scope (tn++cn) C s₂ H₂ fp xe).Ok where
 mod:=I.ok.mod
 kind:=S.kind
 glob:=I.ok.glob
 blt:=I.ok.blt
 above:=hC
 inj:=λx y c h1 h2=>by
  have old:∀{x:Str}{c:Nat},X.env.cells.lookup x=some c->Nat.lt c C:=λ{x c} h=>by
   obtain⟨v,o,q,_⟩:=I.cell x c h;exact Nat.lt_of_lt_of_le (Heap.lt_size q) hC
  rcases UL S I.ok h1 with⟨q1,_⟩|q1
  · exact Zae scope.names (C+1) _ (λz d hz=>Nat.lt_succ_of_lt (old (QP _ [] (S.clos I.ok) (λ_ z=>by cases z) hz))) q1 h1 h2
  · rcases UL S I.ok h2 with⟨q2,_⟩|q2
    · exact absurd (Nat.lt_of_lt_of_le (Nat.lt_succ_of_lt (old q1)) q2) (Nat.lt_irrefl _)
    · exact I.ok.inj x y c q1 q2
 has:=λx hx=>by
  have hm:(x,NameKind.free)∈scope.names\/(x,NameKind.cell)∈scope.names:=by
   rcases hx with hx|hx
   · exact Zam (env:=X.env) (k:=.cell) hx (Or.inl (Eq.refl NameKind.cell))
   · exact Zam (env:=X.env) (k:=.free) hx (Or.inr (Eq.refl NameKind.free))
  refine cellsFrom_some _ _ _ ?_;rcases hm with hm|hm
  · exact .inr (ZaG _ _ (.inl hm))
  · exact .inl hm
 cab:=λx c h1 h2=>by
  have e:scope.names.lookup x=some .cell:=by
   have q:(scope.names.lookup x == some .cell)=true:=h1;simpa using q
  exact Nat.le_trans hC (Nat.le_of_succ_le (Zad _ _ _ (PySem.mem_of_lookup e) h2))
 hd:=I.ok.hd
 frames:=I.ok.frames
 stk := .inl rfl
 exf:=λb hb=>by
  obtain⟨o,e,_⟩:=ho b hb;obtain⟨_,_,_,_,f4,_⟩:=hf b hb;have hbC:b<C:=Nat.lt_of_lt_of_le (Heap.lt_size e) hC;refine⟨Nat.ne_of_lt hbC,λx c h => ?_⟩;rcases UL S I.ok h with⟨q,_⟩|q
  · exact Nat.ne_of_gt (Nat.lt_of_lt_of_le hbC (Nat.le_of_succ_le q))
  · exact f4 x c q
 bs:=I.bs
 bsz:=Nat.le_trans I.ok.bsz I.sz
 noex:=λb o e hb=>by
  obtain⟨_,_,_,f3,_,_⟩:=hf b hb;rcases f3 with z|z
  · exact I.ok.noex b o e z
  · exact absurd (Nat.lt_of_lt_of_le (Heap.lt_size (I.ok.bs b o e).1) z) (Nat.lt_irrefl _)
 exfs:=λb hb z=>by
  obtain⟨_,f1,f2,_,_,_⟩:=hf b hb;exact(List.mem_cons.mp (I.stkSub b z)).elim f1 f2
 funs:=I.stack
 frf:=I.stkFree
theorem Za3 {C:Addr} {fp:List Addr} {s:Shared} {H:Hp} {m:Str->Option Value} (S:CompSd X scope tn cn js) (I:Inv X pins σ H₂ s₂) (hf:∀b∈fp,XT X pins H₂ b)
 (u:Un (frs X.stack) fp H₂ H s₂.heap s.heap) :
 ∀(i:Nat)(x:Str)(v:V),(tn++cn)[i]? = some x->(blk tn.length σ js)[i]? = some (some v)->∃z,RelV v z/\ZkU (compEnvC scope (UK X scope C) C X.env) s.heap m x z:=by
 intro i x v e1 e2;unfold blk at e2
 by_cases hi:i<tn.length
 · rw [List.getElem?_append_left (by simpa using hi),List.getElem?_replicate,if_pos hi]at e2
   cases e2
 · have hi':tn.length<=i:=by omega
   rw [List.getElem?_append_right hi']at e1;rw [List.getElem?_append_right (by simpa using hi'),List.length_replicate]at e2;obtain⟨j,hj,hN,hk,hm⟩:=S.cap _ _ e1;unfold QQ at e2;rw [List.getElem?_map,hj]at e2;have e3:(σ[j]?).getD none=some v:=Option.some.inj e2
   have e4:σ[j]? = some (some v):=by
    cases q:σ[j]? with
    |none=>rw [q]at e3;cases e3
    |some z=>rw [q]at e3;exact congrArg some e3
   obtain⟨m0,_,hl⟩:=I.loc
   have hv:Vis X.env.scope x:=by
    rcases hk with hk|hk
    · exact .inr (.inl hk)
    · exact .inr (.inr hk)
   obtain⟨z,rz,l⟩:=hl j x v hN e4 hv;refine⟨z,rz,?_⟩
   obtain⟨c,hc,ob,ho,hd⟩:∃c,X.env.cells.lookup x=some c/\s₂.heap.IsCell c (some z):=by
    rcases l with⟨k,_⟩|⟨_,c,hc,q⟩
    · rcases hk with hk|hk
      · rw [hk]at k;cases k
      · rw [hk]at k;cases k
    · exact⟨c,hc,q⟩
   have hnc:(x,NameKind.cell)∉scope.names:=λz=>by
    have q:=S.own _ z rfl;have q:scope.names.lookup x=some .cell:=q;rw [hm]at q;cases q
   obtain⟨c',hc'⟩:=ZaG (cells:=X.env.cells) (x:=x) scope.names [] (.inl (PySem.mem_of_lookup hm));have hcY:(UK X scope C).lookup x=some c':=(Zaa _ _ _ hnc).trans hc'
   have ec:c'=c:=by
    have:=QP _ [] (S.clos I.ok) (λ_ z=>by cases z) hc';rw [hc]at this;exact(Option.some.inj this).symm
   subst ec;have nf:c'∉fp:=λhb=>(hf c' hb).2.2.2.2.1 x c' hc rfl
   obtain⟨sl,q⟩:=u.any ho (I.freeC x c' hc) nf;exact .inr ⟨Zaw hm,c',hcY,⟨_,q,hd⟩⟩
theorem ZcA(S:CompSd X scope tn cn js):(blk tn.length σ js).length=(tn++cn).length:=by
 unfold blk QQ;rw [List.length_append,List.length_append,List.length_replicate,List.length_map,S.len]
theorem Zca {C:Addr} {fp:List Addr} {xe:Value->Shared->Prop} {s:Shared} {H:Hp} {σ':St} {pins':List (Addr×Obj)} (S:CompSd X scope tn cn js) (I:Inv X pins σ H₂ s₂) (hf:∀b∈fp,XT X pins H₂ b)
 (I':Inv (Qq X scope (tn++cn) C s₂ H₂ fp xe) pins' σ' H s):Inv (Qq X scope (tn++cn) C s₂ H₂ fp xe) pins' (blk tn.length σ js) H s:=by
 obtain⟨m,hn,_⟩:=id I'.loc;exact⟨I'.ok,I'.os,I'.bare,I'.base,⟨m,hn,λi x v e1 e2 _=>Za3 S I hf I'.base i x v e1 e2⟩,I'.cell,I'.free,I'.freeC,I'.pin,I'.hok,ZcA S⟩
theorem Zcb {C D:Addr} {fp:List Addr} {xe:Value->Shared->Prop} {h:Heap} {tk:Nat} {ob:Obj} {m:Str->Option Value} (S:CompSd X scope tn cn js) (I:Inv X pins σ H₂ s₂) (hC:s₂.heap.objs.size<=C) (hD:s₂.heap.objs.size<=D) (hDC:D≠C)
 (hf:∀b∈fp,XT X pins H₂ b) (ho:∀b∈fp,∃o,s₂.heap.get? b=some o/\∀v,o.data ≠ .cell v) (k:∀b o,s₂.heap.get? b=some o->h.get? b=some o) (hn:h.Ns C m) (hob:h.get? D=some ob) (hcell:∀v,ob.data ≠ .cell v) (hcs:∀x c,(UK X scope C).lookup x=some c->C+1<=c->h.IsCell c none) :
 Inv (Qq X scope (tn++cn) C s₂ H₂ fp xe) [(D,ob)] (blk tn.length σ js) H₂ { s₂ with heap:=h,toks:=tk }:=by
 have ok:=Ze9 (xe:=xe) S I hC hf ho;have u:Un (frs X.stack) fp H₂ H₂ s₂.heap h:=Un.kept k;refine⟨ok,rfl,I.bare,u,⟨m,hn,λi x v e1 e2 _=>Za3 (s:={ s₂ with heap:=h,toks:=tk }) S I hf u i x v e1 e2⟩,λx c e => ?_,I.hok.fresh hC,λx c e => ?_,λp hp => ?_,I.hok.kept k,ZcA S⟩
 · rcases UL S I.ok e with⟨z,_⟩|z
   · exact⟨none,hcs x c e z⟩
   · obtain⟨v,o,q,d⟩:=I.cell x c z
     exact⟨v,o,k c o q,d⟩
 · rcases UL S I.ok e with⟨z,_⟩|z
   · exact I.hok.fresh (Nat.le_trans hC (Nat.le_of_succ_le z))
   · exact I.freeC x c z
 · have e : p = (D, ob) := by
    have:p∈([]:List (Addr×Obj))++[(D,ob)]:=hp;simpa using this
   subst e;refine⟨hob,I.hok.fresh hD,hDC,λz => ?_,hcell⟩;have z:D∈frs X.stack:=z;rcases List.mem_cons.mp (I.stkSub D z)with e|e
   · exact absurd (Nat.lt_of_lt_of_le I.lt (by rw [<-e];exact hD)) (Nat.lt_irrefl _)
   · exact I.nofs hD e
theorem ZbE {C D:Addr} {fp:List Addr} {xe:Value->Shared->Prop} {s:Shared} {H:Hp} {σ':St} {ys:List V} {its:List Value} {n:Nat} {h':Heap} (S:CompSd X scope tn cn js) (I:Inv X pins σ H₂ s₂) (hC:s₂.heap.objs.size<=C) (hD:s₂.heap.objs.size<=D) (hDC:D≠C)
 (hf:∀b∈fp,XT X pins H₂ b) (I':Inv (Qq X scope (tn++cn) C s₂ H₂ fp xe) [(D,{ cls := .type "list",data := .seq its.toArray n })] σ' H s) (hv:Vals ys its) (hz:ys.length<=sizeLine) (hs:Heap.SameBut C s.heap h') :
 Inv X pins σ (upd H D (.lst ys)) { s with heap:=h' }:=by
 have pd:=I'.pin (D,{ cls := .type "list",data := .seq its.toArray n }) (List.mem_append_right _ List.mem_cons_self);have pd1:s.heap.get? D=some { cls := .type "list",data := .seq its.toArray n }:=pd.1;have pd2:H D=none:=pd.2.1;have hD':h'.get? D=some { cls := .type "list",data := .seq its.toArray n }:=(hs.2 D hDC).trans pd1;have hCf:H C=none:=I'.free;have old:∀b o,s₂.heap.get? b=some o->b≠C/\b≠D:=λb o e=>⟨Nat.ne_of_lt (Nat.lt_of_lt_of_le (Heap.lt_size e) hC),Nat.ne_of_lt (Nat.lt_of_lt_of_le (Heap.lt_size e) hD)⟩
 have u:=I'.base;have u:Un (frs X.stack) fp H₂ H s₂.heap s.heap:=u;refine I.call' (s':={ s with heap:=h' }) (ch:=fp) (H':=upd H D (.lst ys)) I'.os ⟨λb o e n hb hx => ?_,λb o e n hb hx => ?_,λb o e n hx => ?_,λb o e hx => ?_,λb xs e => ?_,λb o xs e => ?_,λb ps e => ?_⟩ (λb o e => ?_) I'.bare (λb hb => ?_)
 · exact(hs.2 b (old b o e).1).trans (u.keep b o e n hb hx)
 · obtain⟨sl,q⟩:=u.slot b o e n hb hx
   exact⟨sl,(hs.2 b (old b o e).1).trans q⟩
 · rw [ZJ (old b o e).2]
   exact u.free b o e n hx
 · obtain⟨o',q⟩:=u.there b o e hx
   exact⟨o',(hs.2 b (old b o e).1).trans q⟩
 · have q:=u.tups b xs e
   rw [ZJ (Xs q pd2)];exact q
 · have q:=u.frzs b o xs e
   rw [ZJ (Xs q pd2)];exact q
 · obtain⟨more,q⟩:=u.tbls b ps e
   exact⟨more,by rw [ZJ (Xs q pd2)];exact q⟩
 · by_cases hb:b=D
   · subst hb
     rw [YH]at e;cases e;exact⟨hz,its,n,hv,hD'⟩
   · rw [ZJ hb]at e
     refine(I'.hok b o e).stay (λc v hc q=>(hs.2 c ?_).trans q) (λc q=>by rw [ZJ (Xs q pd2)];exact q) λc xs q=>by rw [ZJ (Xs q pd2)];exact q
     rintro rfl
     rcases hc with rfl|hc
     · rw [hCf]at e;cases e
     · rw [hCf]at hc;cases hc
 · obtain⟨f0,f1,f2,f3,f4,f5⟩:=hf b hb
   exact⟨f3,f1,f4,f5⟩
end
section
variable{X:Cx}{tg iter elt:Expr}{ifs:List Expr}{scope:Scope}{pos:Pos}{wi:TI}{g:TG}{tt:TT}{te:TE}{tn cn:List Str}{js:List Nat}
abbrev Va(X:Cx)(scope:Scope)(N':List Str)(C:Addr)(s₂:Shared)(H₂:Hp)(fp:List Addr):Cx:=Qq X scope N' C s₂ H₂ fp λ_ _=>False
theorem ZaQ {pins:List (Addr×Obj)} {σ:St} {H₂:Hp} {s₂:Shared} {it:Addr} {fp:List Addr} {tnx:Nat->Heap->Prop} {J:It} {E:Value->Shared->Prop} {RR:Value->Addr->Result->Shared->Prop} {W:Nat->Nat->List V->Hp->Prop} {m0:Nat}
 (hc:X.calm=true) (S:CompSd X scope tn cn js)
 (hg:∀C s₂ H₂ fp,PG (Va X scope (tn++cn) C s₂ H₂ fp) tg g) (ht:∀C s₂ H₂ fp,PTs (Va X scope (tn++cn) C s₂ H₂ fp) ifs tt) (he:∀C s₂ H₂ fp,PE (Va X scope (tn++cn) C s₂ H₂ fp) elt te)
 (I2:Inv X pins σ H₂ s₂) (T:Turn X.prog X.w X.K tg J fp it tnx) (st2:tnx 0 s₂.heap) (f2:∀b∈fp,XT X pins H₂ b) (w0:W 0 m0 [] H₂)
 (turn:∀i m ys H,W i m ys H->(J.stop i H/\∀C D s its n σ',s₂.heap.objs.size<=C->s₂.heap.objs.size<=D->D≠C->Vals ys its->ys.length<=sizeLine ->
   Inv (Va X scope (tn++cn) C s₂ H₂ fp) [(D,{ cls := .type "list",data := .seq its.toArray n })] σ' H s->RR (.ref D) C (.ok .next) s) \/
   (J.go i H/\∀x H',J.yld i H x H'->g x (blk tn.length σ js) H' λσ2 H2=>tt σ2 H2 λb H3=>
     if b=true then te σ2 H3 λy H4=>ys.length<sizeLine/\∃m',m'<m/\W (i+1) m' (ys++[y]) H4 else ∃m',m'<m/\W (i+1) m' ys H3)) :
 wpAny (model X.prog X.w) X.A (newList []) (λacc s₃=>wpAny (model X.prog X.w) X.A (newFunctionEnv scope X.env.globals (XE X.env.cells scope.names []) [] X.env.qual none .none (some X.env)) (λcenv s₄=>
  codeAny (model X.prog X.w) X.A (.compStart (.ListComp elt [⟨tg,iter,ifs,0⟩] scope pos) 0 (.ref it) acc { cenv with scope:=relabel scope X.env }) (RR acc cenv.locals) s₄) E s₃) E s₂:=by
 refine wpAny_newObj_type (ZaB ?_);dsimp only;generalize hH2:s₂.heap.push { cls := .type "list",dict:=none,data := .seq ([]:List Value).toArray }=HH;have hCs:HH.objs.size=s₂.heap.objs.size+1:=by rw [<-hH2,Heap.size_push]
 have hDC:s₂.heap.objs.size≠HH.objs.size:=by rw [hCs];exact Nat.ne_of_lt (Nat.lt_succ_self _)
 have hC:s₂.heap.objs.size<=HH.objs.size:=by rw [hCs];exact Nat.le_succ _
 have hD:s₂.heap.objs.size<=s₂.heap.objs.size:=Nat.le_refl _;have hHe:HH.objs.size+1=(HH.push { cls := .type "dict",data := .dict #[] }).objs.size:=(Heap.size_push ..).symm
 have hcs:∀x c,(UK X scope HH.objs.size).lookup x=some c->HH.objs.size+1<=c->(pushCells (HH.push { cls := .type "dict",data := .dict #[] }) scope.names).IsCell c none:=λx c hx hc=>by
  unfold UK at hx;rw [hHe]at hx;refine Zab (lo:=HH.objs.size+1) _ _ _ (λz d hz hd => ?_) hx hc;obtain⟨v,o,q,_⟩:=I2.cell z d (QP _ [] (S.clos I2.ok) (λ_ z=>by cases z) hz);exact absurd (Nat.lt_of_lt_of_le (Nat.lt_of_lt_of_le (Heap.lt_size q) hC) (Nat.le_of_succ_le hd)) (Nat.lt_irrefl _)
 have hns₁:(pushCells (HH.push { cls := .type "dict",data := .dict #[] }) scope.names).Ns HH.objs.size (λ_=>none):=(Heap.Ns.new HH (.type "dict")).keeps (pushCells_keeps _ _);generalize hh1:pushCells (HH.push { cls := .type "dict",data := .dict #[] }) scope.names=h₁ at hcs hns₁ ⊢
 have old:∀b o,s₂.heap.get? b=some o->h₁.get? b=some o:=λb o e=>by
  rw [<-hh1];exact pushCells_keeps _ _ b o (Heap.get?_push_of_some _ (hH2▸Heap.get?_push_of_some _ e))
 have hacc:h₁.get? s₂.heap.objs.size=some { cls := .type "list",dict:=none,data := .seq ([]:List Value).toArray }:=by
  rw [<-hh1];exact pushCells_keeps _ _ _ _ (Heap.get?_push_of_some _ (hH2▸Heap.get?_push_size _ rfl))
 have hob:=T.obj _ _ st2
 have I3:Inv (Va X scope (tn++cn) HH.objs.size s₂ H₂ fp) [(s₂.heap.objs.size,{ cls := .type "list",dict:=none,data := .seq ([]:List Value).toArray })] (blk tn.length σ js) H₂ { s₂ with heap:=h₁ }:=
  Zcb (tk:=s₂.toks) S I2 hC hD hDC f2 hob old hns₁ hacc (λv z=>by cases z) hcs
 have st3:tnx 0 h₁:=T.keep _ _ _ st2 λb hb o e=>old b o e
 generalize hX':Va X scope (tn++cn) HH.objs.size s₂ H₂ fp=X' at I3;generalize hs3:({ s₂ with heap:=h₁ }:Shared)=s3 at I3 ⊢;have st3':tnx 0 s3.heap:=by rw [<-hs3];exact st3
 have stat:∀{pins':List (Addr×Obj)}{H':Hp},(∀b∈fp,H' b=none)->(∀p∈pins',p.1=s₂.heap.objs.size)->∀b∈fp,XT X' pins' H' b:=λ{pins' H'} hn hp b hb=>by
  subst hX';obtain⟨o,e,_⟩:=hob b hb;obtain⟨f0,f1,f2',f3,f4,f5⟩:=f2 b hb;refine⟨hn b hb,Nat.ne_of_lt (Nat.lt_of_lt_of_le (Heap.lt_size e) hC),λz=>(List.mem_cons.mp (I2.stkSub b z)).elim f1 f2',.inl hb,λx c h => ?_,λp hpp => ?_⟩
  · rcases UL S I2.ok h with⟨q,_⟩|q
    · exact Nat.ne_of_gt (Nat.lt_of_lt_of_le (Nat.lt_of_lt_of_le (Heap.lt_size e) hC) (Nat.le_of_succ_le q))
    · exact f4 x c q
  have:p∈pins':=by
   have q:p∈([]:List (Addr×Obj))++pins':=hpp;simpa using q
  rw [hp p this];exact Nat.ne_of_gt (Heap.lt_size e)
 have loop:codeAny (model X.prog X.w) X.A (.compLoop (.ListComp elt [⟨tg,iter,ifs,0⟩] scope pos) 0 (.ref it) (.ref s₂.heap.objs.size) X'.env) (RR (.ref s₂.heap.objs.size) HH.objs.size) s3:=by
  refine ZbR (λk s'=>∃i ys its n H',Inv X' [(s₂.heap.objs.size,{ cls := .type "list",data := .seq its n })] (blk tn.length σ js) H' s'/\Vals ys its.toList/\ys.length<=sizeLine/\tnx i s'.heap/\(∀b∈fp,H' b=none)/\W i k ys H') ?_ m0
   ⟨0,[],#[],0,H₂,I3,.nil,Nat.zero_le _,st3',λb hb=>(f2 b hb).1,w0⟩
  rintro k s4 ⟨i,ys,its,n,H4,I4,hv4,hz4,st4,fr4,w4⟩
  have eP:X'.prog=X.prog:=by rw [<-hX'];rfl
  have eW:X'.w=X.w:=by rw [<-hX'];rfl
  have eK:X'.K=X.K:=by rw [<-hX'];rfl
  have eA:X'.A=X.A:=by rw [<-hX'];rfl
  have eC:X'.calm=true:=by rw [<-hX'];exact hc
  have eE:X'.xe=λ_ _=>False:=by rw [<-hX'];rfl
  rcases turn i k ys H4 w4 with⟨stop,qn⟩|⟨go,step⟩
  · have z:=T.done X' eP eW eK eC i _ s4 (blk tn.length σ js) H4 (λ_ _=>False) I4 (stat fr4 (λp hp=>by simp at hp;rw [hp])) st4 stop
    rw [eA]at z;refine Qb (thn z λr s5 ⟨hr,I5⟩ => ?_);subst hr;subst hX';exact qn _ _ s5 its.toList n _ hC hD hDC hv4 hz4 (by simpa using I5)
  · have z:=T.item X' eP eW eK eC i _ s4 (blk tn.length σ js) H4 (λ_ _=>False) I4 (stat fr4 (λp hp=>by simp at hp;rw [hp])) st4 go
    rw [eA]at z;refine Qb (thn z λr s5 ⟨u,hr,h5⟩ => ?_);subst hr;refine Qb (thn h5 λ_ s6 ⟨x,H6,I6,r6,y6,st6,fr6⟩ => ?_);have I6':=I6.pinned (stat fr6 (λp hp=>by simp at hp;rw [hp])) (T.obj _ _ st6);have hg':PG X' tg g:=by rw [<-hX'];exact hg _ _ _ _
    have ht':PTs X' ifs tt:=by rw [<-hX'];exact ht _ _ _ _
    have he':PE X' elt te:=by rw [<-hX'];exact he _ _ _ _
    have z7:=hg' _ s6 _ H6 x u _ I6' r6 (step x H6 y6);rw [eP,eW,eA,eE]at z7;refine Qb (thn z7 λ_ s7 ⟨σ7,H7,I7,q7⟩ => ?_);have z8:=ht' _ s7 σ7 H7 _ I7 q7;rw [eP,eW,eA,eE]at z8;refine Qb (thn z8 λok s8 ⟨H8,I8,q8⟩ => ?_)
    have key:∀{σ9:St}{H9:Hp}{s9:Shared}{its':Array Value}{n':Nat},Inv X' ([(s₂.heap.objs.size,{ cls := .type "list",data := .seq its' n' })]++Vo fp s6.heap) σ9 H9 s9 ->
     Inv X' [(s₂.heap.objs.size,{ cls := .type "list",data := .seq its' n' })] (blk tn.length σ js) H9 s9/\tnx (i+1) s9.heap/\∀b∈fp,H9 b=none:=λ{σ9 H9 s9 its' n'} I9=>by
     refine⟨?_,T.keep _ _ _ st6 λb hb o e=>(I9.pin (b,o) (List.mem_append_right _ (List.mem_append_right _ (JA hb e)))).1,λb hb => ?_⟩
     · have I9':=I9.unpinned
       subst hX';exact Zca S I2 f2 I9'
     · obtain⟨o,e,d⟩:=T.obj _ _ st6 b hb
       exact(I9.pin (b,o) (List.mem_append_right _ (List.mem_append_right _ (JA hb e)))).2.1
    cases ok with
    |false=>
     rw [if_neg Bool.false_ne_true]at q8 ⊢;obtain⟨m',hm,w8⟩:=q8;obtain⟨I9,st9,fr9⟩:=key I8;exact⟨m',hm,i+1,ys,its,n,H8,I9,hv4,hz4,st9,fr9,w8⟩
    |true=>
     rw [if_pos rfl]at q8 ⊢;have z9:=he' _ s8 σ7 H8 _ I8 q8;rw [eP,eW,eA,eE]at z9;refine Qb (thn z9 λv s9 ⟨y,H9,I9,r9,hl9,m',hm,w9⟩ => ?_);have pd:=I9.pin (s₂.heap.objs.size,{ cls := .type "list",data := .seq its n }) (List.mem_append_right _ (List.mem_append_left _ List.mem_cons_self));have hpl:s9.heap.PlainList s₂.heap.objs.size its:=⟨n,pd.1⟩
     have hlen:its.size=ys.length:=by rw [hv4.length];simp
     refine wpAny_list_append_plain (hsz:=by omega) hpl λh10 hl10 hs10 => ?_
     obtain⟨n10,e10⟩:=hl10;have I10:Inv X' (Vo fp s6.heap) σ7 H9 s9:=I9.pins_of λp hp=>I9.pin p (List.mem_append_right _ (List.mem_append_right _ hp))
     have nD:∀b∈fp,b≠s₂.heap.objs.size:=λb hb=>by
      obtain⟨o,e,_⟩:=hob b hb;exact Nat.ne_of_lt (Heap.lt_size e)
     have I11:Inv X' (Vo fp s6.heap) σ7 H9 { s9 with heap:=h10 }:=by
      refine I10.turned (t':=s9.toks) (it:=s₂.heap.objs.size) (λb o hb e=>(hs10.2 b hb).trans e) pd.2.1 pd.2.2.1 ?_ ?_ ?_
      · subst hX';exact .inr (Nat.le_refl _)
      · subst hX'
        intro x c h;rcases UL S I2.ok h with⟨z,_⟩|z
        · exact Nat.ne_of_gt (Nat.lt_of_lt_of_le (Nat.lt_of_lt_of_le (Nat.lt_succ_self _) (Nat.le_of_eq hCs.symm)) (Nat.le_of_succ_le z))
        · obtain⟨v',o',q,_⟩:=I2.cell x c z
          exact Nat.ne_of_lt (Heap.lt_size q)
      · intro p hp
        have hp':p∈Vo fp s6.heap:=by
         subst hX';have q:p∈([]:List (Addr×Obj))++Vo fp s6.heap:=hp;simpa using q
        exact nD _ (Zbp hp').1
     have I12:Inv X' ([(s₂.heap.objs.size,{ cls := .type "list",data := .seq (its.push v) n10 })]++Vo fp s6.heap) σ7 H9 { s9 with heap:=h10 }:=I11.pins_of λp hp=>by
      rcases List.mem_append.mp hp with q|q
      · have e:p=(s₂.heap.objs.size,{ cls := .type "list",data := .seq (its.push v) n10 }):=by simpa using q
        subst e;exact⟨e10,pd.2.1,pd.2.2.1,pd.2.2.2.1,λv z=>by cases z⟩
      · exact I11.pin p (List.mem_append_right _ q)
     obtain⟨J1,J2,J3⟩:=key I12;refine⟨m',hm,i+1,ys++[y],its.push v,n10,H9,J1,?_,?_,J2,J3,w9⟩
     · have:(its.push v).toList=its.toList++[v]:=by simp
       rw [this];exact hv4.append (.cons r9 .nil)
     · rw [List.length_append,List.length_singleton]
       omega
 have eEnv:({ newEnv scope HH.objs.size X.env.globals (cellsFrom (HH.objs.size+1) scope.names (XE X.env.cells scope.names [])) X.env.qual none .none (some X.env) builtinsNs with scope:=relabel scope X.env }:Env)=X'.env:=by rw [<-hX'];rfl
 have loop2:=loop;rw [<-eEnv]at loop loop2;exact codeAny_compStart_list loop (T.self X.A 0 s3 _ _ st3' loop2)
theorem Ue (hc:X.calm=true) (S:CompSd X scope tn cn js) (hi:PI X tg iter wi)
 (hg:∀C s₂ H₂ fp,PG (Va X scope (tn++cn) C s₂ H₂ fp) tg g) (ht:∀C s₂ H₂ fp,PTs (Va X scope (tn++cn) C s₂ H₂ fp) ifs tt) (he:∀C s₂ H₂ fp,PE (Va X scope (tn++cn) C s₂ H₂ fp) elt te)
 (hs:∀x,foldedSetIterable iter X.env x=pure x:=by intro _;rfl) :
 PE X (.ListComp elt [⟨tg,iter,ifs,0⟩] scope pos) (Zf3 wi g tt te tn.length js):=by
 intro pins s σ H Q I h;rw [eval_ListComp];refine wpAny_comprehension_free (use:=none) (cl:=XE X.env.cells scope.names []) rfl hs (Zar (S.clos I.ok)) S.kind S.names (thn (hi pins s σ H _ I h) λv s1 h1=>thn h1 λitv s2 h2 => ?_);obtain⟨it,fp,tnx,J,H2,e,I2,T,st2,f2,W,⟨m0,w0⟩,turn⟩:=h2;subst e;refine ZaQ (RR:=λacc C=>compPost (model X.prog X.w) X.A X.xe none (EP X pins σ Q) acc C) (W:=W) (m0:=m0) hc S hg ht he I2 T st2 f2 w0 λi m ys H w => ?_
 rcases turn i m ys H w with⟨stop,qn⟩|r
 · refine .inl ⟨stop,λC D s its n σ' hC hD hDC hv hz I' => ?_⟩
   obtain⟨m',hn,_⟩:=id I'.loc;refine⟨m',hn,λh' hs' => ?_⟩;have pd:=I'.pin (D,{ cls := .type "list",data := .seq its.toArray n }) (List.mem_append_right _ List.mem_cons_self);exact⟨.ref D,_,ZbE S I2 hC hD hDC f2 I' hv hz hs',rfl,qn D pd.2.1⟩
 · exact .inr r
end
end L2
namespace PySem
abbrev Zh8(h:Heap)(z TI TO:Addr)(f0 f1:Value):Prop:=
 h.get? z=some { cls := .type "zip",dict:=none,data := .fields #[f0,f1,.bool false,.ref TI,.ref TO],slots := #[] }
section
variable{prog:Program}{w:World}{A:Around}{E:Value->Shared->Prop}{s:Shared}
structure ZipSt(h:Heap)(z TI TO i1 i2 l1 l2:Addr)(i:Nat):Prop where
 zip:∃f0 b,Zh8 h z TI TO f0 (.bool b)/\((f0 = .none/\b=false)\/∃T o,f0=rawInt (T:Nat)/\h.get? T=some o)
 TI:IsPair h TI (.ref i1) (.ref i2)
 TO:∃a b,IsPair h TO a b
 it1:h.IsListIter i1 l1 i
 it2:h.IsListIter i2 l2 i
end
end PySem
namespace L2
open PySem PySem.Spec PyProof.Rows
end L2
namespace L2
open PySem PySem.Spec PyProof.Rows
section
variable{X:Cx}
open Classical in
end
end L2
namespace DL
open PySem PySem.Spec L2
section
variable{cA:Kn}{G:Cn}{ow:List Nat}
end
end DL
namespace L2
open PySem PySem.Spec PyProof.Rows
end L2
namespace DL
open PySem PySem.Spec L2
end DL
namespace DL
open PySem PySem.Spec L2
section
variable{cA:Kn}{G:Cn}{ow owN owB owC:List Nat}{H0 H H':Hp}{av:Addr->Prop}{A:Nat->Option Addr}{σ:L2.St}{δ:Env}
end
end DL
namespace DL
open PySem PySem.Spec PyProof.Rows L2
section
variable{prog:Program}{w:World}{A:Around}{E:Value->Shared->Prop}{s:Shared}{l:Addr}{xs:Array (Int×Tok)}
end
section
variable{X:Cx}{K:PySem.W.Frag}{cA:Kn}
end
end DL
namespace DL
open PySem PySem.Spec L2
section
variable{cA:Kn}{G:Cn}{ow:List Nat}
def NewL(H0 H:Hp)(vs:List V):Prop:=∀v∈vs,∃b ws,v = .ref b/\H b=some (.lst ws)/\H0 b=none
theorem NewL.same{H0 H H':Hp}{vs:List V}(h:NewL H0 H vs)(s:Same H H'):NewL H0 H' vs:=λv hv=>let⟨b,ws,e,r,f⟩:=h v hv;⟨b,ws,e,s _ _ r,f⟩
mutual
theorem Rep.kind{av:Addr->Prop}{H H':Hp}:∀{d:D}{v:V},frz d=true->(∀b o,H b=some o->(∀vs,o ≠ .lst vs)->H' b=some o)->Rep cA av H d v->Rep cA av H' d v
 | .non,_,_,_,h=>h
 | .bl _,_,_,_,h=>h
 | .int _,_,_,_,h=>h
 | .str _,_,_,_,h=>h
 | .lst xs,v,hf,k,h=>by cases hf
 | .tup xs,v,hf,k,h=>by
  unfold DL.frz at hf;unfold Rep at h ⊢;obtain⟨a,vs,e,n,r,l⟩:=h;exact⟨a,vs,e,n,k _ _ r (λ_ z=>by cases z),RepL.kind hf k l⟩
 | .obj c ks xs,v,hf,k,h=>by
  unfold DL.frz at hf;unfold Rep at h ⊢;obtain⟨a,dx,vs,e,n,r,z,l⟩:=h;exact⟨a,dx,vs,e,n,k _ _ r (λ_ z=>by cases z),z,RepL.kind hf k l⟩
 | .dct ks xs,v,hf,k,h=>by cases hf
 | .dtt ks xs,v,hf,k,h=>by cases hf
 | .exc c r,v,hf,k,h=>by cases hf
theorem RepL.kind{av:Addr->Prop}{H H':Hp}:∀{xs:List D}{vs:List V},frzL xs=true->(∀b o,H b=some o->(∀vs,o ≠ .lst vs)->H' b=some o)->RepL cA av H xs vs->RepL cA av H' xs vs
 | [],_,_,_,h=>h
 |x::xs,vs,hf,k,h=>by
  unfold DL.frzL at hf;rw [Bool.and_eq_true]at hf;unfold RepL at h ⊢;obtain⟨v,r,e,h1,h2⟩:=h;exact⟨v,r,e,Rep.kind hf.1 k h1,RepL.kind hf.2 k h2⟩
end
structure Turned(H0 H H':Hp)(S:Addr->Prop):Prop where
 else_:∀b,¬S b->H' b=H b
 lst:∀b,S b->∃ws,H' b=some (.lst ws)
 old:∀b,S b->∃ws,H b=some (.lst ws)
 new:∀b,S b->H0 b=none
theorem Turned.kind{H0 H H':Hp}{S:Addr->Prop}(T:Turned H0 H H' S):∀b o,H b=some o->(∀vs,o ≠ .lst vs)->H' b=some o:=λb o e n=>by
 have hs:¬S b:=λz=>by
  obtain⟨ws,w⟩:=T.old b z;rw [w]at e;cases e;exact n ws rfl
 rw [T.else_ b hs];exact e
theorem Turned.same{H0 H H':Hp}{S:Addr->Prop}(T:Turned H0 H H' S)(s:Same H0 H):Same H0 H':=λb o e=>by
 have hs:¬S b:=λz=>by rw [T.new b z]at e;cases e
 rw [T.else_ b hs];exact s b o e
end
end DL
namespace DL
open PySem PySem.Spec L2
section
variable{cA:Kn}{G:Cn}{owN owB owC:List Nat}
theorem Turned.more{H0 H H':Hp}{S S':Addr->Prop}(T:Turned H0 H H' S)(hs:∀b,S b->S' b)(h1:∀b,S' b->∃ws,H b=some (.lst ws))(h2:∀b,S' b->H0 b=none):Turned H0 H H' S':=
 ⟨λb hb=>T.else_ b λz=>hb (hs b z),λb hb=>by
   by_cases z:S b
   · exact T.lst b z
   · rw [T.else_ b z];exact h1 b hb,h1,h2⟩
end
end DL
namespace PySem
open Sem (wp)
open AutoSeq1 (wpAny_loadPart')
section
variable{prog:Program}{w:World}{A:Around}{E:Value->Shared->Prop}{s:Shared}
end
end PySem
namespace L2
open PySem PySem.Spec PyProof.Rows
section
variable{X:Cx}{elts:List Expr}{x1:Nat}{tpos:Pos}
end
end L2
namespace DL
open PySem PySem.Spec L2
section
variable{cA:Kn}{G:Cn}{ow:List Nat}
end
end DL
namespace DL
open PySem PySem.Spec L2
section
variable{cA:Kn}{G:Cn}{ow owB owC:List Nat}
def Vj:D->D->Option D
 | .lst a,.lst b=>Zjf (.lst a) (.lst b)
 |_,_=>none
theorem Q1{ta tb:TE}{a b:Env->Option D}(ha:VE G ow ta .cl a)(hb:VE G ow tb .cl b):VF G ow (tOp (Zga G.1.K) ta tb) (eOp Vj a b):=λH0 av A σ H δ E d e Q k=>by
 obtain⟨x,y,ex,ey,ed⟩:=JM e;unfold Vj at ed
 split at ed
 · rename_i xs ys
   dsimp only [Zjf]at ed
   by_cases hz:xs.length+ys.length<=sizeLine
   · rw [if_pos hz]at ed
     cases ed;refine ha H0 av A σ H δ E _ ex _ λv H1 s1 r1=>hb H0 av A σ H1 δ (E.mono s1) _ ey _ λw H2 s2 r2 => ?_
     obtain⟨a1,vs1,rfl,na,rd,l1⟩:=r1;obtain⟨a2,vs2,rfl,nb,rd2,l2⟩:=r2;refine .inr (.inr ⟨a1,a2,vs1,vs2,rfl,rfl,s2.seq rd,rd2,by rw [<-l1.length,<-l2.length];exact hz,λp hp=>k p _ _ H2 (s1.trans s2) hp ((l1.same s2).append l2) rfl⟩)
   · rw [if_neg hz]at ed;cases ed
 · cases ed
end
end DL
namespace DL
open PySem PySem.Spec L2 PyProof.Rows
section
variable{X:Cx}{cA:Kn}
open Classical in
end
section
variable{prog:Program}{w:World}{A:Around}{E:Value->Shared->Prop}{s:Shared}{l:Addr}{xs:Array (Int×Tok)}
end
section
variable{X:Cx}{K:PySem.W.Frag}{cA:Kn}
end
end DL
namespace DL
open PySem PySem.Spec L2
end DL
namespace L2
open PySem PySem.Spec PyProof.Rows Builtin Builtin.Str
section
variable{X:Cx}
end
end L2
namespace DL
open PySem PySem.Spec L2
variable{cA:Kn}
end DL
namespace DL
open PySem PySem.Spec L2
section
variable{cA:Kn}{G:Cn}{ow owN owB owC:List Nat}
inductive NewD(H0 H:Hp):List D->List V->Prop
 |nil:NewD H0 H [] []
 |cons {xs ds:List D} {vs ws:List V} {b:Addr} (h:H b=some (.lst ws)) (h0:H0 b=none) (hl:ws.length=ds.length) (r:NewD H0 H xs vs):NewD H0 H (.lst ds::xs) (.ref b::vs)
theorem NewD.same{H0 H H':Hp}(s:Same H H'):∀{xs:List D}{vs:List V},NewD H0 H xs vs->NewD H0 H' xs vs
 |_,_,.nil => .nil
 |_,_,.cons h h0 hl r => .cons (s _ _ h) h0 hl (NewD.same s r)
structure Hd(H HE H':Hp)(p0 p1 b0:Addr)(r1:List V):Prop where
 same:Same H H'
 kind:∀b o,HE b=some o->(∀vs,o ≠ .lst vs)->H' b=some o
 l0:∃v ws,H' p0=some (.lst (v::ws))
 l1:∃v ws,H' b0=some (.lst (v::ws))
 lp:H' p1=some (.lst (.ref b0::r1))
end
end DL
namespace L2
open PySem PySem.Spec PyProof.Rows
section
variable{prog:Program}{w:World}{A:Around}{E:Value->Shared->Prop}{s:Shared}{d it:Addr}{es:Array DictEntry}{ep i:Nat}{o:Obj}
end
section
variable{X:Cx}{tg:Expr}
end
end L2
namespace DL
open PySem PySem.Spec L2
section
variable{G:Cn}{ow ow1 owB owC:List Nat}{i:Nat}{H0 H H':Hp}{av:Addr->Prop}{A A':Nat->Option Addr}{σ σ':L2.St}{δ δ':Env}{a:Addr}
end
end DL
namespace DL
open PySem PySem.Spec L2
section
variable{G:Cn}{ow owB owC ow1:List Nat}
end
end DL
namespace STb
open PySem PySem.SetTable
def lp(m:Nat):Nat->Nat×Nat->Nat×Nat
 |0,x=>x
 |k+1,x=>lp m k (leap m x.1 x.2)
def it(t:SetTable):Nat->Probe->Probe
 |0,p=>p
 |k+1,p=>it t k (t.advance p)
def rs(t:SetTable)(x:Nat×Nat):Probe:={ j:=x.1,more:=runEnd t.mask x.1-x.1,i:=x.1,perturb:=x.2,dummy:=none }
end STb
namespace STb
open PySem PySem.SetTable
def fl(m:Nat)(ow:Array (Option Nat)):List (Nat×Nat):=(List.range (m+1)).filterMap λj=>(ow.getD j none).map (j,·)
end STb
namespace STb
open PySem PySem.SetTable
section
variable{prog:Program}{w:World}{K:Type} [DecidableEq K]{knd:KeyKind prog w K}{A:Around}{E:Value->Shared->Prop}{s:Shared}
end
end STb
namespace STb
open PySem PySem.SetTable
section
variable{prog:Program}{w:World}{K:Type} [DecidableEq K](knd:KeyKind prog w K)
variable{knd}{A:Around}{E:Value->Shared->Prop}{s:Shared}
end
end STb
namespace STb
open PySem PySem.SetTable
section
variable{prog:Program}{w:World}{K:Type} [DecidableEq K]{knd:KeyKind prog w K}{A:Around}{s:Shared}
end
end STb
namespace L2
open PySem PySem.Spec PyProof.Rows
section
variable{X:Cx}
end
end L2
namespace DL
open PySem PySem.Spec L2
section
variable{cA:Kn}{G:Cn}{ow:List Nat}
end
end DL
namespace PySem
section
variable{prog:Program}{w:World}{A:Around}{E:Value->Shared->Prop}{s:Shared}
end
end PySem
namespace L2
open PySem PySem.Spec PyProof.Rows
section
variable{X:Cx}{tg:Expr}
end
end L2
namespace DL
open PySem PySem.Spec L2
section
variable{cA:Kn}{G:Cn}{ow:List Nat}
end
end DL
namespace L2
open PySem PySem.Spec PyProof.Rows
section
variable{X:Cx}{scope:Scope}{tn cn:List Str}{js:List Nat}{tg iter elt:Expr}{ifs:List Expr}{pos spos pos':Pos}{wi:TI}{g:TG}{tt:TT}{te:TE}
theorem Q2 {i:Nat} {x:Str} (hN:X.N.Nodup) (hi:X.N[i]? = some x) (hx:X.env.scope.names.lookup x=some .local) (hc:X.calm=true) (S:CompSd X scope tn cn js) (hI:PI X tg iter wi)
 (hg:∀C s₂ H₂ fp,PG (Va X scope (tn++cn) C s₂ H₂ fp) tg g) (ht:∀C s₂ H₂ fp,PTs (Va X scope (tn++cn) C s₂ H₂ fp) ifs tt) (he:∀C s₂ H₂ fp,PE (Va X scope (tn++cn) C s₂ H₂ fp) elt te)
 (hsw:swapsWith (.ListComp elt [⟨tg,iter,ifs,0⟩] scope pos) (some (.Name x pos')) spos.line X.env=pure true:=by rfl)
 (hs:∀x,foldedSetIterable iter X.env x=pure x:=by intro _;rfl) :
 PS X (.Assign [.Name x pos'] (.ListComp elt [⟨tg,iter,ifs,0⟩] scope pos) spos) (V6 (Zf3 wi g tt te tn.length js) (V5 i)):=by
 intro pins s σ H D I h;rw [exec_Assign_Name_used _ _ _ _ hsw];refine wpAny_bind (wpAny_standAt (wpAny_bind ?_));show wpAny _ X.A (do let _ <-comprehension (.ListComp elt [⟨tg,iter,ifs,0⟩] scope pos) scope X.env _ (newList []) false (eval iter X.env) (some (assign (.Name x pos') X.env))) _ _ s
 refine wpAny_bind (wpAny_mono (wpAny_comprehension_free (use:=some (assign (.Name x pos') X.env)) (Q:=λ_ s'=>SP X pins D .next s') (cl:=XE X.env.cells scope.names []) rfl hs (Zar (S.clos I.ok)) S.kind S.names
  (thn (hI pins s σ H _ I h) λv s1 h1=>thn h1 λitv s2 h2 => ?_)) (λ_ s' hq=>wpAny_pure (wpAny_pure hq)) λ_ _ e=>e)
 obtain⟨it,fp,tnx,J,H2,e,I2,T,st2,f2,W,⟨m0,w0⟩,turn⟩:=h2;subst e;refine ZaQ (RR:=λacc C=>compPost (model X.prog X.w) X.A X.xe (some (assign (.Name x pos') X.env)) (λ_ s'=>SP X pins D .next s') acc C) (W:=W) (m0:=m0) hc S hg ht he I2 T st2 f2 w0 λi' m ys H w => ?_
 rcases turn i' m ys H w with⟨stop,qn⟩|r
 · refine .inl ⟨stop,λC D' s its n σ' hC hD hDC hv hz I' => ?_⟩
   obtain⟨m',hn,_⟩:=id I'.loc;have pd:=I'.pin (D',{ cls := .type "list",data := .seq its.toArray n }) (List.mem_append_right _ List.mem_cons_self);have hCf:H C=none:=I'.free;have I1:Inv X pins σ (upd H D' (.lst ys)) { s with heap:=s.heap }:=ZbE S I2 hC hD hDC f2 I' hv hz (Heap.SameBut.refl _ _);show wpAny _ X.A (assign (.Name x pos') X.env (.ref D')) _ _ _;have hlC:X.env.locals≠C:=λz=>absurd (z▸I2.lt) (Nat.not_lt.mpr hC)
   have hcC:∀y c,X.env.cells.lookup y=some c->c≠C:=λy c e z=>by
    obtain⟨v',o',q,_⟩:=I2.cell y c e;exact absurd (Heap.lt_size q) (Nat.not_lt.mpr (z▸hC))
   refine wpAny_assign_Name (Zbo I1 hN hi (.inl hx) (v:=.ref D') rfl (λs3 I3 ⟨a,hsb,ha⟩ => ?_) (.inr hx))
   have hCa:C≠a:=by
    rcases ha with rfl|ha
    · exact Ne.symm hlC
    · exact Ne.symm (hcC _ _ ha)
   refine⟨m',hn.sameBut hsb hCa,λh' hs' => ?_⟩;have hCn:upd H D' (.lst ys) C=none:=by rw [ZJ (Ne.symm hDC)];exact hCf
   have I4:Inv X pins (σ.set i (some (.ref D'))) (upd H D' (.lst ys)) { s3 with heap:=h',toks:=s3.toks }:=I3.turned (it:=C) (λb o hb e=>(hs'.2 b hb).trans e) hCn (Ne.symm hlC) (.inr (Nat.le_trans (Nat.le_trans I2.ok.above (Nat.le_of_lt I2.lt)) hC)) (λy c e=>hcC y c e) λp hp z=>by
    have:=(I2.pin p hp).1;exact absurd (Heap.lt_size this) (Nat.not_lt.mpr (z▸hC))
   exact⟨_,_,I4,qn D' pd.2.1⟩
 · exact .inr r
theorem CompSd.mkG{on:List (Str×NameKind)}(hk:scope.kind = .function)(ho:∀y,on.lookup y=some .cell\/on.lookup y=some .free->X.env.kindOf y=some .cell\/X.env.kindOf y=some .free)(h:Zb2 on X.N scope.names cn js=true):CompSd X scope tn cn js:=by
 unfold Zb2 at h;simp only [Bool.and_eq_true,List.all_eq_true]at h;obtain⟨⟨⟨⟨h1,h2⟩,h3⟩,h4⟩,h5⟩:=h;have hlen:cn.length=js.length:=by simpa using h5
 refine⟨hk,λy hy e=>by simpa [e]using h1 y hy,λy hy e=>by simpa [e]using h2 y hy,λy hy e=>ho _ (by simpa [e]using h3 y hy),λk x e => ?_,hlen⟩;have hkj:k<js.length:=hlen▸(List.getElem?_eq_some_iff.mp e).1;have:=h4 (x,js[k]) (List.mem_of_getElem? (i:=k) (List.getElem?_zip_eq_some.mpr ⟨e,by simp [hkj]⟩));simp only [Bool.and_eq_true,Bool.or_eq_true,beq_iff_eq]at this
 exact⟨js[k],by simp [hkj],this.1.1,ho _ this.1.2,this.2⟩
theorem CompSd.mk1{osc:Scope}{oN:List Str}(hk:scope.kind = .function)(ho:X.env.scope=osc)(hN:X.N=oN)(h:Zb2 osc.names oN scope.names cn js=true):CompSd X scope tn cn js:=CompSd.mkG (on:=osc.names) hk (λy e=>by unfold Env.kindOf;rw [ho];exact e) (hN▸h)
end
end L2
namespace L2
open PySem PySem.Spec
theorem fsm {N P:List Str} {sc:Scope} (a:sc.kind = .function:=by rfl) (b:sc.isCoroutine=false:=by rfl) (c:sc.isGenerator=false:=by rfl) (d:N.Nodup:=by decide +kernel) (e:N.take P.length=P:=by rfl)
 (f:∀x∈P,sc.names.lookup x=some .local\/sc.names.lookup x=some .cell:=by decide +kernel) (g:∀y∈sc.names,y.2 ≠ .free:=by decide +kernel):FnScope N P sc:=⟨a,b,c,d,e,f,g⟩
structure Df(K:PySem.W.Frag)(x q:Str)(st:Stmt)(a:Addr)(fd:FuncData)(ps:List Str):Prop where
 f:FunX K x q st a fd
 b:Binds K fd ps []
 k:PySem.W.keepIn K (.ref a)=true
structure Dg(K:PySem.W.Frag)(mg:Str->Option Value)(x:Str)(st:Stmt)(a:Addr)(fd:FuncData)(ps:List Str):Prop extends Df K x x st a fd ps where
 g:mg x=some (.ref a)
structure Fg(K:PySem.W.Frag)(x:Str)(st:Stmt)(f:Addr)(fd:FuncData):Prop where
 a:nsIn K mainGlobals x=some (some (.ref f))
 l:Fun K x x st f fd
variable{K:PySem.W.Frag}{h:Heap}{mg:Str->Option Value}{x q:Str}{st:Stmt}{f:Addr}{fd:FuncData}{ps:List Str}
theorem Fun.df (F:Fun K x q st f fd) (b:∀(kV doc pm:Value)(an:Option Addr)(cdv ct:Value)(us:List Value),us.length=ps.length->bindArgs (fnOf x q (defArgs st) (defBody st) (defScope st) .none kV doc pm an cdv ct) ⟨us,[]⟩=pure (ps.zip us):=by
 intro _ _ _ _ _ _ us hl;rcases us with _|⟨_,_|⟨_,_|⟨_,_|⟨_,_|⟨_,_|⟨_,_|⟨_,_⟩⟩⟩⟩⟩⟩⟩<;>first|(exfalso;simp at hl;done)|rfl):Df K x q st f fd ps:=⟨F.x,F.binds b,F.kp⟩
theorem Fg.dg(F:Fg K x st f fd)(X:K.In h)(G:h.Ns mainGlobals mg)(D:Df K x x st f fd ps):Dg K mg x st f fd ps:=⟨D,mg_of X G F.a⟩
theorem Fg.of {oc:Value} {od an:Option Addr} {osl:Array (Option Value)} {kV doc pm cdv ct:Value} (a:nsIn K mainGlobals x=some (some (.ref f))) (l:K.lookup f=some ⟨oc,od,.func (fnOf x x (defArgs st) (defBody st) (defScope st) .none kV doc pm an cdv ct),osl⟩)
 (c:codeIn K cdv x=true) (k:PySem.W.keepIn K (.ref f)=true):Fg K x st f (fnOf x x (defArgs st) (defBody st) (defScope st) .none kV doc pm an cdv ct):=⟨a,fun_mk l c k⟩
end L2
namespace L2
open PySem PySem.Spec PySem.W PyProof.Rows
section
variable{X:Cx}{G:Addr}{g:Str}{body suite:List Stmt}{b₀:Stmt}{gp hpos pos:Pos}{tb:XK->TS}{ts:TS}
end
end L2
namespace DL
open PySem PySem.Spec L2
section
variable{cA:Kn}{G:Cn}{ow owB owC:List Nat}
end
end DL
namespace L2
open PySem PySem.Spec PySem.W PyProof.Rows
def CX2(P:Program)(w:World):CXT:=λouter H s E ev s'=>∃(ea:Addr) (cls a0:Value) (B:Heap) (H':Hp),ev = .ref ea/\s'.os=s.os/\AllBare s'.gens/\Heap.FlyingW B outer ea cls a0 s'.heap /\
 (∀b o,s.heap.get? b=some o->H b=none->b∉frs outer->B.get? b=some o)/\HOk P w H' B/\(∀b o,s.heap.get? b=some o->H b=none->H' b=none)/\(∀b o,s.heap.get? b=some o->b∈frs outer->∃sl,s'.heap.get? b=some { o with slots:=sl })/\E cls none H'
section
variable{P:Program}{w:World}{K:PySem.W.Frag}{mg:Str->Option Value}{base:Heap}{N:List Str}{qual:Str}{scope:Scope}{f:Addr}{cd:Value}{A:Around}{outer:List Env}{s:Shared}{H:Hp}{E:XK}
theorem CX1.two{ev:Value}{s':Shared}:CX1 P w outer H s E ev s'->CX2 P w outer H s E ev s':=λ⟨ea,cls,a0,B,H',h1,h2,h3,h4,h5,h6,_,h8⟩=>⟨ea,cls,a0,B,H',h1,h2,h3,h4,h5,h6,h8⟩
theorem CX2.one{ev:Value}{s':Shared}:CX2 P w outer H s (λc d H'=>Same H H'/\E c d H') ev s'->CX1 P w outer H s E ev s':=λ⟨ea,cls,a0,B,H',h1,h2,h3,h4,h5,h6,h7,h8,h9,h10⟩=>⟨ea,cls,a0,B,H',h1,h2,h3,h4,h5,h6,h9,h7,h8,h10⟩
theorem Zbk{C:Addr}:Zb0 (YO (CX2 P w) P w K mg base N qual scope f cd A outer s H E) E C:=by
 intro pins σ H1 s1 h' e us I hx hw;show wpAny (model P w) _ (leaving _ (.ref e)) _ _ _;have hin:∀env∈((YO (CX2 P w) P w K mg base N qual scope f cd A outer s H E).stack),∀b,env.frame=some b->b∈frs (YO (CX2 P w) P w K mg base N qual scope f cd A outer s H E).stack:=λenv he b hb=>List.mem_filterMap.mpr ⟨env,he,hb⟩
 have hfun:=funFrames_hide I.stack hin;have hsub:=I.stkSub;refine wpAny_leaves_madeW (base:=hideAll s1.heap (frs (YO (CX2 P w) P w K mg base N qual scope f cd A outer s H E).stack)) (h:=s1.heap) (outer:=outer) I.ok.frames rfl (λb o q=>of_hideAll _ q) hfun hx λh2 t x1 x2 x3 x4 => ?_
 refine⟨e,.ref C,.ref t,_,H1,rfl,I.os,I.bare,x1,λb o q n hb => ?_,HOk.hide I.hok I.stkFree,λb o q n=>I.base.free b o q n (λz=>nomatch z),λb o q hb => ?_,hw⟩
 · refine hideAll_get _ (I.base.keep b o q n hb (λz=>nomatch z)) λz => ?_
   rcases List.mem_cons.mp (hsub b z)with e'|z
   · exact absurd (Heap.lt_size q) (Nat.not_lt.mpr (by rw [e'];exact I.ok.above))
   · exact hb z
 · obtain⟨sl,q1⟩:=I.base.slot b o q (I.ok.frf b hb) hb (λz=>nomatch z)
   obtain⟨_,o',q2,hnf⟩:=I.ok.funs.mem hb;have:o'=o:=Option.some.inj (q2.symm.trans q);subst this;obtain⟨sl2,q4⟩:=x4 b _ (hx.keeps b _ q1) (show ∀vs,({ cls:=o'.cls,dict:=o'.dict,data:=o'.data,slots:=sl }:Obj).data ≠ .fields vs from hnf);exact⟨sl2,q4⟩
theorem ZdB{CX:CXT}{E1:XK}(hC:∀ev s',CX2 P w outer H s E ev s'->CX outer H s E1 ev s'):XV (CX2 P w) (YO CX P w K mg base N qual scope f cd A outer s H E1) E:=by
 intro pins σ H1 s1 ev s' I ⟨ea,cls,a0,B,H2,e,hos,hb,hfl,hKB,hok,hfree,hup,hE⟩;subst e;show wpAny (model P w) _ (leaving _ (.ref ea)) _ _ _;refine wpAny_leaves_onW (outer:=outer) I.ok.frames rfl hfl λh2 y1 y2=>hC _ _ ?_
 refine⟨ea,cls,a0,B,H2,rfl,hos.trans I.os,hb,y1,λb o q n hn => ?_,hok,λb o q n => ?_,λb o q hn => ?_,hE⟩
 · refine hKB b o (I.base.keep b o q n hn (λz=>nomatch z)) (I.base.free b o q n (λz=>nomatch z)) λz => ?_
   rcases List.mem_cons.mp (I.stkSub b z)with e'|z
   · exact absurd (Heap.lt_size q) (Nat.not_lt.mpr (by rw [e'];exact I.ok.above))
   · exact hn z
 · obtain⟨sl,q1⟩:=I.base.any q n (λz=>nomatch z)
   exact hfree b _ q1 (I.base.free b o q n (λz=>nomatch z))
 · obtain⟨sl,q1⟩:=I.base.slot b o q (I.ok.frf b hn) hn (λz=>nomatch z)
   obtain⟨_,o',q2,hnf⟩:=I.ok.funs.mem hn;have:o'=o:=Option.some.inj (q2.symm.trans q);subst this;obtain⟨sl',q3⟩:=hup b _ q1 (List.mem_cons_of_mem _ hn);obtain⟨sl2,q4⟩:=y2 b _ q3 (show ∀vs,({ cls:=o'.cls,dict:=o'.dict,data:=o'.data,slots:=sl' }:Obj).data ≠ .fields vs from hnf);exact⟨sl2,q4⟩
theorem UM:XV (CX2 P w) (YO (CX2 P w) P w K mg base N qual scope f cd A outer s H E) E:=ZdB λ_ _ h=>h
theorem X1:XV (CX2 P w) (YO (CX1 P w) P w K mg base N qual scope f cd A outer s H E) (λc d H'=>Same H H'/\E c d H'):=ZdB λ_ _ h=>h.one
theorem Xu:XV (CX1 P w) (YO (CX2 P w) P w K mg base N qual scope f cd A outer s H E) E:=λpins σ H s e s' I h=>UM pins σ H s e s' I h.two
theorem Zh9{X:Cx}:XV (CX2 P w) X E0:=λ_ _ _ _ _ _ _ ⟨_,_,_,_,_,_,_,_,_,_,_,_,_,hE⟩=>hE.elim
end
end L2
namespace DL
open PySem PySem.Spec L2
def Ys(cA:Kn)(n:Nat)(m:List D->Option D)(x:List D->Option String):Sp:=λvs H Q E=>spI cA n m vs H Q E \/
 ∃(a:Addr) (r:List V) (av:Addr->Prop) (ds:List D) (d:D) (c:String),vs = .ref a::r/\(∀b,av b->H b≠none)/\¬av a/\Own cA (λb=>av b\/b=a) H d a/\RepL cA (λb=>av b\/b=a) H ds r/\(d::ds).length=n/\x (d::ds)=some c /\
 ∀H',(∀b o,b≠a->H b=some o->H' b=some o)->E (.ref (cA.c c)) none H'
section
variable{cA:Kn}{G:Cn}{ow owB owC:List Nat}{E:XK}
theorem ZdC{H0 H:Hp}{av:Addr->Prop}{A:Nat->Option Addr}{σ:L2.St}{δ:Env}{ds dds:List D}{vs:List V}{x dx:Addr}{C:Addr}(hd:dds.all ZC=true)(R:ER G ow H0 av A σ H δ)(r1:RepQL G.1 av A H .cl ds vs)(hx:H x=none)(hdx:H dx=none)(hne:dx≠x) :
 Same H (upd (upd H dx (.own x)) x (.ins C dx []))/\(∀a,AV av A a->upd (upd H dx (.own x)) x (.ins C dx []) a≠none)/\¬AV av A x/\RepL G.1 (λa=>AV av A a\/a=x) (upd (upd H dx (.own x)) x (.ins C dx [])) (ds++dds) (vs++dds.map val):=by
 have s2:Same H (upd (upd H dx (.own x)) x (.ins C dx [])):=(Xi hdx).trans (Xi (by rw [ZJ (Ne.symm hne)];exact hx));refine⟨s2,λa z => ?_,λz=>R.avl x z hx,RepL.same s2 ((r1.cl.append (.of_vals hd)).av λb z => ?_)⟩
 · have:=R.avl a z
   cases q:H a with
   |none=>exact absurd q this
   |some o=>rw [s2 a o q];exact λz=>by cases z
 · rcases z with z|z
   · exact .inl z
   · exact .inr (by rw [z];exact hx)
theorem Uf{n:Nat}{m:List D->Option D}{xm:List D->Option String}{t:TA}{α:Env->Option (List D)}{E0:XK}{c:String}(dds:List D)(hd:dds.all ZC=true)(h:VA G ow t .cl α):VE G ow (JC (G.1.c c) (Ys G.1 n m xm) (dds.map val) E0 t) .cl (ZK c n m dds α):=λH0 av A σ H δ R d e Q k=>by
 unfold ZK at e;cases he:α δ with
 |none=>rw [he]at e;cases e
 |some ds=>
  rw [he]at e;dsimp only at e
  by_cases hz:(D.obj c [] []::(ds++dds)).length=n
  · rw [if_pos hz]at e
    refine h H0 av A σ H δ R ds he _ λvs H1 s1 r1 x dx hx hdx hne => .inl ?_
    obtain⟨s2,f1,f2,f3⟩:=ZdC (C:=G.1.c c) hd (R.mono s1) r1 hx hdx hne;refine⟨x,_,AV av A,_,.obj c [] [],d,rfl,f1,f2,⟨dx,[],YH,rfl,.nil⟩,f3,hz,e,λH' hk ho=>⟨rfl,k _ H' ?_ ?_⟩⟩
    · exact s1.trans λb o e=>hk b o (λz=>by rw [z,hx]at e;cases e) (s2 b o e)
    · exact((ho.av λb z => .inl (.inl z)).rep f2).t
  · rw [if_neg hz]at e;cases e
def Zgc(c:String)(n:Nat)(x:List D->Option String)(dds:List D)(α:Env->Option (List D))(δ:Env):Option String:=match α δ with
 |some ds=>if(D.obj c [] []::(ds++dds)).length=n then x (.obj c [] []::(ds++dds))else none
 |none=>none
theorem Zfa{n:Nat}{m:List D->Option D}{xm:List D->Option String}{t:TA}{α:Env->Option (List D)}{c:String}(dds:List D)(hd:dds.all ZC=true)(h:VA G ow t .cl α):VXe G ow E (JC (G.1.c c) (Ys G.1 n m xm) (dds.map val) E t) (Zgc c n xm dds α):=λH0 av A σ H δ R c' e k Q=>by
 unfold Zgc at e;cases he:α δ with
 |none=>rw [he]at e;cases e
 |some ds=>
  rw [he]at e;dsimp only at e
  by_cases hz:(D.obj c [] []::(ds++dds)).length=n
  · rw [if_pos hz]at e
    refine h H0 av A σ H δ R ds he _ λvs H1 s1 r1 x dx hx hdx hne => .inr ?_
    obtain⟨s2,f1,f2,f3⟩:=ZdC (C:=G.1.c c) hd (R.mono s1) r1 hx hdx hne;exact⟨x,_,AV av A,_,.obj c [] [],c',rfl,f1,f2,⟨dx,[],YH,rfl,.nil⟩,f3,hz,e,λH' hk=>k H' (s1.trans λb o e=>hk b o (λz=>by rw [z,hx]at e;cases e) (s2 b o e))⟩
  · rw [if_neg hz]at e;cases e
theorem ZdD{H0 H:Hp}{av:Addr->Prop}{A:Nat->Option Addr}{σ:L2.St}{δ:Env}{ds dds:List D}{d:D}{vs:List V}{i:Nat}(hd:dds.all ZC=true)(hi:ow.contains i=true)(R:ER G ow H0 av A σ H δ)(hv:Za i δ=some d) :
 ∃a,A i=some a/\σ[i]? = some (some (.ref a))/\∀H1,Same H H1->RepQL G.1 av A H1 .cl ds vs->(∀b,(AV av A b/\b≠a)->H1 b≠none)/\Own G.1 (λb=>(AV av A b/\b≠a)\/b=a) H1 d a/\RepL G.1 (λb=>(AV av A b/\b≠a)\/b=a) H1 (ds++dds) (vs++dds.map val)/\∀b,AV av A b->(AV av A b/\b≠a)\/b=a:=by
 have hi':i∈ow:=by simpa using hi
 cases hA:A i with
 |none=>exact absurd hA (R.dom' i hi')
 |some a=>
  obtain⟨v,g1,_,g3⟩:=R.var i _ (XO hv);obtain⟨rfl,_⟩:=g3 a hA;refine⟨a,rfl,g1,λH1 s r => ?_⟩;have E1:=R.mono s;obtain⟨v2,_,_,g3'⟩:=E1.var i _ (XO hv);obtain⟨_,ow'⟩:=g3' a hA
  have eqv:∀b,(AV av A b/\b≠a)\/b=a->AV av A b:=λb=>by
   rintro(z|z)
   · exact z.1
   · rw [z];exact .inr ⟨i,hA⟩
  exact⟨λb z=>E1.avl b z.1,ow'.av λb z => .inl (eqv b z),(r.cl.append (.of_vals hd)).av λb z => .inl (eqv b z),λb z=>if q:b=a then .inr q else .inl ⟨z,q⟩⟩
theorem Zfb{n:Nat}{m:List D->Option D}{xm:List D->Option String}{t:TA}{α:Env->Option (List D)}{E0:XK}(i:Nat)(hi:ow.contains i=true)(dds:List D)(hd:dds.all ZC=true)(h:VA G ow t .cl α) :
 VS G ow ow owB owC (VB (X5 (Ys G.1 n m xm) (dds.map val) E0 (Y5 (XJ i) t))) (Yi i n m dds α):=λH0 av A σ H δ R o e De k=>by
 unfold Yi at e;cases hv:Za i δ with
 |none=>rw [hv]at e;cases e
 |some d=>
  rw [hv]at e;dsimp only at e;cases he:α δ with
  |none=>rw [he]at e;cases e
  |some ds=>
   rw [he]at e;dsimp only at e
   by_cases hz:(d::(ds++dds)).length=n
   · rw [if_pos hz]at e
     cases hm:m (d::(ds++dds))with
     |none=>rw [hm]at e;cases e
     |some d'=>
      rw [hm]at e;cases e;have hi':i∈ow:=by simpa using hi
      cases hA:A i with
      |none=>exact absurd hA (R.dom' i hi')
      |some a=>
       obtain⟨v,g1,_,g3⟩:=R.var i _ (XO hv);obtain⟨rfl,_⟩:=g3 a hA;refine⟨_,g1,h H0 av A σ H δ R ds he _ λvs H1 s r => .inl ?_⟩;obtain⟨a',e1,_,hh⟩:=ZdD (dds:=dds) (ds:=ds) (vs:=vs) hd hi R hv;obtain rfl:a=a':=Option.some.inj (hA.symm.trans e1);obtain⟨f1,f2,f3,f4⟩:=hh H1 s r;exact⟨a,_,λb=>AV av A b/\b≠a,_,d,d',rfl,f1,λz=>z.2 rfl,f2,f3,hz,hm,λH' hk ho=>k A σ H' ((R.mono s).put hA (XO hv) hk ho.live (ho.av λb z => .inl (f4 b z)))⟩
   · rw [if_neg hz]at e;cases e
def Zgd(i n:Nat)(x:List D->Option String)(dds:List D)(α:Env->Option (List D))(δ:Env):Option String:=match Za i δ with
 |some d=>match α δ with
  |some ds=>if(d::(ds++dds)).length=n then x (d::(ds++dds))else none
  |none=>none
 |none=>none
theorem Zfc{n:Nat}{m:List D->Option D}{xm:List D->Option String}{t:TA}{α:Env->Option (List D)}(i:Nat)(hi:ow.contains i=true)(dds:List D)(hd:dds.all ZC=true)(h:VA G ow t .cl α) :
 VX G ow E (VB (X5 (Ys G.1 n m xm) (dds.map val) E (Y5 (XJ i) t))) (Zgd i n xm dds α):=λH0 av A σ H δ R c e k De=>by
 unfold Zgd at e;cases hv:Za i δ with
 |none=>rw [hv]at e;cases e
 |some d=>
  rw [hv]at e;dsimp only at e;cases he:α δ with
  |none=>rw [he]at e;cases e
  |some ds=>
   rw [he]at e;dsimp only at e
   by_cases hz:(d::(ds++dds)).length=n
   · rw [if_pos hz]at e
     have hi':i∈ow:=by simpa using hi
     cases hA:A i with
     |none=>exact absurd hA (R.dom' i hi')
     |some a=>
      obtain⟨v,g1,_,g3⟩:=R.var i _ (XO hv);obtain⟨rfl,_⟩:=g3 a hA;refine⟨_,g1,h H0 av A σ H δ R ds he _ λvs H1 s r => .inr ?_⟩;obtain⟨a',e1,_,hh⟩:=ZdD (dds:=dds) (ds:=ds) (vs:=vs) hd hi R hv;obtain rfl:a=a':=Option.some.inj (hA.symm.trans e1);obtain⟨f1,f2,f3,f4⟩:=hh H1 s r;exact⟨a,_,λb=>AV av A b/\b≠a,_,d,c,rfl,f1,λz=>z.2 rfl,f2,f3,hz,e,λH' hk=>k H' λb o q=>hk b o (λz=>by rw [z,R.fr i a hA]at q;cases q) (s b o (R.same b o q))⟩
   · rw [if_neg hz]at e;cases e
end
section
variable{P:Program}{w:World}{K:PySem.W.Frag}{mg:Str->Option Value}{base:Heap}{cA:Kn}
theorem ZdE{N:List Str}{x:Addr}{r:List V}{av:Addr->Prop}{ds:List D}{d:D}{H:Hp}(ha:∀a,av a->H a≠none)(nx:¬av x)(ho:Own cA (λa=>av a\/a=x) H d x)(l:RepL cA (λa=>av a\/a=x) H ds r) :
 ER ⟨cA,λj=>if j=0 then some (.inl x)else none⟩ [0] (λb=>if b=x then none else H b) av (λj=>if j=0 then some x else none) (L2.start N (.ref x::r)) H ((d::ds).map some++List.replicate (N.length-(d::ds).length) none):=by
 have hAV:∀b,AV av (λj=>if j=0 then some x else none) b ↔ av b\/b=x:=λb=>by
  constructor
  · rintro(z|⟨j,z⟩)
    · exact .inl z
    · by_cases e:j=0
      · simp [e]at z;exact .inr z.symm
      · simp [e]at z
  · rintro(z|z)
    · exact .inl z
    · exact .inr ⟨0,by simp [z]⟩
 refine⟨λb o e => ?_,λa z => ?_,λi a e => ?_,λi j a e1 e2 => ?_,λi a e => ?_,λi e => ?_,λi hi => ?_,?_,(λi a e=>by
  by_cases q:i=0
  · simp [q]at e;simp [q,e]
  · simp [q]at e),(λi v e=>by
  by_cases q:i=0
  · simp [q]at e
  · simp [q]at e),λi d'' e => ?_⟩
 · by_cases q:b=x
   · simp [q]at e
   · simpa [q]using e
 · have:a≠x:=λq=>nx (q▸z)
   simp [this];exact ha a z
 · by_cases q:i=0
   · simp [q]at e;simp [e]
   · simp [q]at e
 · by_cases q:i=0
   · by_cases q2:j=0
     · rw [q,q2]
     · simp [q2]at e2
   · simp [q]at e1
 · by_cases q:i=0
   · simp [q]at e;subst e;exact ho.live
   · simp [q]at e
 · by_cases q:i=0
   · simp [q]
   · simp [q]at e
 · have:i=0:=by simpa using hi
   simp [this]
 · unfold L2.start
   rw [List.length_append,List.length_append,List.length_map,List.length_map,List.length_replicate,List.length_replicate,List.length_cons,List.length_cons,l.length]
 · by_cases q:i=0
   · subst q
     have e':d=d'':=by simpa using e
     subst e'
     exact⟨.ref x,by simp [L2.start],λz=>by simp at z,λa z=>by
      simp at z;subst z;exact⟨rfl,ho.av λb z => .inl ((hAV b).mp z)⟩⟩
   · obtain⟨i,rfl⟩:∃i',i=i'+1:=⟨i-1,by omega⟩
     have e2:(ds.map some++List.replicate (N.length-(ds.length+1)) none)[i]? = some (some d''):=by simpa using e
     by_cases hi:i<ds.length
     · rw [List.getElem?_append_left (by simpa using hi),List.getElem?_map]at e2
       cases hd:ds[i]? with
       |none=>rw [hd]at e2;cases e2
       |some z=>
        rw [hd]at e2;cases e2;obtain⟨v,hv',rv⟩:=l.get hd;refine⟨v,?_,λ_=>rv.av λb z => .inl ((hAV b).mp z),λa z=>by simp at z⟩;unfold L2.start;have:i+1<(V.ref x::r).length:=by rw [List.length_cons,<-l.length];omega
        rw [List.getElem?_append_left (by simpa using this),List.getElem?_map];simp [hv']
     · rw [List.getElem?_append_right (by simpa using hi),List.getElem?_replicate]at e2
       split at e2<;>cases e2
theorem ZjU {x qual:Str} {st:Stmt} {f:Addr} {fd:FuncData} {N ps:List Str} {k:Nat} {φ:Env->Option Out} {χ:Env->Option String} {body:List Stmt} {scope:Scope} {n:Nat} {m:List D->Option D} {xm:List D->Option String} (F:FunX K x qual st f fd) (S:FnScope N ps (defScope st)) (hS:defScope st=scope) (hB:defBody st=body)
 (hbody:∀(cdv:Value)(A:Around)(outer:List PySem.Env)(s:Shared)(H:Hp)(E:XK)(a:Addr),Room k (A.deeper (PyProof.Rows.envOfC qual scope s.heap.objs.size f cdv)) ->
   ∃t,PSs (YO (CX2 P w) P w K mg base N qual scope f cdv A outer s H E) body t/\VS ⟨cA,λj=>if j=0 then some (.inl a)else none⟩ [0] [0] [] [] t φ/\VX ⟨cA,λj=>if j=0 then some (.inl a)else none⟩ [0] E t χ) (hm:m=runI N.length φ) (hx:xm=Qm N.length χ) (hn:ps.length=n) :
 FnOk P w K mg base (CX2 P w) (k+1) f fd ps (Ys cA n m xm):=by
 subst hS hB hm hx hn;obtain⟨oc,od,dV,kV,doc,pm,an,cdv,ct,osl,rfl,lk,hcd⟩:=F.ex;refine JD lk hcd S (λvs H Q E h => ?_) λA outer s H vs Q E hr h => ?_
 · rcases h with⟨x,r,av,ds,d,d',rfl,_,_,_,l,hl,_⟩|⟨x,r,av,ds,d,c,rfl,_,_,_,l,hl,_⟩
   · rw [<-hl,List.length_cons,List.length_cons,l.length]
   · rw [<-hl,List.length_cons,List.length_cons,l.length]
 · rcases h with⟨x,r,av,ds,d,d',rfl,ha,nx,ho,l,hl,hm,q⟩|⟨x,r,av,ds,d,c,rfl,ha,nx,ho,l,hl,hm,q⟩
   · obtain⟨t,ht,hv,_⟩:=hbody cdv A outer s H E x hr
     refine⟨t,ht,?_⟩;unfold runI at hm;cases hφ:φ ((d::ds).map some++List.replicate (N.length-(d::ds).length) none)with
     |none=>rw [hφ]at hm;cases hm
     |some o=>
      rw [hφ]at hm;cases o<;>first|(cases hm;done)|skip
      rename_i δ';have hm:Za 0 δ'=some d':=hm;refine hv _ av _ _ H _ (ZdE ha nx ho l) _ hφ _ λA' σ' H' E' => ?_
      have hA':A' 0=some x:=E'.pin 0 x (by simp);obtain⟨v,_,_,g3⟩:=E'.var 0 d' (XO hm);obtain⟨_,ho'⟩:=g3 x hA';refine q H' (λb o hb e=>E'.same b o (by simpa [hb]using e)) (ho'.av λb z => ?_);rcases z with z|z
      · exact .inl (.inl z)
      · exact .inl (.inr ⟨0,by rw [hA',z]⟩)
   · obtain⟨t,ht,_,hX⟩:=hbody cdv A outer s H E x hr
     exact⟨t,ht,hX _ av _ _ H _ (ZdE ha nx ho l) c hm (λH' s'=>q H' λb o hb e=>s' b o (by simpa [hb]using e)) _⟩
end
end DL
namespace L2
open PySem PySem.Spec PySem.W PyProof.Rows
section
variable{e:Addr}{α β:Type}
end
end L2
namespace L2
open PySem PySem.Spec PySem.W PyProof.Rows
def UN(K:PySem.W.Frag)(C:Addr):Bool:=match K.lookup C with
 |some ⟨.type "type",_,.cls cd,sl⟩=>(match cd.mro,sl.toList with
  | .ref C'::bm,[_,_,_,_,some (.builtin n),_]=>C' == C&&n == "ValueError.__new__" && !cd.hasDel&&tailIn K bmV bm
  |_,_=>false)
 |_=>false
theorem ZbF{K:PySem.W.Frag}{hp:Heap}{C:Addr}(KX:K.In hp)(q0:UN K C=true) :
 ∃bm N nm q bs hdct sn sub ab col dd k0 k1 k2 k3 k5,hp.get? C=some (excClassObj nm q C N bs bm hdct sn sub ab col dd k0 k1 k2 k3 k5 "ValueError.__new__")/\OwnTail hp bmV bm:=by
 unfold UN at q0
 split at q0
 · rename_i dict0 cls0 slots0 look0
   split at q0
   · rename_i C1 rest0 j0 j1 j2 j3 nid1 j5 mro0 sl0
     simp only [Bool.and_eq_true,beq_iff_eq,Bool.not_eq_true']at q0;have e1:C1=C:=q0.1.1.1;have e2:nid1 = "ValueError.__new__" := q0.1.1.2;have e3:=q0.1.2;have e4:=q0.2;subst e1 e2;cases cls0 with
     |mk f1 f2 f3 f4 f5 f6 f7 f8 f9 f10 f11=>
      dsimp only at mro0 e3;subst mro0 e3
      have es:slots0 = #[j0,j1,j2,j3,some (.builtin "ValueError.__new__"),j5]:=by
       cases slots0 with
       |mk l=>exact congrArg Array.mk sl0
      subst es;exact⟨rest0,f4,f1,f5,f2,f6,f7,f8,f9,f10,dict0,j0,j1,j2,j3,j5,KX _ _ look0,tail_of_in KX e4⟩
   · cases q0
 · cases q0
section
variable{prog:Program}{w:World}{A:Around}{E:Value->Shared->Prop}{s:Shared}{K:PySem.W.Frag}{C fI:Addr}{rest:List Value}
abbrev Xp(C:Addr)(dd:Option Addr)(a0:Value):Obj:={ cls := .ref C,dict:=dd,data := .fields #[a0,.none,.none,.none,.bool false,.none] }
abbrev VY(vs:List Value):Obj:={ cls := .type "tuple",data := .seq vs.toArray }
theorem Zfd {Q:Value->Shared->Prop} (KX:K.In s.heap) (hq:UN K C=true) (hi:findIn K (.ref C) "__init__" = some (some (.ref fI))) (hf:typeIn K (.ref fI)=some (.type "function")) (hz:rest.length<=8)
 (h:wpAny (model prog w) (A.under (.builtin "type.__call__" ⟨.ref C::rest,[]⟩)) (call (.ref fI) (.ref (s.heap.objs.size+1)::rest)) (λr s'=>r = .none/\Q (.ref (s.heap.objs.size+1)) s') E
   { s with heap:=(s.heap.push (VY rest)).push (Xp C none (.ref s.heap.objs.size)) }) :
 wpAny (model prog w) A (call (.ref C) rest) Q E s:=by
 obtain⟨hp,g,d,t,os⟩:=s;obtain⟨bm,N,nm,q,bs,hdct,sn,sub,ab,col,dd,k0,k1,k2,k3,k5,hC,T⟩:=ZbF KX hq;have F:=PySem.F.excBase_ValueError;have hrest:rest.length<=sizeLine:=Nat.le_trans hz (by decide);have f1:=tc_lookup;have f2:=tc_bind (.ref C);have hT:(⟨hp,g,d,t,os⟩:Shared).TypeIs (.ref C) "type" := ⟨_,hC,rfl⟩
 refine wpAny_call (codeAny_of_tree ?_);show wpAny _ _ (callAny (.ref C) _) _ _ _
 repeat (any_goals (first|assumption|with_reducible refine wpAny_loadPart_at hC ?_|wp_step))
 refine⟨rfl,?_⟩;refine codeAny_call_builtin_at (Code.quiet_builtin _ (by decide +kernel)) entry_typeCall (wpAny_check_type_call_sub hC ?_)
 repeat (first|with_reducible refine wpAny_loadPart_at hC ?_|with_reducible refine wpAny_madeBy_exc hC ?_|wp_step)
 refine codeAny_call_builtin_code (Code.quiet_builtin _ F.quiet) (wpAny_check_new_subT F T hC ?_);refine codeAny_exc_new_subT F T hC ?_ hrest;show wpAny _ _ _ _ _ _;have kp:∀b o,hp.get? b=some o->((hp.push (VY rest)).push (Xp C none (.ref hp.objs.size))).get? b=some o:=λb o e=>Heap.get?_push_of_some _ (Heap.get?_push_of_some _ e)
 have hC1:=kp _ _ hC
 have hget:((hp.push (VY rest)).push (Xp C none (.ref hp.objs.size))).get? (hp.objs.size+1)=some (Xp C none (.ref hp.objs.size)):=by
  have:=Heap.get?_push_size (hp.push (VY rest)) (o:=Xp C none (.ref hp.objs.size)) rfl
  rwa [Heap.size_push]at this
 have hcC:(Value.ref C::bm).contains (.ref C)=true:=by simp
 unfold isInstance
 repeat (first|with_reducible refine wpAny_loadPart_at hget ?_|wp_step)
 show wpAny _ _ (isSubtype (.ref C) (.ref C)) _ _ _;refine wpAny_isSubtype_exc hC1 ?_;rw [hcC]
 repeat (first|with_reducible refine wpAny_loadPart_at hget ?_|wp_step)
 show wpAny _ _ (typeLookup (.ref C) _) _ _ _;have KX1:K.In ((hp.push (VY rest)).push (Xp C none (.ref hp.objs.size))):=λa o e=>kp _ _ (KX _ _ e)
 refine(looks_findIn KX1 hi).here ?_;refine wpAny_holding (wpAny_bind ((PySem.W.bind_fn KX1 _ hf).here ?_));refine wpAny_bind (wpAny_mono h (λr s' hr => ?_) λ_ _ x=>x);obtain⟨rfl,hQ⟩:=hr
 wp_walk
 exact hQ
end
end L2
namespace L2
open PySem PySem.Spec PySem.W PyProof.Rows
section
variable{prog:Program}{w:World}{A:Around}{E:Value->Shared->Prop}{s:Shared}{K:PySem.W.Frag}{C e:Addr}{dd:Option Addr}{a0 u v:Value}{name:Str}
theorem Zfe {Q:Value->Shared->Prop} (KX:K.In s.heap) (hq:UN K C=true) {t0:Addr} (he:s.heap.get? e=some (Xp C dd (.ref t0)))
 (h:∀h',h'.get? e=some (Xp C dd (.ref s.heap.objs.size))->(∀b o,b≠e->s.heap.get? b=some o->h'.get? b=some o)->h'.objs.size=s.heap.objs.size+1->Q .none { s with heap:=h' }) :
 wpAny (model prog w) A (call (.builtin "ValueError.__init__") [.ref e,u]) Q E s:=by
 obtain⟨hp,g,d,t,os⟩:=s;obtain⟨bm,N,nm,q,bs,hdct,sn,sub,ab,col,dd',k0,k1,k2,k3,k5,hC,T⟩:=ZbF KX hq;have F:=PySem.F.excBase_ValueError;refine wpAny_call (codeAny_call_builtin F.init.plain F.initEntry (wpAny_check_init_subT F T hC he rfl ?_));have h1:=Heap.get?_push_of_some (VY [u]) he
 wp_walk
 refine h _ ?_ (λb o hb e1 => ?_) (by rw [Heap.size_update,Heap.size_push])
 · rw [Heap.get?_update_self _ h1 rfl]
   rfl
 · rw [Heap.get?_update_other _ _ (Ne.symm hb)]
   exact Heap.get?_push_of_some _ e1
theorem Zff(self:Value):refuseLoop self "__setattr__" bmV=pure ():=by kernel_rfl
def UO:List Value->Bool
 | .ref _::r=>UO r
 |l=>l == bmV
theorem ZcZ(self:Value):∀{l:List Value},UO l=true->refuseLoop self "__setattr__" l=pure ():=by
 intro l
 induction l with
 |nil=>intro x;cases x
 |cons a r ih=>
  intro x;cases a with
  |ref c=>rw [refuseLoop_ref];exact ih x
  |type n=>rw [beq_iff_eq.mp (show((Value.type n::r) == bmV)=true from x)];exact Zff self
  |_=>cases beq_iff_eq.mp (show((_::r) == bmV)=true from x)
theorem Zeo:∀{l:List Value},UO l=true->l.contains (.type "object")=true:=by
 intro l
 induction l with
 |nil=>intro x;cases x
 |cons a r ih=>
  intro x;cases a with
  |ref c=>rw [List.contains_cons,ih x,Bool.or_true]
  |type n=>rw [beq_iff_eq.mp (show((Value.type n::r) == bmV)=true from x)];decide +kernel
  |_=>cases beq_iff_eq.mp (show((_::r) == bmV)=true from x)
theorem ZgI {Q:Unit->Shared->Prop} (KX:K.In s.heap) (hv:((clsIn K C).any λcd=>UO cd.mro)=true) (he:s.heap.get? e=some (Xp C none a0)) (hs:findIn K (.ref C) "__setattr__" = some (some (.builtin "object.__setattr__"))) (hn:findIn K (.ref C) name=some none) (hh:PySem.W.hasDictIn K C=true)
 (h:∀h',h'.get? e=some (Xp C (some s.heap.objs.size) a0)->h'.Ns1 s.heap.objs.size (λy=>if y=name then some v else none)->(∀b o,b≠e->s.heap.get? b=some o->h'.get? b=some o)->Q () { s with heap:=h',toks:=s.toks+2 }) :
 wpAny (model prog w) A (setAttr (.ref e) name v) Q E s:=by
 have J:InstAt s.heap e (Xp C none a0) C none:=⟨he,rfl,rfl,True.intro⟩
 refine PySem.W.set_plain KX J hs ?_;have SF:=PySem.F.store_object;obtain⟨cd,hc,hd'⟩:=PySem.W.any_some hh;obtain⟨cd2,hc2,ho⟩:=PySem.W.any_some hv;obtain rfl:cd2=cd:=Option.some.inj (hc2.symm.trans hc);have ne:cd2.mro.isEmpty=false:=by cases q:cd2.mro with|nil=>rw [q]at ho;cases ho|cons _ _=>rfl
 have sub:Looks (model prog w) s.heap (isInstance (.ref e) (.type "object")) true:=J.type.andThen (looks_mroIn KX (by unfold mroIn;rw [hc,Option.bind_some,if_neg (by rw [ne];decide),Zeo ho]));refine codeAny_call_builtin SF.slot.plain SF.entry (@check_slot (model prog w) _ _ { s with toks:=s.toks+1 } "object.__setattr__" "object" "__setattr__" (.ref e) [.str name s.toks,v] [] _ SF.kind SF.split sub (SF.args (.ref e) (.str name s.toks) v) ?_)
 have hm:Looks (model prog w) s.heap (mroOf (.ref C)) cd2.mro:=(looks_clsIn KX hc).andThen .now;rw [osa_eq,refuse_eq];refine wpAny_bind (wpAny_bind (J.type.here (s:={ s with toks:=s.toks+1 }) (wpAny_bind (hm.here (s:={ s with toks:=s.toks+1 }) ?_))));rw [ZcZ _ ho];refine wpAny_pure (wpAny_bind (J.type.here (s:={ s with toks:=s.toks+1 }) (wpAny_bind ((looks_findIn KX hn).here (s:={ s with toks:=s.toks+1 }) (wpAny_bind (wpAny_pure ?_))))))
 dsimp only;refine wpAny_bind (wpAny_pure (wpAny_bind (wpAny_bind (wpAny_loadPart he (wpAny_bind (PySem.W.Looks.here (s:={ s with toks:=s.toks+1 }) (PySem.W.looks_clsIn KX hc) ?_))))));rw [hd',if_neg (by decide)];dsimp only;rw [if_neg (show ¬((!true || !typeHasDict (.ref C))=true)from Bool.false_ne_true)];refine wpAny_bind (wpAny_alloc ?_);have hlt:e<s.heap.objs.size:=Heap.lt_size he
 have he1:=Heap.get?_push_of_some emptyDict he;refine wpAny_bind (wpAny_update (o:=Xp C none a0) he1 ?_);refine wpAny_pure ?_;have he2:=Heap.get?_update_self (λo:Obj=>{ o with dict:=some s.heap.objs.size }) he1 rfl;have hk:∀b o,b≠e->(s.heap.push emptyDict).get? b=some o->((s.heap.push emptyDict).update e λo:Obj=>{ o with dict:=some s.heap.objs.size }).get? b=some o:=λb o hb x=>(Heap.get?_update_other _ _ (Ne.symm hb)).trans x
 have hd0:(s.heap.push emptyDict).get? s.heap.objs.size=some emptyDict:=Heap.get?_push_size s.heap rfl;have hd1:=hk _ _ (Nat.ne_of_gt hlt) hd0;have n1:((s.heap.push emptyDict).update e λo:Obj=>{ o with dict:=some s.heap.objs.size }).Ns1 s.heap.objs.size (λ_=>none):=Heap.Ns1.of_empty ⟨emptyDict,#[],_,hd1,rfl,(λe he=>absurd he (by simp)),λ_=>rfl⟩;refine wpAny_bind (wpAny_pure (wpAny_bind ?_))
 refine wpAny_nsSet1 (s:={ s with heap:=((s.heap.push emptyDict).update e λo:Obj=>{ o with dict:=some s.heap.objs.size }),toks:=s.toks+1 }) n1 λh' hn2 hs2 => ?_
 have wi:PySem.Within (λ_:Str=>(none:Option Value)) []:=λy hy=>absurd rfl hy
 obtain⟨oD,esD,epD,hoD,hdD,hcD⟩:=hn2.count (PySem.Within.cons name v wi);refine wpAny_bind (wpAny_lookBehind hoD (by rw [hdD];exact pastItsLine_dict (Nat.le_trans hcD (show 1<=sizeLine+1 by decide))) ?_);exact wpAny_pure (h _ ((hs2.2 _ (Nat.ne_of_lt hlt)).trans he2) hn2 λb o hb x=>(hs2.2 b (Nat.ne_of_lt (Heap.lt_size x))).trans (hk b o hb (Heap.get?_push_of_some _ x)))
theorem ZgJ{x:Addr}{ox od:Obj}{tk:Tok}{Q:Fin->Shared->Prop}(KX:K.In s.heap)(J:InstAt s.heap x ox C (some od))(hf:findObj K C (some od) name=some (.value v))(h:Q (.done (.ret v)) s) :
 wpAny (model prog w) A (Builtin.«object.__getattribute__» ⟨[.ref x,.str name tk],[]⟩) Q E s:=by
 obtain⟨hp,g,d,t,os⟩:=s;have L0:=J.type (M:=model prog w);have L1:=looks_find (M:=model prog w) KX J hf;unfold Builtin.«object.__getattribute__»;refine wpAny_bind (wpAny_pure ?_);refine wpAny_bind (wpAny_pure (wpAny_bind (L0.at (wpAny_bind (L1.at ?_)))));exact wpAny_pure h
theorem ZgK {x:Addr} {ox od:Obj} {expr:Bool} {Q:Value->Shared->Prop} (KX:K.In s.heap) (J:InstAt s.heap x ox C (some od)) (hga:findIn K (.ref C) "__getattribute__" = some (some (.builtin "BaseException.__getattribute__"))) (hgn:findIn K (.ref C) "__getattr__" = some none)
 (hsub:mroIn K C (.type "BaseException")=some true) (hf:findObj K C (some od) name=some (.value v)) (hh:handedIn v=true) (h:Q v { s with toks:=s.toks+1 }):wpAny (model prog w) A (getAttr (.ref x) name expr) Q E s:=by
 have FX:=PySem.F.attr_ValueError;refine wpAny_bind (wpAny_mkText (wpAny_holding (wpAny_bind (J.type _ _ _ _ (λ_ _ e=>e) (wpAny_bind (looks_findIn KX hga _ _ _ _ (λ_ _ e=>e) ?_))))));dsimp only;rw [show(onTheHeap (Value.ref C)&&Value.builtin "BaseException.__getattribute__" == Value.builtin "object.__getattribute__")=false from by rw [show(Value.builtin "BaseException.__getattribute__" == Value.builtin "object.__getattribute__")=false from by decide +kernel,Bool.and_false],if_neg (by decide)]
 refine wpAny_bind ((looks_findIn KX hgn) _ _ _ _ (λ_ _ e=>e) (wpAny_bind (wpAny_attempt (wpAny_holding ?_))));unfold callGetattribute;rw [show(expr&&onTheHeap (Value.builtin "BaseException.__getattribute__"))=false from Bool.and_false _,if_neg (by decide)];unfold boundAndCalled;rw [FX.ga.bind];refine wpAny_bind (wpAny_pure ?_);show wpAny _ _ (call (.builtin "BaseException.__getattribute__") [.ref x,.str name s.toks]) _ _ _
 refine wpAny_call ?_;refine codeAny_call_builtin FX.ga.plain PySem.F.entry_bexc_ga ?_;refine @check_slot (model prog w) _ _ { s with toks:=s.toks+1 } "BaseException.__getattribute__" "BaseException" "__getattribute__" (.ref x) [.str name s.toks] [] _ (by decide +kernel) (by decide +kernel) (J.type.andThen (looks_mroIn KX hsub)) (PySem.F.args_bexc_ga (.ref x) (.str name s.toks)) ?_;refine ZgJ (s:={ s with toks:=s.toks+1 }) KX J hf ?_
 show wpAny _ _ (handedOut v) _ _ _;rw [handedOut_of hh];exact wpAny_pure h
end
end L2
namespace L2
open PySem PySem.Spec PySem.W PyProof.Rows
def XRaw(e C:Addr)(d:Option Addr)(h:Heap):Prop:=∃t0:Addr,h.get? e=some (Xp C d (.ref t0))
theorem XRaw.ok{P:Program}{w:World}{H:Hp}{h:Heap}{e C:Addr}{d:Option Addr}(x:XRaw e C d h):ObjOk P w H h e (.ext (XRaw e C d)):=
 ⟨x,let⟨_,q⟩:=x;⟨_,q⟩,λh1 h2 ⟨t0,q⟩ k=>⟨t0,k _ q⟩⟩
structure ExIn(K:PySem.W.Frag)(C fI:Addr)(f:Str):Prop where
 new:UN K C=true
 ini:findIn K (.ref C) "__init__" = some (some (.ref fI))
 fn:isFn K (.ref fI)=true
 kp:keepIn K (.ref C)=true
 tl:((clsIn K C).any λcd=>UO cd.mro)=true
 sa:findIn K (.ref C) "__setattr__" = some (some (.builtin "object.__setattr__"))
 no:findIn K (.ref C) f=some none
 hd:hasDictIn K C=true
structure BsIn(K:PySem.W.Frag)(G:Addr):Prop where
 sp:specialIn K (.ref G) "__getattribute__" = some (some (.builtin "type.__getattribute__"))
 rd:readsIn K G (.type "type")=true
 fc:findCls K (.ref G) (.type "type") "__init__" = some (.val (.builtin "ValueError.__init__"))
theorem Zfg{H:Hp}{a:Addr}{o:HO}(h:H a=some o):upd H a o=H:=by
 funext b
 unfold upd
 split
 · rename_i q;rw [q,h]
 · rfl
theorem Zep{h:Heap}{b:Addr}{o w:Obj}(hb:b≠h.objs.size)(x:(h.push o).get? b=some w):h.get? b=some w:=by
 obtain⟨x1,x2⟩:=Heap.get?_some_iff.mp x;refine Heap.get?_some_iff.mpr ⟨?_,x2⟩;have x3:(h.objs.push o)[b]? = some w:=x1;rw [Array.getElem?_push,if_neg hb]at x3;exact x3
def Zge(C:Addr):List V->Hp->VK->Prop:=λxs H Q=>∃e d u,xs=[.ref e,u]/\H e=some (.ext (XRaw e C d))/\Q .non H
section
variable{X:Cx}{C fI:Addr}{f:Str}
theorem Zeq(T:ExIn X.K C fI f):Xh X (.builtin "ValueError.__init__") (Zge C):=by
 intro pins s σ H xs us Q I rs h;obtain⟨e,d,u,rfl,he,q⟩:=h;obtain⟨ue,uu,rfl,rx,rc⟩:=QM rs;cases(show ue=Value.ref e from rx);obtain⟨t0,hx⟩:=(I.hok e _ he).1;refine Zfe I.kIn T.new hx λh' h1 h2 h3=>⟨.non,H,?_,rfl,q⟩
 have J:=I.write (h':=h') (t':=s.toks) (x:=e) (e:=e) (o:=.ext (XRaw e C d)) (by rw [he];exact True.intro) (.inl rfl) (λb o hb z=>h2 b o hb z) ⟨_,h1⟩ (XRaw.ok ⟨_,h1⟩);rw [Zfg he]at J;exact J
theorem ZdF {G:Addr} {g:Str} {p apos pos:Pos} {e:Expr} {es:List Expr} {t:TA} {pl:Sem Bool} (T:ExIn X.K C fI f) (B:BsIn X.K G) (hg:Gl X g) (hm:X.mg g=some (.ref G)) (ha:PA X (e::es) t) (hdb:(g == ("__debug__" : Str))=false:=by decide)
 (hst:starEach (e::es) X.env=(false,eval e X.env)::starEach es X.env:=by rfl) (hpl:(backTo pos (starEach es X.env)).any (·.1)=false:=by rfl)
 (ht:eval (.Call (.Attribute (.Name g p) "__init__" apos) (e::es) [] pos) X.env=(do
   let ov <-eval (.Name g p) X.env
   standAt apos.atName
   let(f,first) <-holding [ov] (getMethod ov "__init__" pl)
   callWith pos f first (backTo pos (starEach (e::es) X.env)) (backToKw pos (keywordEach [] X.env))):=by rfl) :
 PE X (.Call (.Attribute (.Name g p) "__init__" apos) (e::es) [] pos) (tCB (Zge C) t):=by
 intro pins s σ H Q I h;refine PySem.W.methodCall_KW (pl:=pl) (Vg I hg hm ?_ hdb) ht;refine method_cls I.kIn B.sp (cls_value I.kIn B.rd B.fc rfl ?_);exact PyProof.Rows.callWith_builtin1 (thn (ha pos pins _ σ H _ (I.tok _) h) λus s1 ⟨vs,H1,I1,r1,q1⟩=>Zeq T pins s1 σ H1 vs us Q I1 r1 q1) hst hpl
def Zhn(C:Addr)(ta tv:TE)(f:Str):TS:=λD σ H=>tv σ H λy H1=>ta σ H1 λx H2=>∃e,x = .ref e/\H2 e=some (.ext (XRaw e C none))/\∀d,H2 d=none->D.nx σ (upd (upd H2 d (.xd [(f,y)])) e (.ext (XRaw e C (some d))))
theorem ZdG{o value:Expr}{pos pos':Pos}{ta tv:TE}(T:ExIn X.K C fI f)(ha:PE X o ta)(hv:PE X value tv)(hs:swapsWith value (some (.Attribute o f pos')) pos.line X.env=pure false:=by rfl):PS X (.Assign [.Attribute o f pos'] value pos) (Zhn C ta tv f):=by
 intro pins s σ H D I h;refine plainObj_wpAny_Assign_Attribute (thn (hv pins s σ H _ I h) λu s1 ⟨y,H1,I1,ry,q⟩=>thn (ha pins s1 σ H1 _ I1 q) λov s2 ⟨x,H2,I2,rx,e,ex,ea,q2⟩ => ?_) hs;subst ex;cases(show ov=Value.ref e from rx);obtain⟨t0,hx⟩:=(I2.hok e _ ea).1;have hf:H2 s2.heap.objs.size=none:=I2.hok.fresh (Nat.le_refl _);refine ZgI I2.kIn T.tl hx T.sa T.no T.hd λh' h1 h2 h3=>⟨σ,_,?_,q2 _ hf⟩
 obtain⟨oD,esD,epD,hoD,cD⟩:=id h2;have hne:e≠s2.heap.objs.size:=Nat.ne_of_lt (Heap.lt_size hx);have hz:(s2.heap.push oD).get? s2.heap.objs.size=some oD:=Heap.get?_push_size s2.heap (Heap.get?_some_iff.mp hoD).2
 have I3:=I2.laid (a:=s2.heap.objs.size) (o:=.xd [(f,y)]) (h':=s2.heap.push oD) (t':=s2.toks) (λb w z=>Heap.get?_push_of_some _ z) (Nat.le_refl _)
  ⟨_,⟨oD,esD,epD,hz,cD⟩,λg=>by
    show RelO (List.lookup g [(f,y)]) (if g=f then some u else none)
    by_cases hgf:g=f
    · have hb:(g == f)=true:=beq_iff_eq.mpr hgf
      simp only [List.lookup,hb,if_pos hgf];exact ry
    · have hb:(g == f)=false:=beq_eq_false_iff_ne.mpr hgf
      simp only [List.lookup,hb,if_neg hgf];exact True.intro⟩
 refine I3.write (h':=h') (t':=s2.toks+2) (x:=e) (e:=e) (o:=.ext (XRaw e C (some s2.heap.objs.size))) (by rw [ZJ hne,ea];exact True.intro) (.inl rfl) (λb w hb z => ?_) ⟨_,h1⟩ (XRaw.ok ⟨_,h1⟩)
 by_cases hbd:b=s2.heap.objs.size
 · subst hbd
   have z':(s2.heap.push oD).get? s2.heap.objs.size=some w:=z;rw [hz]at z';cases z';exact hoD
 · refine h3 b w hb ?_
   have z':(s2.heap.push oD).get? b=some w:=z;exact Zep hbd z'
end
end L2
namespace L2
open PySem PySem.Spec PySem.W PyProof.Rows
section
variable{X:Cx}{E:XK}{C fI:Addr}{f x:Str}{fd:FuncData}{ps:List Str}{sp:Sp}{k:Nat}{p cpos pos:Pos}{e:Expr}{es:List Expr}{t:TA}
end
end L2
namespace L2
open PySem PySem.Spec PySem.W PyProof.Rows
section
variable{P:Program}{w:World}{K:PySem.W.Frag}{mg:Str->Option Value}{base:Heap}{N:List Str}{qual:Str}{scope:Scope}{f:Addr}{cd:Value}{A:Around}{outer:List Env}{s:Shared}{H:Hp}{E:XK}
end
end L2
namespace L2
open PySem PySem.Spec PySem.W PyProof.Rows
section
variable{X:Cx}{pins:List (Addr×Obj)}{σ:St}{H H':Hp}{s s':Shared}{B hp:Heap}{ea:Addr}
end
section
variable{X:Cx}{E:XK}
end
section
variable{X:Cx}{G:Addr}{g n:Str}{i:Nat}{body suite:List Stmt}{b₀:Stmt}{gp hpos pos:Pos}{tb:XK->TS}{ts:Addr->Addr->Option Addr->TS}
end
end L2
namespace L2
open PySem PySem.Spec PySem.W PyProof.Rows
def Zlb(C:Addr)(t:TA):TE:=λσ H Q=>t σ H λvs H1=>vs.length<=8/\∀ea,H1 ea=none->Q (.ref ea) (upd H1 ea (.ext (Y6 ea (.ref C))))
section
variable{X:Cx}{C:Addr}{x:Str}{p pos:Pos}{e:Expr}{es:List Expr}{t:TA}
theorem Ug (hg:Gl X x) (hm:X.mg x=some (.ref C)) (hq:excIn X.K C bmV "ValueError.__new__" = true) (hk:keepIn X.K (.ref C)=true) (ha:PA X (e::es) t)
 (he:starEach (e::es) X.env=(false,eval e X.env)::starEach es X.env:=by rfl) (hpl:(backTo pos (starEach es X.env)).any (·.1)=false:=by rfl) (hdb:(x == ("__debug__" : Str))=false:=by decide) :
 PE X (.Call (.Name x p) (e::es) [] pos) (Zlb C t):=by
 intro pins s σ H Q I h;refine wpAny_Call_Name_kw (Vg I hg hm ?_ hdb);refine PySem.W.callWith_K (h₀:=X.base) I.ok.mod.kin hk (thn (ha pos pins s σ H _ I h) λus s1 ⟨vs,H1,I1,r,hz,q⟩=>⟨I1.kIn,?_⟩) he hpl;obtain⟨tl,N,nm,q',bs,hdct,sn,sub,ab,col,dd,k0,k1,k2,k3,k5,mN,hC,hN,hni,T⟩:=Zdt I1.kIn hq;refine wpAny_call_exc_subT (g:=s1.gens) (d:=s1.drawn) (t:=s1.toks) (os:=s1.os) PySem.F.excBase_ValueError T hC hN hni (λh' ea hx => ?_) (show us.length<=sizeLine by rw [<-r.length];exact Nat.le_trans hz (by decide))
 obtain⟨t0,ht,_⟩:=hx.there
 obtain⟨J,hn⟩:=Za0 (H':=H1) (B:=s1.heap) (C:=.ref C) (ea:=ea) (s':={ s1 with heap:=h' }) I1 rfl I1.bare hx.keeps hx.new (λb o q _ _=>q) I1.hok (Same.refl H1) (λb o _ n=>n) (λb o q _=>⟨o.slots,hx.keeps b o q⟩) ⟨_,ht,rfl⟩ λz=>by
  obtain⟨_,o,h1,_⟩:=I1.stack.mem z;rw [hx.new]at h1;cases h1
 exact⟨.ref ea,_,J,rfl,q ea hn⟩
end
def Zlc(C:Addr)(sp:Sp)(t:TA):TE:=λσ H Q=>t σ H λvs H1=>vs.length<=8/\∀ea,H1 ea=none ->
 sp (.ref ea::vs) (upd H1 ea (.ext (XRaw ea C none))) (λv H2=>v = .non/\Q (.ref ea) H2) E0
section
variable{X:Cx}{C fI:Addr}{f x:Str}{fd:FuncData}{ps:List Str}{sp:Sp}{k:Nat}{p pos:Pos}{e:Expr}{es:List Expr}{t:TA}
theorem ZfR (T:ExIn X.K C fI f) (F:FnOk X.prog X.w X.K X.mg X.base CX0 k fI fd ps sp) (hr:Room (k+1) X.A) (hg:Gl X x) (hm:X.mg x=some (.ref C)) (hb:Binds X.K fd ps []) (ha:PA X (e::es) t)
 (he:starEach (e::es) X.env=(false,eval e X.env)::starEach es X.env:=by rfl) (hpl:(backTo pos (starEach es X.env)).any (·.1)=false:=by rfl) (hdb:(x == ("__debug__" : Str))=false:=by decide) :
 PE X (.Call (.Name x p) (e::es) [] pos) (Zlc C sp t):=by
 intro pins s σ H Q I h;refine wpAny_Call_Name_kw (Vg I hg hm ?_ hdb);refine PySem.W.callWith_K (h₀:=X.base) I.ok.mod.kin T.kp (thn (ha pos pins s σ H _ I h) λus s1 ⟨vs,H1,I1,r,hz,q⟩=>⟨I1.kIn,?_⟩) he hpl;refine Zfd I1.kIn T.new T.ini (beq_iff_eq.mp T.fn) (show us.length<=8 by rw [<-r.length];exact hz) ?_
 have hget:((s1.heap.push (VY us)).push (Xp C none (.ref s1.heap.objs.size))).get? (s1.heap.objs.size+1)=some (Xp C none (.ref s1.heap.objs.size)):=by
  have:=Heap.get?_push_size (s1.heap.push (VY us)) (o:=Xp C none (.ref s1.heap.objs.size)) rfl
  rwa [Heap.size_push]at this
 have I2:=I1.laid (a:=s1.heap.objs.size+1) (o:=.ext (XRaw (s1.heap.objs.size+1) C none)) (h':=(s1.heap.push (VY us)).push (Xp C none (.ref s1.heap.objs.size))) (t':=s1.toks) (λb u z=>Heap.get?_push_of_some _ (Heap.get?_push_of_some _ z)) (Nat.le_succ _) (XRaw.ok ⟨_,hget⟩);have hq:=q (s1.heap.objs.size+1) (I1.hok.fresh (Nat.le_succ _));have r2:Vals (V.ref (s1.heap.objs.size+1)::vs) (Value.ref (s1.heap.objs.size+1)::us) := .cons rfl r
 have hl:(Value.ref (s1.heap.objs.size+1)::us++[]).length=ps.length:=by
  have e:=r2.length;rw [F.len _ _ _ _ hq]at e;rw [List.append_nil];exact e.symm
 have hbb:=hb _ (Value.ref (s1.heap.objs.size+1)::us) I2.kIn hl;rw [List.append_nil]at hbb;refine wpAny_call (codeAny_mono (F.run _ X.stack _ _ ⟨Value.ref (s1.heap.objs.size+1)::us,[]⟩ (Value.ref (s1.heap.objs.size+1)::us) _ _ E0 (hr.make C us []) (I2.env0.make C us []) hbb r2 hq) λr s' hq' => ?_);cases r with
 |error e=>exact(show False from hq').elim
 |ok fl=>
  cases fl with
  |ret u=>
   obtain⟨v,H',I3,rv,ev,q3⟩:=I2.after hq';subst ev;exact⟨rv,.ref _,H',I3,rfl,q3⟩
  |next=>exact False.elim hq'
  |brk=>exact False.elim hq'
  |cont=>exact False.elim hq'
end
def Zld(K:PySem.W.Frag):List V->Hp->VK->Prop:=λxs H Q=>∃e C φ c cv b,xs=[.ref e,c]/\ExCls K C/\H e=some (.ext φ)/\(∀h,φ h->Y6 e (.ref C) h)/\(∀v,RelV c v->v=cv)/\kitOne K (.ref C) cv=some b/\Q (.bl b) H
theorem Xv{X:Cx}{K:PySem.W.Frag}(hK:X.K=K:=by rfl):Xh X (.builtin "isinstance") (Zld K):=by
 subst hK;intro pins s σ H xs us Q I rs h;obtain⟨e,C,φ,c,cv,b,rfl,T,he,hφ,hc,hk,q⟩:=h;obtain⟨u,w',rfl,rx,rc⟩:=QM rs;have ec:=hc _ rc;subst ec;cases(show u=Value.ref e from rx);exact PySem.W.kia_one (Zcv T) I.kIn (hφ _ (I.hok e _ he).1) hk (λz=>nomatch z) λtk=>⟨.bl b,H,I.tok tk,rfl,q⟩
def Zho(K:PySem.W.Frag):List V->Hp->VK->Prop:=λxs H Q=>∃e C φ tp vs cvs b,xs=[.ref e,.ref tp]/\ExCls K C/\H e=some (.ext φ)/\(∀h,φ h->Y6 e (.ref C) h)/\SqT K H tp vs/\(∀us,Vals vs us->us=cvs)/\kitAny K (.ref C) cvs=some b/\Q (.bl b) H
theorem ZfS{X:Cx}{K:PySem.W.Frag}(hK:X.K=K:=by rfl):Xh X (.builtin "isinstance") (Zho K):=by
 subst hK;intro pins s σ H xs us Q I rs h;obtain⟨e,C,φ,tp,vs,cvs,b,rfl,T,he,hφ,hq,hc,hk,q⟩:=h;obtain⟨u,w',rfl,rx,rc⟩:=QM rs;cases(show u=Value.ref e from rx);cases(show w'=Value.ref tp from rc);obtain⟨its,rv,⟨o,e1,hcl,n,hd⟩,_⟩:=I.tuple hq;cases hc its rv;obtain⟨cl,dd,da,sl⟩:=o;cases hcl;cases hd;exact PySem.W.kia_tup (Zcv T) I.kIn (hφ _ (I.hok e _ he).1) e1 hk (λz=>nomatch z) λtk=>⟨.bl b,H,I.tok tk,rfl,q⟩
def tXf(K:PySem.W.Frag)(ta:TE)(f:Str):TE:=λσ H Q=>ta σ H λx H1=>∃ea C d fs v φ,ExCls K C/\hasDictIn K C=true/\findIn K (.ref C) f=some none/\x = .ref ea/\H1 ea=some (.ext φ)/\(∀h,φ h->Zk9 ea C (some d) h)/\H1 d=some (.xd fs)/\fs.lookup f=some v/\Q v H1
theorem Zhp{X:Cx}{K:PySem.W.Frag}{e:Expr}{f:Str}{pos:Pos}{ta:TE}(he:PE X e ta)(hK:X.K=K:=by rfl)(hb:attributeBase e f X.env (eval e X.env)=eval e X.env:=by rfl):PE X (.Attribute e f pos) (tXf K ta f):=by
 subst hK;intro pins s σ H Q I h;refine Zdn hb (thn (he pins s σ H _ I h) λu s1 ⟨x,H1,I1,rx,ea,C,d,fs,v,φ,T,hh,hn,ex,ea',hφ,ed,l,q⟩ => ?_);subst ex;cases(show u=Value.ref ea from rx);obtain⟨o,h1,h2,h3,h4⟩:=hφ _ (I1.hok ea _ ea').1;obtain⟨mA,ns,r⟩:=(show ObjOk X.prog X.w H1 s1.heap d (.xd fs)from I1.hok d _ ed)
 obtain⟨od,ho,hl⟩:=Zbq ns;obtain⟨u',hu,ru⟩:=RelO.some_of (v:=v) (o:=mA f) (by rw [<-l];exact r f);have J:PySem.W.InstAt s1.heap ea o C (some od):=⟨h1,h2,h4,by rw [h3];exact ho⟩
 exact ZgK I1.kIn J T.ga T.gt T.mb (PySem.W.findObj_own hh hn rfl (by rw [hl,hu])) (Zbr ru) ⟨v,H1,I1.tok _,ru,q⟩
structure Landed(X:Cx)(pins:List (Addr×Obj))(σ:St)(H':Hp)(C ea:Addr)(a0:Value)(B:Heap)(s:Shared):Prop where
 fl:Heap.FlyingW B (X.env::X.outer) ea (.ref C) a0 s.heap
 inv:∀h,Heap.FlyingW B (X.env::X.outer) ea (.ref C) a0 h->s.heap.UpToSlots h->Inv X pins σ (upd H' ea (.ext (Y6 ea (.ref C)))) { s with heap:=h }
def PH(X:Cx)(hs:List ExceptHandler)(th:Addr->Addr->TS):Prop:=∀(pins:List (Addr×Obj))(s:Shared)(σ:St)(H':Hp)(D:Ends)(C ea:Addr)(a0:Value)(B:Heap),ExCls X.K C->Landed X pins σ H' C ea a0 B s->th C ea D σ (upd H' ea (.ext (Y6 ea (.ref C)))) ->
 wpAny (model X.prog X.w) X.A (handleBy (.ref ea) X.env hs) (SP X pins D) X.xe s
section
variable{X:Cx}{G:Addr}{g n:Str}{i:Nat}{body suite:List Stmt}{b₀:Stmt}{gp hpos pos:Pos}{tb:XK->TS}{ts:TS}{th:Addr->Addr->TS}{rest:List ExceptHandler}
theorem Zia:PH X [] (λ_ _ _ _ _=>False):=λ_ _ _ _ _ _ _ _ _ _ _ h=>h.elim
def Zle(K:PySem.W.Frag)(G:Addr)(i:Nat)(ts:TS)(th:Addr->Addr->TS):Addr->Addr->TS:=λC ea D σ H=>
 (exmOne K (.ref C) (.ref G)=some true/\ts (Zdu i D) (σ.set i (some (.ref ea))) H)\/(exmOne K (.ref C) (.ref G)=some false/\th C ea D σ H)
theorem ZdH (hN:X.N.Nodup) (hi:X.N[i]? = some n) (hk:X.env.scope.names.lookup n=some .local) (hg:Gl X g) (hm:X.mg g=some (.ref G)) (hs:∀ea,PSs (X.suite ea) (b₀::suite) ts) (hr:PH X rest th) (hdb:(g == ("__debug__" : Str))=false:=by decide) :
 PH X (.ExceptHandler (some (.Name g gp)) (some n) (b₀::suite) hpos::rest) (Zle X.K G i ts th):=by
 intro pins s σ H' D C ea a0 B T L h;have I5:=L.inv s.heap L.fl (.refl _);refine wpAny_handleBy_cons (codeAny_handlers_test (Vg (I5.suite ea) hg hm ?_ hdb)) (by intro q;cases q);rcases h with⟨hx,hts⟩|⟨hx,hth⟩
 · refine(exm_one (M:=model X.prog X.w) (K:=X.K) I5.kIn (UJ (L.fl.there)) hx).here ?_
   show codeAny (model X.prog X.w) (X.A.mark (some (.ref ea))) _ _ _;refine codeAny_handlers_suite_as (lands_againW L.fl λh6 hf6 u6 => ?_);refine Jx (L.inv h6 hf6 u6) hN hi (.inl hk) (v:=.ref ea) (show RelV (.ref ea) (.ref ea)from rfl) (λs7 I7 => ?_) (.inr hk);refine wpAny_mono (hs ea pins s7 _ _ (Zdu i D) (I7.suite ea) hts) (λfl s8 q8 => ?_) λ_ _ z=>z.elim
   cases fl with
   |next=>
    obtain⟨σ',H8,I8,q⟩:=q8;exact J6 (I8.unsuite I5.ok) hN hi hk λs9 I9=>⟨_,H8,I9,q⟩
   |brk=>
    obtain⟨σ',H8,I8,q⟩:=q8;exact J6 (I8.unsuite I5.ok) hN hi hk λs9 I9=>⟨_,H8,I9,q⟩
   |cont=>
    obtain⟨σ',H8,I8,q⟩:=q8;exact J6 (I8.unsuite I5.ok) hN hi hk λs9 I9=>⟨_,H8,I9,q⟩
   |ret u=>
    obtain⟨v,σ',H8,I8,r,q⟩:=q8;exact J6 (I8.unsuite I5.ok) hN hi hk λs9 I9=>⟨v,_,H8,I9,r,q⟩
 · refine(exm_one (M:=model X.prog X.w) (K:=X.K) I5.kIn (UJ (L.fl.there)) hx).here ?_
   exact hr pins s σ H' D C ea a0 B T L hth
def Zhq(K:PySem.W.Frag)(tb:XK->TS)(th:Addr->Addr->TS):TS:=λD σ H=>∃E:XK,tb E D σ H/\∀cls H',E cls none H'->∃C,cls = .ref C/\ExCls K C/\∀ea,H' ea=none->th C ea D σ (upd H' ea (.ext (Y6 ea (.ref C))))
theorem ZgL{h₀:ExceptHandler}(hstk:X.stack=X.env::X.outer/\X.env.frame=some X.env.locals)(hb:∀E,PSx X E body (tb E))(hh:PH X (h₀::rest) th):PS X (.Try body (h₀::rest) [] [] pos) (Zhq X.K tb th):=by
 intro pins s σ H D I ⟨E,h⟩;refine wpAny_Try_except ?_;refine thn (hb E pins s σ H D _ I h.1 ?_) λfl s1 q => ?_
 · intro H2 s2 ev s' I2 ⟨ea,cls,a0,B,H',e,hos,hbare,hfl,hKB,hok,hsame,hfree,hup,hE⟩
   subst e;obtain⟨C,rfl,T,hts⟩:=h.2 cls H' hE;have hfr:X.A.frames=some (X.env::X.outer):=by rw [<-hstk.1];exact I.ok.frames
   have hfl':Heap.FlyingW B (X.env::X.outer) ea (.ref C) a0 s'.heap:=hstk.1▸hfl;have hea:B.get? ea=none:=hfl.2.1
   have hnf:ea∉frs X.stack:=λz=>by
    obtain⟨_,o,h1,h2⟩:=hfl.2.2.1.mem z;obtain⟨oe,vs,h3,_,h4,_⟩:=hfl.first;rw [h1]at h3;cases h3;exact h2 vs h4
   have frnf:∀b o,s2.heap.get? b=some o->b∈frs X.stack->∀vs,o.data ≠ .fields vs:=λb o q z=>by
    obtain⟨_,o',h1,h2⟩:=I2.stack.mem z;have:o'=o:=Option.some.inj (h1.symm.trans q);exact this▸h2
   have at_:∀{hp:Heap},Heap.FlyingW B (X.env::X.outer) ea (.ref C) a0 hp->s'.heap.UpToSlots hp->Inv X pins σ (upd H' ea (.ext (Y6 ea (.ref C)))) { s' with heap:=hp }/\H' ea=none:=λ{hp} f u=>by
    refine Za0 (s':={ s' with heap:=hp }) I2 hos hbare f.1 hea hKB hok hsame hfree (λb o q z => ?_) f.there hnf;obtain⟨sl,q1⟩:=hup b o q z;obtain⟨sl2,q2⟩:=u b _ q1 (show ∀vs,({ o with slots:=sl }:Obj).data ≠ .fields vs from frnf b o q z);exact⟨sl2,q2⟩
   refine wpAny_looks_onW hfr hstk.2 hfl' λh4 hh4 u4 => ?_
   refine wpAny_landsW hh4 λh5 hf5 u5 => ?_
   exact hh pins _ σ H' D C ea a0 B T ⟨hf5,λh f u=>(at_ f ((u4.trans u5).trans u)).1⟩ (hts ea (at_ hf5 (u4.trans u5)).2)
 · cases fl with
   |next=>exact wpAny_execs_nil q
   |ret v=>exact q
   |brk=>exact q
   |cont=>exact q
theorem Zfh {E:XK} {x:Str} {e:Expr} {te:TE} {u:TS} {l:List Stmt} {pos':Pos} (hN:X.N.Nodup) (hi:X.N[i]? = some x) (hx:Loc X.env.scope x) (he:PEx X E e te) (hl:PSs X l u) (h0:∀e s,¬X.xe e s) (hs:swapsWith e (some (.Name x pos')) pos.line X.env=pure false:=by rfl)
 (hf:X.fn x=true\/X.env.scope.names.lookup x=some .local:=by first|exact .inl rfl|exact .inr rfl|assumption):PSx X E (.Assign [.Name x pos'] e pos::l) (Uv (V6 te (V5 i)) u):=by
 intro pins s σ H D xe I h hxe;refine wpAny_execs_cons (wpAny_Assign_Name (thn (he pins s σ H _ xe I h hxe) λv s1 ⟨y,H1,I1,r1,q1⟩ => ?_) hs);exact Jx I1 hN hi hx r1 (λs2 I2=>wpAny_mono (hl pins s2 _ H1 D I2 q1) (λ_ _ z=>z) λe s z=>(h0 e s z).elim) hf
end
end L2
namespace DL
open PySem PySem.Spec L2
theorem ExcR.at{cA:Kn}{av:Addr->Prop}{H:Hp}{c:String}{r:Option Int}{a:Addr}(h:ExcR cA av H c r a):∃φ,H a=some (.ext φ)/\∀h,φ h->Y6 a (.ref (cA.c c)) h:=by
 cases r with
 |none=>exact h
 |some i=>
  obtain⟨d,φ,_,h1,h2,_⟩:=h;exact⟨φ,h1,λh z=>let⟨o,q1,q2,_⟩:=h2 h z;⟨o,q1,q2⟩⟩
def Qr(C:Addr)(f:Str):Sp:=λvs H Q _=>∃ea,∃n:Nat,vs=[.ref ea,.int n]/\n<10 ^ 10/\H ea=some (.ext (XRaw ea C none))/\∀d,H d=none->Q .non (upd (upd H d (.xd [(f,.int n)])) ea (.ext (XRaw ea C (some d))))
theorem ZdI {P:Program} {w:World} {K:PySem.W.Frag} {mg:Str->Option Value} {base:Heap} {x qual:Str} {st:Stmt} {fI C:Addr} {fd:FuncData} {N ps:List Str} {k:Nat} {body:List Stmt} {scope:Scope} {f:Str} {a b:List Nat}
 (F:FunX K x qual st fI fd) (Sc:FnScope N ps (defScope st)) (hS:defScope st=scope) (hB:defBody st=body) (hn:ps.length=2) (hN:N.length=2) (hl:a.length+b.length<=1000)
 (hbody:∀(cdv:Value)(A:Around)(outer:List PySem.Env)(s:Shared)(H:Hp)(E:XK),Room k (A.deeper (PyProof.Rows.envOfC qual scope s.heap.objs.size fI cdv)) ->
   PSs (YO CX0 P w K mg base N qual scope fI cdv A outer s H E).nox body (Uv (VB (tCB (Zge C) (Y5 (XJ 0) (Y5 (Zgb [tC (S a),Zhm (XJ 1),tC (S b)]) tNil)))) (Zhn C (XJ 0) (XJ 1) f))) :
 FnOk P w K mg base CX0 (k+1) fI fd ps (Qr C f):=by
 subst hS hB;refine FunX.ok F Sc (λvs H Q E h => ?_) λcdv A outer s H vs Q E hr h=>⟨_,hbody cdv A outer s H E hr,?_⟩
 · obtain⟨ea,n,rfl,_⟩:=h
   exact hn.symm
 · obtain⟨ea,n,rfl,hn1,he,q⟩:=h
   have e0:L2.start N [.ref ea,.int n]=[some (.ref ea),some (.int n)]:=by unfold L2.start;rw [hN];rfl
   rw [e0];have hs:sizeLine=16777216:=sizeLine_eq
   have hf:(Qc n).length<=10:=by
    unfold Qc;rw [List.length_map];exact(Nat.length_toDigits_le_iff (b:=10) (k:=10) (by decide) (by decide)).mpr hn1
   refine⟨.ref ea,rfl,⟨a,rfl,by simp;omega,⟨.int n,rfl,.inr ⟨n,rfl,hn1,⟨Qc n,rfl,by simp;omega,⟨b,rfl,by simp;omega,?_⟩⟩⟩⟩⟩⟩;refine⟨ea,none,_,rfl,he,?_⟩;exact⟨.int n,rfl,.ref ea,rfl,ea,rfl,he,λd hd=>q d hd⟩
section
variable{cA:Kn}{G:Cn}{ow ow1 owB owC:List Nat}
def Xj(c:String)(α:Env->Option (List D))(δ:Env):Option D:=match α δ with
 |some ds=>if ds.length<=8 then some (.exc c none)else none
 |none=>none
theorem Uh{t:TA}{q:Ql}{α:Env->Option (List D)}(c:String)(h:VA G ow t q α):VE G ow (Zlb (G.1.c c) t) .cl (Xj c α):=λH0 av A σ H δ R d e Q k=>by
 unfold Xj at e;cases he:α δ with
 |none=>rw [he]at e;cases e
 |some ds=>
  rw [he]at e;dsimp only at e
  by_cases hz:ds.length<=8
  · rw [if_pos hz]at e
    cases e;refine h H0 av A σ H δ R ds he _ λvs H1 s1 r1=>⟨by rw [<-r1.any.length];exact hz,λea hea=>k _ _ (s1.trans (Xi hea)) ?_⟩
    exact⟨ea,rfl,λz=>(R.mono s1).avl ea z hea,_,YH,λ_ z=>z⟩
  · rw [if_neg hz]at e;cases e
def UP(c:String)(α:Env->Option (List D))(δ:Env):Option D:=match α δ with
 |some [.int n]=>if 0<=n/\n<10 ^ 10 then some (.exc c (some n))else none
 |_=>none
theorem ZfT{t:TA}{q:Ql}{α:Env->Option (List D)}(c:String)(h:VA G ow t q α):VE G ow (Zlc (G.1.c c) (Qr (G.1.c c) (Str.ofString "row")) t) .cl (UP c α):=λH0 av A σ H δ R d0 e Q k=>by
 unfold UP at e
 split at e
 · rename_i n he
   by_cases hz:0<=n/\n<10 ^ 10
   · rw [if_pos hz]at e
     cases e;refine h H0 av A σ H δ R _ he _ λvs H1 s1 r1 => ?_
     obtain⟨v,r,rfl,rv,rr⟩:=r1.any;obtain rfl:r=[]:=rr;obtain rfl:v = .int n:=rv;refine⟨show 1<=8 by decide,λea hea=>⟨ea,n.toNat,by rw [Int.toNat_of_nonneg hz.1],by omega,YH,λd hd=>⟨rfl,?_⟩⟩⟩;have hde:d≠ea:=λz=>by rw [z,YH]at hd;cases hd
     rw [ZJ hde]at hd;have R1:=R.mono s1;refine k _ _ (s1.trans λb o q => ?_) ⟨ea,rfl,λz=>R1.avl ea z hea,d,_,λz=>R1.avl d z hd,YH,λh ⟨t0,z⟩=>⟨_,z,rfl,rfl,rfl⟩,?_⟩
     · have h1:b≠ea:=λz=>by rw [z,hea]at q;cases q
       have h2:b≠d:=λz=>by rw [z,hd]at q;cases q
       rw [ZJ h1,ZJ h2,ZJ h1];exact q
     · rw [ZJ hde,YH,Int.toNat_of_nonneg hz.1]
   · rw [if_neg hz]at e;cases e
 · cases e
def XG(K:PySem.W.Frag)(cA:Kn)(v:V)(tab:List (String×Bool)):Prop:=∀c b,tab.lookup c=some b->ExCls K (cA.c c)/\∃cv,(∀u,RelV v u->u=cv)/\PySem.W.kitOne K (.ref (cA.c c)) cv=some b
def Zlf(tab:List (String×Bool)):D->Option D
 | .exc c _=>(tab.lookup c).map .bl
 |_=>none
def YU(tab:List (String×Bool))(a:Env->Option D)(δ:Env):Option D:=match a δ with
 |some d=>Zlf tab d
 |none=>none
theorem Zfi{tab:List (String×Bool)}{x d:D}(h:Zlf tab x=some d):∃c r b,x = .exc c r/\tab.lookup c=some b/\d = .bl b:=by
 cases x<;>first|(cases h;done)|skip
 rename_i c r;cases e:tab.lookup c with
 |none=>have h:(tab.lookup c).map D.bl=some d:=h;rw [e]at h;cases h
 |some b=>have h:(tab.lookup c).map D.bl=some d:=h;rw [e]at h;cases h;exact⟨c,r,b,rfl,e,rfl⟩
theorem ZdJ{av:Addr->Prop}{H:Hp}{c:String}{r:Option Int}{v:V}(h:Rep cA av H (.exc c r) v):∃a φ,v = .ref a/\H a=some (.ext φ)/\∀h,φ h->Y6 a (.ref (cA.c c)) h:=by
 unfold Rep at h;obtain⟨a,e,_,x⟩:=h;obtain⟨φ,h1,h2⟩:=x.at;exact⟨a,φ,e,h1,h2⟩
theorem Xw{ta:TE}{q:Ql}{a:Env->Option D}{v:V}{tab:List (String×Bool)}(I:XG G.1.K G.1 v tab)(ha:VE G ow ta q a):VE G ow (tCB (Zld G.1.K) (Y5 ta (Y5 (tC v) tNil))) .cl (YU tab a):=λH0 av A σ H δ R d e Q k=>by
 unfold YU at e;cases he:a δ with
 |none=>rw [he]at e;cases e
 |some x=>
  rw [he]at e;obtain⟨c,r,b,rfl,hl,rfl⟩:=Zfi e;obtain⟨T,cv,hc,hk⟩:=I c b hl;refine ha H0 av A σ H δ R _ he _ λu H1 s1 r1 => ?_
  obtain⟨ea,φ,rfl,h1,h2⟩:=ZdJ r1.any;exact⟨ea,_,φ,v,cv,b,rfl,T,h1,h2,hc,hk,k _ H1 s1 rfl⟩
def J8(tabs:List (List (String×Bool)))(a:Env->Option D)(δ:Env):Option D:=match a δ with
 |some (.exc c _)=>(Qo c tabs).map λbs => .bl (bs.any id)
 |_=>none
theorem ZdK{ta:TE}{q:Ql}{a:Env->Option D}{v:V}{vs:List V}{tab:List (String×Bool)}{tabs:List (List (String×Bool))}(I:XG G.1.K G.1 v tab)(Is:IsiEs G.1.K G.1 vs tabs)(hv:(v::vs).length<=1000)(ha:VE G ow ta q a) :
 VE G ow (tCB (Zho G.1.K) (Y5 ta (Y5 (Zi5 (tCs (v::vs))) tNil))) .cl (J8 (tab::tabs) a):=λH0 av A σ H δ R d e Q k=>by
 unfold J8 at e
 split at e
 · rename_i c r he
   cases hb:Qo c (tab::tabs)with
   |none=>rw [hb]at e;cases e
   |some bs=>
    rw [hb]at e;cases e;have hE:IsiEs G.1.K G.1 (v::vs) (tab::tabs) := .cons (λc b h=>(I c b h).2) Is;obtain⟨cvs,h3,h4⟩:=ZbD hE hb
    have T:ExCls G.1.K (G.1.c c):=by
     unfold Qo at hb
     split at hb
     · rename_i b _ e1 _;exact(I c b e1).1
     · cases hb
    refine ha H0 av A σ H δ R _ he _ λu H1 s1 r1=>ZfQ _ ⟨Nat.le_trans hv (by decide),λp hp => ?_⟩
    obtain⟨ea,φ,rfl,h1,h2⟩:=ZdJ r1.any;have sm:=Xi (o:=.tup (v::vs)) hp;exact⟨ea,_,φ,p,_,cvs,_,rfl,T,sm _ _ h1,h2,SqT.of YH,h3,h4,k _ _ (s1.trans sm) rfl⟩
 · cases e
def eXf(cl:List String)(a:Env->Option D)(δ:Env):Option D:=match a δ with
 |some (.exc c (some i))=>if cl.contains c=true then some (.int i)else none
 |_=>none
theorem Zhr {ta:TE} {q:Ql} {a:Env->Option D} {cl:List String} (hT:∀c∈cl,ExCls G.1.K (G.1.c c)/\PySem.W.hasDictIn G.1.K (G.1.c c)=true/\PySem.W.findIn G.1.K (.ref (G.1.c c)) (Str.ofString "row")=some none) (ha:VE G ow ta q a):VE G ow (tXf G.1.K ta (Str.ofString "row")) .cl (eXf cl a):=λH0 av A σ H δ R d e Q k=>by
 unfold eXf at e
 split at e
 · rename_i c i he
   by_cases hz:cl.contains c=true
   · rw [if_pos hz]at e
     cases e;obtain⟨T,hh,hn⟩:=hT c (by simpa using hz);refine ha H0 av A σ H δ R _ he _ λu H1 s1 r1 => ?_
     have r2:=r1.any;unfold Rep at r2;obtain⟨ea,rfl,_,dd,φ,_,h1,h2,h3⟩:=r2;exact⟨ea,_,dd,_,.int i,φ,T,hh,hn,rfl,h1,h2,h3,by simp [List.lookup],k _ H1 s1 rfl⟩
   · rw [if_neg hz]at e;cases e
 · cases e
def hNil:String->Env->Option Out:=λ_ _=>none
def Ui(cl no:List String)(i:Nat)(ψ:Env->Option Out)(η:String->Env->Option Out):String->Env->Option Out:=λc δ=>
 if cl.contains c=true then(match ψ (δ.set i (some (.exc c none)))with
  |some (.nx δ')=>some (.nx (δ'.set i none))
  |some (.rt d)=>some (.rt d)
  |_=>none)else if no.contains c=true then η c δ else none
def VH(G:Cn)(ow owB owC:List Nat)(th:Addr->Addr->TS)(η:String->Env->Option Out):Prop:=
 ∀H0 av A σ H δ,ER G ow H0 av A σ H δ->∀c ea o,η c δ=some o->¬AV av A ea->H ea=some (.ext (Y6 ea (.ref (G.1.c c))))->∀De:Ends,Zhi G ow owB owC H0 av De o->th (G.1.c c) ea De σ H
theorem Zib:VH G ow owB owC (λ_ _ _ _ _=>False) hNil:=λ_ _ _ _ _ _ _ _ _ _ h=>nomatch h
theorem ZdL {K:PySem.W.Frag} {Gd:Addr} {i:Nat} {ts:TS} {th:Addr->Addr->TS} {ψ:Env->Option Out} {η:String->Env->Option Out} {cl no:List String} (hi:ow.contains i=false) (hni:G.2 i=none) (hT:∀c∈cl,PySem.W.exmOne K (.ref (G.1.c c)) (.ref Gd)=some true) (hF:∀c∈no,PySem.W.exmOne K (.ref (G.1.c c)) (.ref Gd)=some false)
 (hv:VS G ow ow owB owC ts ψ) (hr:VH G ow owB owC th η):VH G ow owB owC (Zle K Gd i ts th) (Ui cl no i ψ η):=λH0 av A σ H δ R c ea o e na he De k=>by
 unfold Ui at e
 by_cases hz:cl.contains c=true
 · rw [if_pos hz]at e
   have hw:∀j,j∈ow ↔ j∈ow/\j≠i:=λj=>⟨λq=>⟨q,λz=>by rw [z]at q;simp at hi;exact hi q⟩,λq=>q.1⟩
   have rp:Rep G.1 (AV av A) H (.exc c none) (.ref ea):=by
    unfold Rep;exact⟨ea,rfl,na,_,he,λ_ z=>z⟩
   split at e
   · rename_i δ' ho
     cases e;exact .inl ⟨hT c (by simpa using hz),hv H0 av _ _ H _ (R.set rp hw hni) _ ho _ λA' σ' H' R'=>k A' _ H' (R'.none hi hni)⟩
   · rename_i d ho
     cases e;exact .inl ⟨hT c (by simpa using hz),hv H0 av _ _ H _ (R.set rp hw hni) _ ho _ k⟩
   · cases e
 · rw [if_neg hz]at e
   by_cases hz2:no.contains c=true
   · rw [if_pos hz2]at e
     exact .inr ⟨hF c (by simpa using hz2),hr H0 av A σ H δ R c ea o e na he De k⟩
   · rw [if_neg hz2]at e;cases e
def UQ(φb:Env->Option Out)(χb:Env->Option String)(cl:List String)(η:String->Env->Option Out)(δ:Env):Option Out:=match χb δ with
 |some c=>if cl.contains c=true then η c δ else none
 |none=>φb δ
theorem ZgM {K:PySem.W.Frag} {tb:XK->TS} {th:Addr->Addr->TS} {φb:Env->Option Out} {χb:Env->Option String} {η:String->Env->Option Out} {cl:List String} (hT:∀c∈cl,ExCls K (G.1.c c))
 (hb:∀E,VS G ow ow owB owC (tb E) φb) (hx:∀E,VXs G ow E (tb E) χb) (hh:VH G ow owB owC th η):VS G ow ow owB owC (Zhq K tb th) (UQ φb χb cl η):=λH0 av A σ H δ R o e De k=>by
 unfold UQ at e;cases hc:χb δ with
 |none=>
  rw [hc]at e;exact⟨λ_ _ _=>False,hb _ H0 av A σ H δ R o e De k,λ_ _ z=>z.elim⟩
 |some c=>
  rw [hc]at e;dsimp only at e
  by_cases hz:cl.contains c=true
  · rw [if_pos hz]at e
    refine⟨λcls d H'=>cls = .ref (G.1.c c)/\Same H H',hx _ H0 av A σ H δ R c hc (λH' s=>⟨rfl,s⟩) De,λcls H' ⟨e1,s1⟩=>⟨G.1.c c,e1,hT c (by simpa using hz),λea hea => ?_⟩⟩;have R1:=R.mono s1;exact hh H0 av A σ _ δ (R1.mono (Xi hea)) c ea o e (λz=>R1.avl ea z hea) YH De k
  · rw [if_neg hz]at e;cases e
theorem Zfj{E:XK}{t u:TS}{χ:Env->Option String}(h:VXs G ow E t χ):VXs G ow E (Uv t u) χ:=λH0 av A σ H δ R c e k De=>h H0 av A σ H δ R c e k _
end
end DL
namespace L2
open PySem PySem.Spec PySem.W PyProof.Rows
section
variable{X:Cx}
def rInsert:V->List V->Hp->VK->Prop:=λx vs H Q=>∃l xs y,∃j:Int,x = .ref l/\vs=[.int j,y]/\H l=some (.lst xs)/\0<=j/\j<=xs.length/\xs.length<sizeLine/\Q .non (upd H l (.lst (xs.take j.toNat++y::xs.drop j.toNat)))
theorem Zer:MtM X "list.insert" rInsert:=by
 intro pins s σ H x vs v us Q I rx rv h;obtain⟨l,xs,y,j,rfl,rfl,hH,hj,hk,hz,q⟩:=h;cases rx;obtain⟨uk,u,rfl,rk,ru⟩:=rv.two;obtain⟨tk,rfl⟩:=rk;obtain⟨z,its,n,r,hl,e⟩:=I.lstM hH
 have hfit:¬(!Builtin.List.listFitsIndex j)=true:=by
  have hs:sizeLine=16777216:=sizeLine_eq;rw [hs]at hz;unfold Builtin.List.listFitsIndex;simp;omega
 have M:=PySem.AutoSeq1.list_insert_list_int_val_1 l its.toArray n j tk u hfit (by rw [List.size_toArray,<-hl];exact z);refine call_meets F.slot_list_insert ⟨_,e,rfl⟩ F.entry_list_insert (F.args_list_insert_3 _ _ _) M ⟨e,?_⟩;refine⟨.non,_,I.lset (its':=its.take j.toNat++u::its.drop j.toNat) hH e ?_ ((r.take j.toNat).append (.cons ru (r.drop j.toNat))) ?_,rfl,q⟩
 · have h1:¬(j<0):=by omega
   have h2:min j.toNat its.toArray.size=j.toNat:=by rw [List.size_toArray];omega
   simp only [if_neg h1,h2];apply Array.ext';simp;exact List.take_of_length_le (by rw [List.length_drop];exact Nat.le_refl _)
 · rw [List.length_append,List.length_cons,List.length_take,List.length_drop]
   omega
def Zhs(ta:TE):TE:=λσ H Q=>ta σ H λx H1=>∃cs,x=S cs/\cs.length<=1000/\∀p,H1 p=none->Q (.ref p) (upd H1 p (.lst (cs.reverse.map λc=>S [c])))
end
end L2
namespace DL
open PySem PySem.Spec L2
section
variable{cA:Kn}{G:Cn}{ow owB owC:List Nat}
def Q3(a:Env->Option D)(lo hi:Env->Option (Option Int))(δ:Env):Option D:=match a δ with
 |some (.lst _)=>eSl a lo hi δ
 |_=>none
theorem Zic{ta:TE}{tl th:TO}{q:Ql}{a:Env->Option D}{lo hi:Env->Option (Option Int)}(hq:q = .cl\/q = .tp)(ha:VE G ow ta q a)(hl:VO G ow tl lo)(hh:VO G ow th hi):VF G ow (tSl (JG G.1.K) ta tl th) (Q3 a lo hi):=λH0 av A σ H δ E d e Q k=>by
 unfold Q3 at e
 split at e
 · rename_i xs hx
   obtain⟨x,l,u,ex,el,eu,ed⟩:=Zcq e;rw [hx]at ex;cases ex;refine ha H0 av A σ H δ E _ hx _ λv H1 s1 r1=>hl H0 av A σ H1 δ (E.mono s1) l el _ λH2 s2=>hh H0 av A σ H2 δ ((E.mono s1).mono s2) u eu _ λH3 s3 => ?_
   have s13:=s2.trans s3
   have r3:RepT G.1 av (AV av A) H3 (.lst xs) v:=by
    have:=(r1.same s13).tp;rcases hq with rfl|rfl<;>exact this
   cases ed;obtain⟨p,vs,rfl,_,rd,ll⟩:=r3;refine .inr (.inl ⟨p,vs,rfl,rd,λp' hp => ?_⟩);rw [ZbX];exact k p' _ _ H3 (s1.trans s13) hp (ll.cutL l u) rfl
 · cases e
def Q4(i:Nat)(κ ε:Env->Option D)(δ:Env):Option Out:=match Za i δ,κ δ,ε δ with
 |some (.lst xs),some (.int k),some d=>if 0<=k/\k<=xs.length/\xs.length<sizeLine then some (.nx (δ.set i (some (.lst (xs.take k.toNat++d::xs.drop k.toNat)))))else none
 |_,_,_=>none
theorem Zid{K:PySem.W.Frag}{tk te:TE}{κ ε:Env->Option D}(i:Nat)(hi:ow.contains i=true)(hk:VE G ow tk .cl κ)(h:VE G ow te .cl ε):VS G ow ow owB owC (VB (tBM K "list" rInsert (XJ i) (Y5 tk (Y5 te tNil)))) (Q4 i κ ε):=λH0 av A σ H δ E o e De k=>by
 unfold Q4 at e
 split at e
 · rename_i xs j d hv hj hd
   by_cases hz:0<=j/\j<=xs.length/\xs.length<sizeLine
   · rw [if_pos hz]at e
     cases e;have hi':i∈ow:=by simpa using hi
     cases hA:A i with
     |none=>exact absurd hA (E.dom' i hi')
     |some a=>
      obtain⟨v,h1,_,h3⟩:=E.var i _ (XO hv);obtain⟨rfl,vs,q1,q2⟩:=h3 a hA;refine⟨_,h1,.inl ⟨rfl,vs,SqL.of q1⟩,hk H0 av A σ H δ E _ hj _ λvj H1 s1 r1=>h H0 av A σ H1 δ (E.mono s1) d hd _ λv H' s2 r => ?_⟩;have s:=s1.trans s2;have E':=E.mono s;have q1':=s _ _ q1;obtain rfl:vj = .int j:=r1.any;have ll:=q2.length;refine⟨a,vs,v,j,rfl,rfl,q1',hz.1,by omega,by omega,k A σ _ (E'.put hA (XO hv) (λb o hb e=>by rw [ZJ hb];exact e) (by rw [YH];exact λz=>by cases z) ⟨_,YH,?_⟩)⟩
      have ex:∀b o,¬AV av A b->H' b=some o->upd H' a (.lst (vs.take j.toNat++v::vs.drop j.toNat)) b=some o:=λb o n e=>by
       rw [ZJ λz=>n (.inr ⟨i,by rw [z];exact hA⟩)];exact e
      exact(((q2.same s).take _).append (.cons (RepT.r r) ((q2.same s).drop _))).ext ex
   · rw [if_neg hz]at e;cases e
 · cases e
def Qs(a:Env->Option D)(δ:Env):Option D:=match a δ with
 |some (.str cs)=>if cs.length<=1000 then some (.lst (cs.reverse.map λc => .str [c]))else none
 |_=>none
theorem ZgN{ta:TE}{q:Ql}{a:Env->Option D}(ha:VE G ow ta q a):VF G ow (Zhs ta) (Qs a):=λH0 av A σ H δ E d e Q k=>by
 unfold Qs at e
 split at e
 · rename_i cs hx
   by_cases hz:cs.length<=1000
   · rw [if_pos hz]at e
     cases e;refine ha H0 av A σ H δ E _ hx _ λv H1 s1 r1 => ?_
     obtain rfl:v=S cs:=r1.any;refine⟨cs,rfl,hz,λp hp=>k p _ _ H1 s1 hp ?_ rfl⟩;have:=RepL.of_vals (cA:=G.1) (av:=AV av A) (H:=H1) (xs:=cs.reverse.map λc=>D.str [c]) (by rw [List.all_map];exact List.all_eq_true.mpr λ_ _=>rfl);rw [List.map_map]at this;exact this
   · rw [if_neg hz]at e;cases e
 · cases e
end
inductive All₁{α:Type}(p:α->Prop):List α->Prop where
 |nil:All₁ p []
 |cons {a:α} {l:List α}:p a->All₁ p l->All₁ p (a::l)
inductive All₂{α β:Type}(p:α->β->Prop):List α->List β->Prop where
 |nil:All₂ p [] []
 |cons {a:α} {b:β} {l:List α} {r:List β}:p a b->All₂ p l r->All₂ p (a::l) (b::r)
theorem Vb{K:PySem.W.Frag}{cA:Kn}{v:V}{cv:Value}{ns:List String}{as:List Addr}{bs:List Bool}(hc:ns.map cA.c=as)(hE:All₁ (ExCls K) as)(hk:All₂ (λa b=>PySem.W.kitOne K (.ref a) cv=some b) as bs)(hv:∀u,RelV v u->u=cv):XG K cA v (ns.zip bs):=by
 subst hc
 induction ns generalizing bs with
 |nil=>intro c b h;simp at h
 |cons n ns ih=>
  intro c b h;cases hk with
  |cons k1 kr=>
   cases hE with
   |cons e1 er=>
    rw [List.zip_cons_cons,List.lookup_cons]at h;cases hq:c == n with
    |true=>
     rw [hq]at h;cases h;rw [eq_of_beq hq];exact⟨e1,cv,hv,k1⟩
    |false=>
     rw [hq]at h;exact ih er kr c b h
end DL
namespace PySem
namespace F
theorem ZaI:Manifest.owners.lookup (String.ofList ['d','e','s','r','e','v','e','r'].reverse)=some Manifest.sig_reversed:=by kernel_rfl
theorem slot_rvs_next:Slot "reversed" "__next__" "reversed.__next__" :=
 .of (owner:="reversed") (n:="__next__") (by rw [typeLookup_type,builtinLookup_eq_fast];kernel_rfl) (by decide +kernel) (by decide +kernel) (by decide +kernel)
  (by first|exact .inl (by decide +kernel)|exact .inr (by decide +kernel)) (by rw [isSubtype_type];kernel_rfl)
theorem entry_rvs_next:entryFor table "reversed.__next__" = some Builtin.«reversed.__next__» := entryFor_of_tree (by kernel_rfl)
theorem args_rvs_next_1(a:Value):argsOk "reversed.__next__" ⟨[a],[]⟩:=by
 unfold argsOk;rw [signature?_of (id:="reversed.__next__") (n:=['_','_','t','x','e','n','_','_']) (o:=['d','e','s','r','e','v','e','r']) (by kernel_rfl) ZaI];kernel_rfl
theorem slot_rvs_iter:Slot "reversed" "__iter__" "reversed.__iter__" :=
 .of (owner:="reversed") (n:="__iter__") (by rw [typeLookup_type,builtinLookup_eq_fast];kernel_rfl) (by decide +kernel) (by decide +kernel) (by decide +kernel)
  (by first|exact .inl (by decide +kernel)|exact .inr (by decide +kernel)) (by rw [isSubtype_type];kernel_rfl)
theorem args_rvs_iter_1(a:Value):argsOk "reversed.__iter__" ⟨[a],[]⟩:=by
 unfold argsOk;rw [signature?_of (id:="reversed.__iter__") (n:=['_','_','r','e','t','i','_','_']) (o:=['d','e','s','r','e','v','e','r']) (by kernel_rfl) ZaI];kernel_rfl
theorem entry_rvs_iter:entryFor table "reversed.__iter__" = some Builtin.«dict_keyiterator.__iter__» :=
 entryFor_alias (id' := "dict_keyiterator.__iter__") (by kernel_rfl) (by first|rfl|decide +kernel|(unfold String.splitOn;simp +decide [String.splitOnAux])) (by decide +kernel) (by kernel_rfl)
theorem slot_rvs_hint:Slot "reversed" "__length_hint__" "reversed.__length_hint__" :=
 .of (owner:="reversed") (n:="__length_hint__") (by rw [typeLookup_type,builtinLookup_eq_fast];kernel_rfl) (by decide +kernel) (by decide +kernel) (by decide +kernel)
  (by first|exact .inl (by decide +kernel)|exact .inr (by decide +kernel)) (by rw [isSubtype_type];kernel_rfl)
theorem entry_rvs_hint:entryFor table "reversed.__length_hint__" = some Builtin.«reversed.__length_hint__» := entryFor_of_tree (by kernel_rfl)
theorem args_rvs_hint_1(a:Value):argsOk "reversed.__length_hint__" ⟨[a],[]⟩:=by
 unfold argsOk;rw [signature?_of (id:="reversed.__length_hint__") (n:=['_','_','t','n','i','h','_','h','t','g','n','e','l','_','_']) (o:=['d','e','s','r','e','v','e','r']) (by kernel_rfl) ZaI];kernel_rfl
theorem str_no_rev:typeLookup (.type "str") "__reversed__" = pure none:=by rw [typeLookup_type,builtinLookup_eq_fast];kernel_rfl
theorem rvs_no_len:typeLookup (.type "reversed") "__len__" = pure none:=by rw [typeLookup_type,builtinLookup_eq_fast];kernel_rfl
theorem Zbl:Slot "reversed" "__init__" "object.__init__" :=
 .of (owner:="object") (n:="__init__") (by rw [typeLookup_type,builtinLookup_eq_fast];kernel_rfl) (by decide +kernel) (by decide +kernel) (by decide +kernel)
  (by first|exact .inl (by decide +kernel)|exact .inr (by decide +kernel)) (by rw [isSubtype_type];kernel_rfl)
theorem called_reversed:TypeCalled "reversed" "reversed.__new__" "object.__init__" :=
 ⟨by decide +kernel,by decide +kernel,⟨_,_,mro_reversed⟩,made_reversed,by decide +kernel,by rw [isSubtype_type];kernel_rfl,Zbl⟩
end F
section
variable{prog:Program}{w:World}{A:Around}{E:Value->Shared->Prop}{s:Shared}
def Qt(x:Str)(t:Tok)(i:Int):Obj:={ cls := .type "reversed",data := .fields #[.str x t,rawInt i] }
def Heap.IsRvs(h:Heap)(a:Addr)(x:Str)(t:Tok)(i:Int):Prop:=∃o,h.get? a=some o/\o.cls = .type "reversed" /\ o.data = .fields #[.str x t,rawInt i]
theorem Heap.IsRvs.typeIs{a:Addr}{x:Str}{t:Tok}{i:Int}(y:s.heap.IsRvs a x t i):s.TypeIs (.ref a) "reversed" := let⟨o,ho,hc,_⟩:=y;⟨o,ho,hc⟩
theorem Heap.IsRvs.at{h h':Heap}{a:Addr}{x:Str}{t:Tok}{i:Int}(y:h.IsRvs a x t i)(e:∀o,h.get? a=some o->h'.get? a=some o):h'.IsRvs a x t i:=let⟨o,ho,r⟩:=y;⟨o,e _ ho,r⟩
theorem Zas {x:Str} {t:Tok} {Q₁:Value->Shared->Prop} (hx:x.length<=1000)
 (h:Q₁ (.ref s.heap.objs.size) { s with heap:=s.heap.push (Qt x t ((x.length:Int)-1)),toks:=s.toks+1+1 }) :
 codeAny (model prog w) A (.call (.builtin "reversed.__new__") ⟨[.type "reversed",.str x t],[]⟩) (wants Q₁ E) s:=by
 refine codeAny_of_tree ?_;show wpAny _ A.in1 (do checkBuiltinCall "reversed.__new__" ⟨[.type "reversed",.str x t],[]⟩;again (.builtin "reversed.__new__" ⟨[.type "reversed",.str x t],[]⟩)) _ _ s;refine wpAny_bind (wpAny_of_eq (F.newCall_reversed_1 _) (wpAny_pure ⟨plainId_quiet F.plain_reversed_new _,codeAny_builtin F.entry_reversed_new ?_⟩));rw [Around.under_plainId F.plain_reversed_new _];unfold Builtin.«reversed.__new__»
 refine wpAny_bind (wpAny_of_eq (newClass_reversed _) ?_)
 try dsimp only
 refine wpAny_bind (wpAny_of_eq (a:=()) (by kernel_rfl) ?_);refine wpAny_bind (wpAny_of_eq (a:=()) (by kernel_rfl) ?_)
 try dsimp only
 refine wpAny_bind (wpAny_specialOf (typeIs_str s x t) F.str_no_rev ?_)
 try dsimp only
 refine wpAny_bind ?_;show wpAny _ _ (isInstance (.str x t) (.type "dict") >>= _) _ _ _;refine wpAny_bind (wpAny_isInstance (typeIs_str s x t) F.sub_str_dict ?_);refine wpAny_bind (wpAny_specialOf (typeIs_str s x t) F.slot_str_getitem.lookup ?_);refine wpAny_of_eq (a:=true) (by rfl) ?_
 try dsimp only
 refine wpAny_bind (P.len_str (by omega) ?_);refine wpAny_bind (wpAny_of_eq (a:=some (x.length:Int)) rfl ?_);refine wpAny_bind ?_;show wpAny _ _ (newObj (.type "reversed") (.fields [Value.str x t,rawInt ((x.length:Int)-1)].toArray)) _ _ _;refine wpAny_newObj_type ?_ (by size_fits);exact wpAny_pure h
theorem Zav {x:Str} {t:Tok} {Q:Value->Shared->Prop} (hx:x.length<=1000)
 (h:Q (.ref s.heap.objs.size) { s with heap:=s.heap.push (Qt x t ((x.length:Int)-1)),toks:=s.toks+1+1 }) :
 wpAny (model prog w) A (call (.type "reversed") [.str x t]) Q E s:=by
 refine callType_codes (Q₁:=λobj s₁=>obj = .ref s.heap.objs.size/\s₁={ s with heap:=s.heap.push (Qt x t ((x.length:Int)-1)),toks:=s.toks+1+1 }) F.called_reversed (F.typeCall_reversed_1 _) F.entry_object_init
  (Zas hx ⟨rfl,rfl⟩) λobj s₁ h₁ => ?_
 obtain⟨rfl,rfl⟩:=h₁;have hT:Shared.TypeIs { s with heap:=s.heap.push (Qt x t ((x.length:Int)-1)),toks:=s.toks+1+1 } (.ref s.heap.objs.size) "reversed" := ⟨_,Heap.get?_push_size _ rfl,rfl⟩
 exact⟨hT,F.args_object_init_2 _ _,object_init_meets F.called_reversed.init.lookup F.called_reversed.made (by decide) prog w A.in1 _ _ ⟨hT,rfl,h⟩⟩
theorem ZaC{it:Addr}{x:Str}{t:Tok}{i:Int}{Q:Value->Shared->Prop}(hit:s.heap.IsRvs it x t i)(h:Q (.ref it) s):wpAny (model prog w) A (pyIter (.ref it)) Q E s:=by
 refine wpAny_pyIter_slot hit.typeIs F.slot_rvs_iter (wpAny_call_entry F.slot_rvs_iter hit.typeIs F.entry_rvs_iter ?_ (F.args_rvs_iter_1 _));show wpAny _ _ (ret (.ref it)) _ _ s;exact wpAny_pure ⟨_,rfl, "reversed",_,hit.typeIs,F.slot_rvs_next.lookup,h⟩
theorem Zai {it:Addr} {x:Str} {t:Tok} {i c:Nat} {Q:Option Value->Shared->Prop} (hx:x.length<=1000) (hit:s.heap.IsRvs it x t (i:Int)) (hc':x.cps[i]? = some c)
 (hQ:∀h' tk tk',h'.IsRvs it x t ((i:Int)-1)->Heap.SameBut it s.heap h'->Q (some (.str ⟨#[c]⟩ tk)) { s with heap:=h',toks:=tk' }):wpAny (model prog w) A (pyNext (.ref it)) Q E s:=by
 obtain⟨o,ho,hc,hd⟩:=id hit
 have hi:i<x.length:=by
  have:=(Array.getElem?_eq_some_iff.mp hc').1;exact this
 unfold pyNext
 refine wpAny_bind (wpAny_attempt (wpAny_callSpecial?_slot (name:=Str.ofString "__next__") hit.typeIs F.slot_rvs_next
  (wpAny_call_entry F.slot_rvs_next hit.typeIs F.entry_rvs_next ?_ (F.args_rvs_next_1 _))))
 unfold Builtin.«reversed.__next__»;refine wpAny_bind (wpAny_of_eq (a:=(Value.ref it,[])) rfl ?_)
 try dsimp only
 refine wpAny_bind (wpAny_field ho hd (x:=.str x t) rfl ?_);refine wpAny_bind (wpAny_field ho hd (x:=rawInt (i:Int)) rfl ?_);show wpAny _ _ (if(i:Int)<0 then _ else _) _ _ s;rw [if_neg (by omega)];refine wpAny_bind (wpAny_specialOf (typeIs_str s x t) F.slot_str_getitem.lookup ?_)
 try dsimp only
 refine wpAny_bind (wpAny_mkInt ?_);refine wpAny_bind (wpAny_attempt (P.getItem_str (c:=c) ?_ ?_ ?_))
 · have:(i:Int)<2 ^ 63:=by omega
   simp only [Bool.or_eq_false_iff,decide_eq_false_iff_not];omega
 · have e:seqIndex? (i:Int) x.length=some i:=PySem.StrLaws.seqIndex_nonneg (i:=(i:Int)) (by omega) (by omega)
   rw [e];exact hc'
 · refine wpAny_bind (wpAny_field (s:={ s with toks:=s.toks+1+1 }) ho hd (x:=rawInt (i:Int)) rfl ?_)
   refine wpAny_bind (wpAny_setField (s:={ s with toks:=s.toks+1+1 }) ho hd (by simp) ?_);refine wpAny_pure ⟨_,rfl,wpAny_pure (hQ _ _ _ ?_ (Heap.SameBut.update ..))⟩
   exact⟨_,Heap.get?_update_self _ ho (Obj.isFreed_of_fields (Obj.data_mapFields hd _)),(Obj.cls_mapFields ..).trans hc,by
    rw [Obj.data_mapFields hd];simp⟩
theorem Zal {it:Addr} {x:Str} {t:Tok} {Q:Option Value->Shared->Prop} (hh:A.handled=none) (hit:s.heap.IsRvs it x t (-1))
 (hQ:∀h',Heap.ExtBut it s.heap h'->Q none { s with heap:=h' }):wpAny (model prog w) A (pyNext (.ref it)) Q E s:=by
 obtain⟨o,ho,hc,hd⟩:=id hit;unfold pyNext
 refine wpAny_bind (wpAny_attempt (wpAny_callSpecial?_slot (name:=Str.ofString "__next__") hit.typeIs F.slot_rvs_next
  (wpAny_call_entry F.slot_rvs_next hit.typeIs F.entry_rvs_next ?_ (F.args_rvs_next_1 _))))
 unfold Builtin.«reversed.__next__»;refine wpAny_bind (wpAny_of_eq (a:=(Value.ref it,[])) rfl ?_)
 try dsimp only
 refine wpAny_bind (wpAny_field ho hd (x:=.str x t) rfl ?_);refine wpAny_bind (wpAny_field ho hd (x:=rawInt (-1)) rfl ?_);show wpAny _ _ (if(-1:Int)<0 then _ else _) _ _ s;rw [if_pos (by decide)];refine wpAny_bind (wpAny_rule ?_);refine wpAny_bind ?_;show wpAny _ _ (setField (.ref it) 1 (rawInt (-1)) >>= λ_=>setField (.ref it) 0 .none) _ _ _;refine wpAny_bind (wpAny_setField ho hd (by simp) ?_)
 refine wpAny_setField (Heap.get?_update_self _ ho (Obj.isFreed_of_fields (Obj.data_mapFields hd _))) (Obj.data_mapFields hd _) (by simp) ?_;refine wpAny_bind ?_;show wpAny _ _ (newExc (.type "StopIteration") [] >>= _) _ _ _;refine wpAny_bind ?_;simp only [newExc,newTuple];refine wpAny_bind (wpAny_newObj_type ?_ (by size_fits));refine wpAny_bind (m:=firstArgMember _ _) (wpAny_of_eq (a:=Value.none) (by first|rfl|(simp only [firstArgMember];rfl)) ?_)
 refine wpAny_newObj_type ?_ (by size_fits);simp only [raiseNew];refine wpAny_bind (wpAny_handled ?_)
 first|rw [show A.in1.handled=none from hh]|rw [hh]
 refine wpAny_bind (wpAny_pure (wpAny_throw ?_));refine wpAny_bind (wpAny_isInstance (T:="StopIteration") (b:=true) ⟨_,Heap.get?_push_size _ rfl,rfl⟩ isSubtype_stop ?_);refine wpAny_pure (hQ _ λb o' hb e=>Heap.get?_push_of_some _ (Heap.get?_push_of_some _ ((Heap.get?_update_other _ _ (Ne.symm hb)).trans ((Heap.get?_update_other _ _ (Ne.symm hb)).trans e))))
theorem ZaT{z:Addr}{x:Str}{t:Tok}{Q:Bool->Shared->Prop}(hx:x.length<=1000)(hit:s.heap.IsRvs z x t ((x.length:Int)-1))(hQ:∀b tk,Q b { s with toks:=tk }) :
 wpAny (model prog w) A (Builtin.List.listLengthHint (.ref z)) Q E s:=by
 have hTy:=hit.typeIs;obtain⟨o,ho,hc,hd⟩:=id hit;unfold Builtin.List.listLengthHint;refine wpAny_bind (wpAny_specialOf hTy F.rvs_no_len ?_);show wpAny _ A (specialOf (Value.ref z) (Str.ofString "__length_hint__") >>= _) _ _ _;refine wpAny_bind (wpAny_specialOf hTy F.slot_rvs_hint.lookup ?_);have e:splitId "reversed.__length_hint__" = some ("reversed", "__length_hint__"):=by kernel_rfl
 dsimp only;rw [e];dsimp only;refine wpAny_bind (wpAny_isInstance (T:="reversed") (b:=true) hTy F.sub_reversed_self ?_);rw [if_neg (show ¬((!true)=true)from Bool.false_ne_true),if_neg]
 rotate_left
 · decide +kernel
 refine wpAny_bind (wpAny_rule ?_);refine wpAny_bind (wpAny_of_eq (F.slot_rvs_hint.bind _) ?_);dsimp only;refine wpAny_bind (wpAny_attempt (wpAny_call_entry F.slot_rvs_hint hTy F.entry_rvs_hint ?_ (F.args_rvs_hint_1 _)));unfold Builtin.«reversed.__length_hint__»;refine wpAny_bind (wpAny_of_eq (a:=Value.ref z) rfl ?_);refine wpAny_bind (wpAny_field ho hd (x:=.str x t) rfl ?_);rw [if_neg (show ¬((Value.str x t == Value.none)=true)from Bool.false_ne_true)]
 refine wpAny_bind (P.len_str (by omega) ?_);refine wpAny_bind (wpAny_of_eq (a:=some (x.length:Int)) rfl ?_);dsimp only;refine wpAny_bind (wpAny_field (s:={ s with toks:=s.toks+1+1 }) ho hd (x:=rawInt ((x.length:Int)-1)) rfl ?_);show wpAny _ _ (if(x.length:Int)<(x.length:Int)-1+1 then _ else _) _ _ _;rw [if_neg (by omega)];refine wpAny_bind (wpAny_mkInt ?_);refine wpAny_pure ⟨_,rfl,?_⟩
 show wpAny _ _ (asInt? _ >>= _) _ _ _;refine wpAny_bind (wpAny_of_eq (a:=some ((x.length:Int)-1+1)) rfl ?_);dsimp only;rw [if_neg,if_neg,if_neg]
 · exact wpAny_pure (hQ _ _)
 · unfold Builtin.List.listTooLong
   have:sizeLine=16777216:=rfl;simp only [decide_eq_true_eq];omega
 · omega
 · unfold Builtin.List.listFitsIndex
   simp only [Bool.not_eq_true',Bool.and_eq_false_iff,decide_eq_false_iff_not];omega
end
end PySem
namespace L2
open PySem PySem.Spec PySem.W PyProof.Rows
section
variable{prog:Program}{w:World}{A:Around}{E:Value->Shared->Prop}{s:Shared}
theorem Zah{R:Result->Shared->Prop}{z L:Addr}{cs:List Nat}{t:Tok}{res:Value}(hh:A.handled=none)(hSz:L≠z)(hcs:cs.length<=1000) :
 ∀(m:Nat)(s:Shared)(acc:Array Value)(c:Nat),m<=cs.length->s.heap.IsRvs z (tx cs) t ((m:Int)-1)->s.heap.get? L=some { cls := .type "list",dict:=none,data := .seq acc c,slots := #[] } ->
 Vals ((cs.drop m).reverse.map λc=>S [c]) acc.toList ->
 (∀h' tk acc' c',(∀b o,b≠L->b≠z->s.heap.get? b=some o->h'.get? b=some o)->h'.get? L=some { cls := .type "list",dict:=none,data := .seq acc' c',slots := #[] }->Vals (cs.reverse.map λc=>S [c]) acc'.toList->R (.ok (.ret res)) { s with heap:=h',toks:=tk }) ->
 codeAny (model prog w) A (.builtin "list.extend.loop" ⟨[.ref L,.ref z,res],[]⟩) R s:=by
 have hxl:(tx cs).length=cs.length:=rfl;intro m
 induction m with
 |zero=>
  intro s acc c hm hz hS hacc hR;refine codeAny_builtin F.entry_extend_loop ?_;rw [Around.under_plainId F.plain_extend_loop _];show wpAny _ A.in1 (pyNext (.ref z) >>= _) _ _ s;refine wpAny_bind (Zal hh hz λh' k2 => ?_);exact wpAny_pure (hR h' s.toks acc c (λb o _ b1 e=>k2 b o b1 e) (k2 L _ hSz hS) hacc)
 |succ m ih=>
  intro s acc c hm hz hS hacc hR
  have hx:(tx cs).cps[m]? = some cs[m]:=by
   show cs.toArray[m]? = _;rw [List.getElem?_toArray];exact List.getElem?_eq_getElem (by omega)
  have hz':s.heap.IsRvs z (tx cs) t ((m:Nat):Int):=by
   have e:((m+1:Nat):Int)-1=(m:Int):=by omega
   rw [e]at hz;exact hz
  refine codeAny_builtin F.entry_extend_loop ?_;rw [Around.under_plainId F.plain_extend_loop _];show wpAny _ A.in1 (pyNext (.ref z) >>= _) _ _ s;refine wpAny_bind (Zai (by rw [hxl];exact hcs) hz' hx λh' tk tk' hz2 k2 => ?_);have hS':h'.get? L=some { cls := .type "list",dict:=none,data := .seq acc c,slots := #[] }:=k2.extBut L _ hSz hS
  have hlen:acc.size=cs.length-(m+1):=by
   have:=hacc.length;simp at this;omega
  show wpAny _ A.in1 (updateSeq L (·.push (.str ⟨#[cs[m]]⟩ tk)) >>= _) _ _ _;refine wpAny_bind ?_;have oth:∀b o,b≠L->h'.get? b=some o->(h'.update L (Obj.mapSeq (·.push (Value.str ⟨#[cs[m]]⟩ tk)))).get? b=some o:=λb o hb e=>(Heap.get?_update_other _ _ (Ne.symm hb)).trans e
  have hsl:sizeLine=16777216:=rfl
  refine wpAny_updateSeq (s:={ s with heap:=h',toks:=tk' }) hS' rfl (wpAny_pure ⟨plainId_quiet F.plain_extend_loop _,ih _ (acc.push (.str ⟨#[cs[m]]⟩ tk)) _ (by omega) (hz2.at λo e=>oth z o (Ne.symm hSz) e) (Heap.get?_update_self _ hS' rfl) ?_ λh'' tk2 acc' c' k3 hS'' hacc' => ?_⟩)
   (by rw [hlen];omega) (by show(acc.push _).size<=sizeLine+1;rw [Array.size_push,hlen];omega)
  · rw [List.drop_eq_getElem_cons (show m<cs.length by omega),List.reverse_cons,List.map_append,Array.toList_push]
    exact hacc.append (.cons ⟨tk,rfl⟩ .nil)
  · exact hR h'' tk2 acc' c' (λb o b0 b1 e=>k3 b o b0 b1 (oth b o b0 (k2.extBut b o b1 e))) hS'' hacc'
theorem Zbm {R:Result->Shared->Prop} {z L:Addr} {c₀:Nat} {cs:List Nat} {t:Tok} {res:Value} (hh:A.handled=none) (hSz:L≠z) (hcs:cs.length<=1000)
 (hz:s.heap.IsRvs z (tx cs) t ((cs.length:Int)-1)) (hS:s.heap.get? L=some { cls := .type "list",data := .seq #[] c₀ })
 (hR:∀h' tk acc' c',(∀b o,b≠L->b≠z->s.heap.get? b=some o->h'.get? b=some o)->h'.get? L=some { cls := .type "list",dict:=none,data := .seq acc' c',slots := #[] }->Vals (cs.reverse.map λc=>S [c]) acc'.toList->R (.ok (.ret res)) { s with heap:=h',toks:=tk }) :
 wpAny (model prog w) A.in1 (Builtin.List.listExtendWith (.ref L) (.ref z) res)
  (λfin s'=>match fin with | .done f=>R (.ok f) s' | .again c'=>c'.quiet=true/\codeAny (model prog w) A c' R s') (λe s'=>R (.error e) s') s:=by
 have hTy:=hz.typeIs
 have nil:Vals ((cs.drop cs.length).reverse.map λc=>S [c]) (#[]:Array Value).toList:=by
  rw [List.drop_length];exact .nil
 unfold Builtin.List.listExtendWith;refine wpAny_bind (wpAny_typeOf hTy ?_);have g1:Builtin.List.listSameRef (.ref L) (.ref z)=false:=by simp [Builtin.List.listSameRef,hSz]
 have g2:(Value.type "reversed" == Value.type "list")=false:=by decide
 have g3:(Value.type "reversed" == Value.type "tuple")=false:=by decide
 simp only [g1,g2,g3,Bool.or_false,Bool.false_eq_true,if_false];refine wpAny_bind (ZaC hz ?_);refine wpAny_bind (wpAny_holding (ZaT (x:=tx cs) hcs hz λb tk => ?_));cases b with
 |false=>
  refine wpAny_of_eq (a:=_) (by rfl) ?_;exact⟨plainId_quiet F.plain_extend_loop _,Zah hh hSz hcs cs.length _ #[] _ (Nat.le_refl _) hz hS nil λh' tk acc' c' k3 hS' hacc=>hR h' tk acc' c' k3 hS' hacc⟩
 |true=>
  show wpAny _ A.in1 (rule "list.extend.makes-room" >>= λ_=>Builtin.List.listTouch (.ref L) >>= λ_=>
   again (.builtin "list.extend.loop" ⟨[.ref L,.ref z,res],[]⟩)) _ _ _
  refine wpAny_bind (wpAny_rule ?_);refine wpAny_bind ?_;show wpAny _ A.in1 (updateSeq L (·.push .none) >>= λ_=>updateSeq L (·.pop)) _ _ _;refine wpAny_bind (wpAny_updateSeq hS rfl ?_);have hS₂:=Heap.get?_update_self (Obj.mapSeq (·.push Value.none)) hS rfl;refine wpAny_updateSeq hS₂ rfl ?_;have hS₃:=Heap.get?_update_self (Obj.mapSeq (·.pop)) hS₂ rfl
  have oth:∀b o,b≠L->s.heap.get? b=some o->((s.heap.update L (Obj.mapSeq (·.push Value.none))).update L (Obj.mapSeq (·.pop))).get? b=some o:=
   λb o hb e=>(Heap.get?_update_other _ _ (Ne.symm hb)).trans ((Heap.get?_update_other _ _ (Ne.symm hb)).trans e)
  exact wpAny_pure ⟨plainId_quiet F.plain_extend_loop _,Zah hh hSz hcs cs.length _ #[] _ (Nat.le_refl _) (hz.at λo e=>oth z o (Ne.symm hSz) e) hS₃ nil λh' tk acc' c' k3 hS' hacc=>hR h' tk acc' c' (λb o b0 b1 e=>k3 b o b0 b1 (oth b o b0 e)) hS' hacc⟩
end
end L2
namespace L2
open PySem PySem.Spec PySem.W PyProof.Rows
section
variable{prog:Program}{w:World}{A:Around}{E:Value->Shared->Prop}{s:Shared}
theorem Zbn {Q:Value->Shared->Prop} {z:Addr} {cs:List Nat} {t:Tok} (hh:A.handled=none) (hcs:cs.length<=1000) (hz:s.heap.IsRvs z (tx cs) t ((cs.length:Int)-1))
 (hQ:∀h' tk acc' c',(∀b o,b≠z->s.heap.get? b=some o->h'.get? b=some o)->h'.get? s.heap.objs.size=some { cls := .type "list",dict:=none,data := .seq acc' c',slots := #[] }->Vals (cs.reverse.map λc=>S [c]) acc'.toList->Q (.ref s.heap.objs.size) { s with heap:=h',toks:=tk }) :
 wpAny (model prog w) A (call (.type "list") [.ref z]) Q E s:=by
 refine callType_codes (Q₁:=λobj s₁=>obj = .ref s.heap.objs.size/\s₁={ s with heap:=s.heap.push { cls := .type "list",data := .seq #[] } }) F.called_list (F.typeCall_list_1 _) F.entry_list_init
  (code_list_new _ ⟨rfl,rfl⟩) λobj s₁ h₁ => ?_
 obtain⟨rfl,rfl⟩:=h₁;have hS:(s.heap.push { cls := .type "list",data := .seq #[] }).get? s.heap.objs.size=some { cls := .type "list",data := .seq #[] }:=Heap.get?_push_size _ rfl;have up:∀b o,s.heap.get? b=some o->(s.heap.push { cls := .type "list",data := .seq #[] }).get? b=some o:=λb o e=>Heap.get?_push_of_some _ e
 have lt:∀{b o},s.heap.get? b=some o->b<s.heap.objs.size:=λe=>Heap.lt_size e
 have lz:z<s.heap.objs.size:=by obtain⟨o,q,_⟩:=hz;exact lt q
 refine⟨⟨_,hS,rfl⟩,F.args_list_init_2 _ _,?_⟩;show wpAny _ _ (do let old <-Builtin.List.listItems (.ref s.heap.objs.size);Builtin.List.listUpdate (.ref s.heap.objs.size) (λ_ => #[]);letGo old.toList.reverse;Builtin.List.listExtendWith (.ref s.heap.objs.size) (.ref z) .none) _ _ _;refine wpAny_bind ?_;unfold Builtin.List.listItems;refine wpAny_bind (wpAny_seqItems hS rfl (wpAny_pure ?_))
 show wpAny _ _ (updateSeq s.heap.objs.size (λ_ => #[]) >>= λ_=>letGo (#[]:Array Value).toList.reverse >>= λ_=>Builtin.List.listExtendWith (.ref s.heap.objs.size) (.ref z) .none) _ _ _;refine wpAny_bind (wpAny_updateSeq hS rfl ?_);obtain⟨c1,hS₂⟩:∃c1,((s.heap.push { cls := .type "list",data := .seq #[] }).update s.heap.objs.size (Obj.mapSeq (λ_=>(#[]:Array Value)))).get? s.heap.objs.size=some { cls := .type "list",data := .seq #[] c1 }:=⟨_,Heap.get?_update_self (Obj.mapSeq (λ_=>(#[]:Array Value))) hS rfl⟩
 have oth:∀b o,s.heap.get? b=some o->((s.heap.push { cls := .type "list",data := .seq #[] }).update s.heap.objs.size (Obj.mapSeq (λ_=>(#[]:Array Value)))).get? b=some o:=
  λb o e=>(Heap.get?_update_other _ _ (Nat.ne_of_gt (lt e))).trans (up b o e)
 refine wpAny_bind (wpAny_letGo ?_);refine Zbm (A:=A.in1) (s:={ s with heap:=(s.heap.push { cls := .type "list",data := .seq #[] }).update s.heap.objs.size (Obj.mapSeq (λ_=>(#[]:Array Value))) }) hh (Nat.ne_of_gt lz) hcs (hz.at λo e=>oth _ o e) hS₂ λh' tk acc' c' k3 hS' hacc => ?_
 exact⟨rfl,hQ h' tk acc' c' (λb o b1 e=>k3 b o (Nat.ne_of_lt (lt e)) b1 (oth b o e)) hS' hacc⟩
end
theorem ZgO {X:Cx} {e:Expr} {te:TE} {p p2 pos pos2:Pos} (hg:Gl X "list") (hm:X.mg "list" = none) (hgr:Gl X "reversed") (hmr:X.mg "reversed" = none) (he:PE X e te) (hs:starEach [e] X.env=[(false,eval e X.env)]:=by rfl)
 (ho:starEach [.Call (.Name "reversed" p2) [e] [] pos2] X.env=[(false,eval (.Call (.Name "reversed" p2) [e] [] pos2) X.env)]:=by rfl) (hc:X.calm=true:=by rfl) :
 PE X (.Call (.Name "list" p) [.Call (.Name "reversed" p2) [e] [] pos2] [] pos) (Zhs te):=by
 intro pins s σ H Q I h;refine wpAny_Call_Name_kw (V3 I hg hm boot_list ?_ (by decide) (by decide));refine PyProof.Rows.callWith_type1 ?_ ho rfl;rw [ho];refine Calls.spliced_cons ?_;refine Call_ (V3 I hgr hmr boot_reversed (PyProof.Rows.callWith_type1 (thn ((Zc he Zj hs) pos2 pins s σ H (λvs H1=>match vs with|[x]=>∃cs,x=S cs/\cs.length<=1000/\∀p,H1 p=none->Q (.ref p) (upd H1 p (.lst (cs.reverse.map λc=>S [c])))|_=>False) I h) λus s1 ⟨vs,H1,I1,r1,q1⟩ => ?_) hs rfl))
 dsimp only at q1
 split at q1
 rotate_left
 · exact q1.elim
 obtain⟨cs,rfl,q1,q⟩:=q1;obtain⟨u,rfl,ru⟩:=X4 r1;obtain⟨t,rfl⟩:=ru;refine Zav (x:=tx cs) q1 ?_;refine Calls.spliced_nil ?_;refine Zbn (cs:=cs) (t:=t) (I1.ok.hd hc) q1 ⟨_,Heap.get?_push_size _ rfl,rfl,rfl⟩ λh' tk acc' c' k3 hS' hacc => ?_
 have hsz:(s1.heap.push (Qt (tx cs) t (((tx cs).length:Int)-1))).objs.size=s1.heap.objs.size+1:=Heap.size_push ..;have lt:∀{b o},s1.heap.get? b=some o->b<s1.heap.objs.size:=λe=>Heap.lt_size e
 have old:∀b o,s1.heap.get? b=some o->h'.get? b=some o:=λb o e=>k3 b o (Nat.ne_of_lt (lt e)) (Heap.get?_push_of_some _ e)
 refine⟨.ref (s1.heap.push (Qt (tx cs) t (((tx cs).length:Int)-1))).objs.size,_,I1.laid (t':=tk) old (by rw [hsz];exact Nat.le_succ _) (show ObjOk X.prog X.w _ h' _ (.lst (cs.reverse.map λc=>S [c]))from⟨?_,acc'.toList,c',hacc,hS'⟩),rfl,q _ (I1.hok.fresh (by rw [hsz];exact Nat.le_succ _))⟩;have hsl:sizeLine=16777216:=rfl;rw [List.length_map,List.length_reverse];omega
end L2
namespace DL
open PySem PySem.Spec L2
abbrev RO:=Except String Out
abbrev RD:=Except String D
def okO(r:Env->Option RO)(δ:Env):Option Out:=match r δ with
 |some (.ok o)=>some o
 |_=>none
def erO(r:Env->Option RO)(δ:Env):Option String:=match r δ with
 |some (.error c)=>some c
 |_=>none
def okD(r:List D->Option RD)(ds:List D):Option D:=match r ds with
 |some (.ok o)=>some o
 |_=>none
def erD(r:List D->Option RD)(ds:List D):Option String:=match r ds with
 |some (.error c)=>some c
 |_=>none
structure VR(G:Cn)(ow owN owB owC:List Nat)(E:XK)(t:TS)(r:Env->Option RO):Prop where
 v:VS G ow owN owB owC t (okO r)
 x:VX G ow E t (erO r)
section
variable{cA:Kn}{G:Cn}{ow ow1 owN owB owC:List Nat}{E:XK}{t u:TS}
theorem VS.imp{φ ψ:Env->Option Out}(h:VS G ow owN owB owC t φ)(k:∀δ o,ψ δ=some o->φ δ=some o):VS G ow owN owB owC t ψ:=λH0 av A σ H δ R o e=>h H0 av A σ H δ R o (k δ o e)
theorem VX.imp{φ ψ:Env->Option String}(h:VX G ow E t φ)(k:∀δ o,ψ δ=some o->φ δ=some o):VX G ow E t ψ:=λH0 av A σ H δ R o e=>h H0 av A σ H δ R o (k δ o e)
def rOf(φ:Env->Option Out)(δ:Env):Option RO:=(φ δ).map .ok
theorem ZT{φ:Env->Option Out}(h:VS G ow owN owB owC t φ):VR G ow owN owB owC E t (rOf φ) where
 v:=h.imp λδ o e=>by
  unfold okO rOf at e;cases q:φ δ with
  |none=>rw [q]at e;cases e
  |some o'=>rw [q]at e;exact e
 x:=λH0 av A σ H δ R o e=>by
  unfold erO rOf at e;cases q:φ δ with
  |none=>rw [q]at e;cases e
  |some o'=>rw [q]at e;cases e
def Zw(r s:Env->Option RO)(δ:Env):Option RO:=match r δ with
 |some (.ok (.nx δ1))=>s δ1
 |o=>o
theorem ZH{r s:Env->Option RO}(h1:VR G ow ow1 owB owC E t r)(h2:VR G ow1 owN owB owC E u s):VR G ow owN owB owC E (Uv t u) (Zw r s) where
 v:=(ZI h1.v h2.v).imp λδ o e=>by
  unfold okO Zw at e;unfold Zq okO;cases q:r δ with
  |none=>rw [q]at e;cases e
  |some o'=>
   rw [q]at e;cases o' with
   |error c=>cases e
   |ok o'=>cases o'<;>exact e
 x:=(Zh5 h1.x h1.v h2.x).imp λδ o e=>by
  unfold erO Zw at e;unfold Zje erO okO;cases q:r δ with
  |none=>rw [q]at e;cases e
  |some o'=>
   rw [q]at e;cases o' with
   |error c=>exact e
   |ok o'=>cases o'<;>exact e
def rIf(τ:Env->Option Bool)(r s:Env->Option RO)(δ:Env):Option RO:=match τ δ with
 |some true=>r δ
 |some false=>s δ
 |none=>none
theorem Uj{c:TT}{τ:Env->Option Bool}{r s:Env->Option RO}(hc:VT G ow c τ)(h1:VR G ow owN owB owC E t r)(h2:VR G ow owN owB owC E u s):VR G ow owN owB owC E (Jz c t u) (rIf τ r s) where
 v:=(YS hc h1.v h2.v).imp λδ o e=>by
  unfold okO rIf at e;unfold sIf okO;cases q:τ δ with
  |none=>rw [q]at e;cases e
  |some b=>rw [q]at e;cases b<;>exact e
 x:=(ZjQ hc h1.x h2.x).imp λδ o e=>by
  unfold erO rIf at e;unfold xIf erO;cases q:τ δ with
  |none=>rw [q]at e;cases e
  |some b=>rw [q]at e;cases b<;>exact e
def Qu(c:String)(α:Env->Option (List D))(δ:Env):Option RO:=(Qn c α δ).map .error
theorem ZcB{C:Addr}{ta:TA}{q:Ql}{α:Env->Option (List D)}(c:String)(hC:C=G.1.c c)(h:VA G ow ta q α):VR G ow owN owB owC E (Zdf E C ta) (Qu c α) where
 v:=λH0 av A σ H δ R o e=>by
  unfold okO Qu at e;cases q:Qn c α δ with
  |none=>rw [q]at e;cases e
  |some o'=>rw [q]at e;cases e
 x:=(Ze5 c hC h).imp λδ o e=>by
  unfold erO Qu at e;cases q:Qn c α δ with
  |none=>rw [q]at e;cases e
  |some o'=>rw [q]at e;exact e
def Yj(c:Env->Option D)(δ:Env):Option RO:=match c δ with
 |some (.bl true)=>some (.ok (.nx δ))
 |some (.bl false)=>some (.error "BadRule")
 |_=>none
theorem Xx {rr:List D->Option RD} {te:TE} {c:Env->Option D} {w:List Nat} (h1:∀w,rr [.bl true,.str w]=some (.ok .non)) (h2:∀w,rr [.bl false,.str w]=some (.error "BadRule")) (h:VE G ow te .cl c) :
 VR G ow ow owB owC E (VB (X5 (spX G.1 2 (okD rr) (erD rr)) [] E (Y5 te (Y5 (tC (S w)) tNil)))) (Yj c) where
 v:=(Zgx (Zbf [] rfl (Ze h (Ze (Zf (d:=.str w) rfl rfl) Zk)))).imp λδ o e=>by
  unfold okO Yj at e;cases q:c δ with
  |none=>rw [q]at e;cases e
  |some d=>
   rw [q]at e;cases d<;>first|(cases e;done)|skip
   rename_i b;cases b with
   |false=>cases e
   |true=>
    cases e;have e1:Zb c (Zb (eC (.str w)) eNil) δ=some [.bl true,.str w]:=by unfold Zb;rw [q];rfl
    have e2:Zs 2 (okD rr) [] (Zb c (Zb (eC (.str w)) eNil)) δ=some .non:=by
     unfold Zs;rw [e1];show(if 2=2 then okD rr [.bl true,.str w]else none)=_;rw [if_pos rfl];unfold okD;rw [h1]
    show Yc _ δ=_;unfold Yc;rw [e2]
 x:=(VXs.vx (Ze6 (Zbg [] rfl (Ze h (Ze (Zf (d:=.str w) rfl rfl) Zk))))).imp λδ o e=>by
  unfold erO Yj at e;cases q:c δ with
  |none=>rw [q]at e;cases e
  |some d=>
   rw [q]at e;cases d<;>first|(cases e;done)|skip
   rename_i b;cases b with
   |true=>cases e
   |false=>
    cases e;have e1:Zb c (Zb (eC (.str w)) eNil) δ=some [.bl false,.str w]:=by unfold Zb;rw [q];rfl
    show Vs _ _ _ _ δ=_;unfold Vs;rw [e1];show(if 2=2 then erD rr [.bl false,.str w]else none)=_;rw [if_pos rfl];unfold erD;rw [h2]
def YW(i n:Nat)(rr:List D->Option RD)(dds:List D)(α:Env->Option (List D))(δ:Env):Option RO:=match Za i δ,α δ with
 |some d,some ds=>if(d::(ds++dds)).length=n then(match rr (d::(ds++dds))with
  |some (.ok d')=>some (.ok (.nx (δ.set i (some d'))))
  |some (.error c)=>some (.error c)
  |none=>none)else none
 |_,_=>none
theorem Qv{n:Nat}{rr:List D->Option RD}{ta:TA}{α:Env->Option (List D)}(i:Nat)(hi:ow.contains i=true)(dds:List D)(hd:dds.all ZC=true)(h:VA G ow ta .cl α) :
 VR G ow ow owB owC E (VB (X5 (Ys G.1 n (okD rr) (erD rr)) (dds.map val) E (Y5 (XJ i) ta))) (YW i n rr dds α) where
 v:=(Zfb i hi dds hd h).imp λδ o e=>by
  unfold okO YW at e;unfold Yi okD;cases q1:Za i δ with
  |none=>rw [q1]at e;cases e
  |some d=>
   cases q2:α δ with
   |none=>rw [q1,q2]at e;cases e
   |some ds=>
    rw [q1,q2]at e;dsimp only at e ⊢
    by_cases hz:(d::(ds++dds)).length=n
    · rw [if_pos hz]at e ⊢
      cases q3:rr (d::(ds++dds))with
      |none=>rw [q3]at e;cases e
      |some x=>rw [q3]at e;cases x<;>first|(cases e;done)|exact e
    · rw [if_neg hz]at e;cases e
 x:=(Zfc i hi dds hd h).imp λδ o e=>by
  unfold erO YW at e;unfold Zgd erD;cases q1:Za i δ with
  |none=>rw [q1]at e;cases e
  |some d=>
   cases q2:α δ with
   |none=>rw [q1,q2]at e;cases e
   |some ds=>
    rw [q1,q2]at e;dsimp only at e ⊢
    by_cases hz:(d::(ds++dds)).length=n
    · rw [if_pos hz]at e ⊢
      cases q3:rr (d::(ds++dds))with
      |none=>rw [q3]at e;cases e
      |some x=>rw [q3]at e;cases x<;>first|(cases e;done)|exact e
    · rw [if_neg hz]at e;cases e
def YX(f:List D->List D)(n:Nat)(rr:List D->Option RD)(α:Env->Option (List D))(δ:Env):Option RO:=match α δ with
 |some ds=>if(f ds).length=n then(rr (f ds)).map (Except.map Out.rt)else none
 |none=>none
theorem ZdM{f:List D->List D}{n:Nat}{rr:List D->Option RD}{α:Env->Option (List D)}{δ:Env}{o:Out}(e:okO (YX f n rr α) δ=some o):∃ds d,α δ=some ds/\(f ds).length=n/\okD rr (f ds)=some d/\o = .rt d:=by
 unfold okO YX at e;cases q:α δ with
 |none=>rw [q]at e;cases e
 |some ds=>
  rw [q]at e;dsimp only at e
  by_cases hz:(f ds).length=n
  · rw [if_pos hz]at e
    cases q3:rr (f ds)with
    |none=>rw [q3]at e;cases e
    |some x=>
     rw [q3]at e;cases x with
     |error c=>cases e
     |ok d=>exact⟨ds,d,rfl,hz,by unfold okD;rw [q3],(Option.some.inj e).symm⟩
  · rw [if_neg hz]at e;cases e
theorem ZdN{f:List D->List D}{n:Nat}{rr:List D->Option RD}{α:Env->Option (List D)}{δ:Env}{c:String}(e:erO (YX f n rr α) δ=some c):∃ds,α δ=some ds/\(f ds).length=n/\erD rr (f ds)=some c:=by
 unfold erO YX at e;cases q:α δ with
 |none=>rw [q]at e;cases e
 |some ds=>
  rw [q]at e;dsimp only at e
  by_cases hz:(f ds).length=n
  · rw [if_pos hz]at e
    cases q3:rr (f ds)with
    |none=>rw [q3]at e;cases e
    |some x=>
     rw [q3]at e;cases x with
     |ok c=>cases e
     |error d=>exact⟨ds,rfl,hz,by unfold erD;rw [q3];exact e⟩
  · rw [if_neg hz]at e;cases e
theorem Q5{n:Nat}{rr:List D->Option RD}{ta:TA}{q:Ql}{α:Env->Option (List D)}(h:VA G ow ta q α):VR G ow owN owB owC E (QJ (X5 (spX G.1 n (okD rr) (erD rr)) [] E ta)) (YX id n rr α) where
 v:=(YB (Zbf [] rfl h)).imp λδ o e=>by
  obtain⟨ds,d,h1,h2,h3,rfl⟩:=ZdM e;have h2':(ds++[]).length=n:=by rw [List.append_nil];exact h2
  unfold Zy Zs;rw [h1];show(match(if(ds++[]).length=n then okD rr (ds++[])else none)with|some d=>some (Out.rt d)|none=>none)=_;rw [if_pos h2',List.append_nil,show okD rr ds=some d from h3]
 x:=(VXs.vx (Zdv (Zbg [] rfl h))).imp λδ o e=>by
  obtain⟨ds,h1,h2,h3⟩:=ZdN e;have h2':(ds++[]).length=n:=by rw [List.append_nil];exact h2
  unfold Vs;rw [h1];show(if(ds++[]).length=n then erD rr (ds++[])else none)=_;rw [if_pos h2',List.append_nil];exact h3
theorem UR{n:Nat}{rr:List D->Option RD}{ta:TA}{α:Env->Option (List D)}{c:String}(dds:List D)(hd:dds.all ZC=true)(h:VA G ow ta .cl α):VR G ow owN owB owC E (QJ (JC (G.1.c c) (Ys G.1 n (okD rr) (erD rr)) (dds.map val) E ta)) (YX (λds => .obj c [] []::(ds++dds)) n rr α) where
 v:=(YB (Uf dds hd h)).imp λδ o e=>by
  obtain⟨ds,d,h1,h2,h3,rfl⟩:=ZdM e;unfold Zy ZK;rw [h1];show(match(if(D.obj c [] []::(ds++dds)).length=n then okD rr (.obj c [] []::(ds++dds))else none)with|some d=>some (Out.rt d)|none=>none)=_;rw [if_pos h2,h3]
 x:=(VXs.vx (Zdv (Zfa dds hd h))).imp λδ o e=>by
  obtain⟨ds,h1,h2,h3⟩:=ZdN e;unfold Zgc;rw [h1];show(if(D.obj c [] []::(ds++dds)).length=n then erD rr (.obj c [] []::(ds++dds))else none)=_;rw [if_pos h2];exact h3
theorem VR.frz{r:Env->Option RO}(i:Nat)(h:VR G ow1 owN owB owC E t r)(hn:G.2 i=none)(h1:sub ow1 ow=true)(h2:ow1.contains i=false)(h3:sub ow (i::ow1)=true):VR G ow owN owB owC E t r:=⟨VS.frz i h.v hn h1 h2 h3,VX.frz i h.x hn h1 h2 h3⟩
end
def Xq(N:Nat)(r:Env->Option RO)(ds:List D):Option RD:=match r (ds.map some++List.replicate (N-ds.length) none)with
 |some (.ok (.nx _))=>some (.ok .non)
 |some (.ok (.rt d))=>some (.ok d)
 |some (.error c)=>some (.error c)
 |_=>none
def YK(N:Nat)(r:Env->Option RO)(ds:List D):Option RD:=match r (ds.map some++List.replicate (N-ds.length) none)with
 |some (.ok (.nx δ))=>(Za 0 δ).map .ok
 |some (.error c)=>some (.error c)
 |_=>none
theorem Zie{N:Nat}{r:Env->Option RO}:okD (Xq N r)=run N (okO r):=by
 funext ds
 unfold okD Xq run okO;generalize r _=y;rcases y with _|(c|(δ|d|δ|δ))<;>rfl
theorem Zif{N:Nat}{r:Env->Option RO}:erD (Xq N r)=Qm N (erO r):=by
 funext ds
 unfold erD Xq Qm erO;generalize r _=y;rcases y with _|(c|(δ|d|δ|δ))<;>rfl
theorem ZgP{N:Nat}{r:Env->Option RO}:okD (YK N r)=runI N (okO r):=by
 funext ds
 unfold okD YK runI okO;generalize r _=y;rcases y with _|(c|(δ|d|δ|δ))<;>first|rfl|(dsimp only;cases Za 0 δ<;>rfl)
theorem ZgQ{N:Nat}{r:Env->Option RO}:erD (YK N r)=Qm N (erO r):=by
 funext ds
 unfold erD YK Qm erO;generalize r _=y;rcases y with _|(c|(δ|d|δ|δ))<;>first|rfl|(dsimp only;cases Za 0 δ<;>rfl)
section
variable{P:Program}{w:World}{K:PySem.W.Frag}{mg:Str->Option Value}{base:Heap}{cA:Kn}
theorem US {x qual:Str} {st:Stmt} {f:Addr} {fd:FuncData} {N ps:List Str} {k:Nat} {r:Env->Option RO} {body:List Stmt} {scope:Scope} {n:Nat} {rr:List D->Option RD} (F:FunX K x qual st f fd) (S:FnScope N ps (defScope st)) (hS:defScope st=scope) (hB:defBody st=body)
 (hbody:∀(cdv:Value)(A:Around)(outer:List PySem.Env)(s:Shared)(H:Hp)(E:XK),Room k (A.deeper (PyProof.Rows.envOfC qual scope s.heap.objs.size f cdv)) ->
   ∃t,PSs (YO (CX1 P w) P w K mg base N qual scope f cdv A outer s H E) body t/\∃owN,VR ⟨cA,λ_=>none⟩ [] owN [] [] (λc d H'=>Same H H'/\E c d H') t r) (hm:rr=Xq N.length r) (hn:ps.length=n) :
 FnOk P w K mg base (CX1 P w) (k+1) f fd ps (spX cA n (okD rr) (erD rr)):=by
 refine ZjR (φ:=okO r) (χ:=erO r) F S hS hB (λcdv A outer s H E hr => ?_) ?_ ?_ hn
 · obtain⟨t,ht,owN,h⟩:=hbody cdv A outer s H E hr
   exact⟨t,ht,owN,h.v,h.x⟩
 · rw [hm,Zie]
 · rw [hm,Zif]
theorem UT {x qual:Str} {st:Stmt} {f:Addr} {fd:FuncData} {N ps:List Str} {k:Nat} {r:Env->Option RO} {body:List Stmt} {scope:Scope} {n:Nat} {rr:List D->Option RD} (F:FunX K x qual st f fd) (S:FnScope N ps (defScope st)) (hS:defScope st=scope) (hB:defBody st=body)
 (hbody:∀(cdv:Value)(A:Around)(outer:List PySem.Env)(s:Shared)(H:Hp)(E:XK)(a:Addr),Room k (A.deeper (PyProof.Rows.envOfC qual scope s.heap.objs.size f cdv)) ->
   ∃t,PSs (YO (CX2 P w) P w K mg base N qual scope f cdv A outer s H E) body t/\VR ⟨cA,λj=>if j=0 then some (.inl a)else none⟩ [0] [0] [] [] E t r) (hm:rr=YK N.length r) (hn:ps.length=n) :
 FnOk P w K mg base (CX2 P w) (k+1) f fd ps (Ys cA n (okD rr) (erD rr)):=by
 refine ZjU (φ:=okO r) (χ:=erO r) F S hS hB (λcdv A outer s H E a hr => ?_) ?_ ?_ hn
 · obtain⟨t,ht,h⟩:=hbody cdv A outer s H E a hr
   exact⟨t,ht,h.v,h.x⟩
 · rw [hm,ZgP]
 · rw [hm,ZgQ]
end
end DL
namespace HT
open PySem PySem.W PySem.Calls PyProof.Rows
def de(P:Params)(x:Str)(t:Nat)(v:Value):DictEntry:=⟨PyData.keyHash P x,.str x t,v⟩
def dO(c:Value)(es:List DictEntry)(n:Nat):Obj:=⟨c,none,.dict es.toArray n,#[]⟩
def cO(vs:List Value):Obj:=⟨.type "code",none,.fields vs.toArray,#[]⟩
def fO(x q:Str)(st:Stmt)(dv kv doc pm:Value)(an:Option Addr)(cd ct:Value):Obj:=⟨.type "function",none,.func (fnOf x q (L2.defArgs st) (L2.defBody st) (L2.defScope st) dv kv doc pm an cd ct),#[]⟩
def c3(x q:Str)(t l a n r:Nat)(r2:Nat)(v w:Value)(r3 k k2:Nat):Obj:=cO [.str x t,.str q (t+1),.str "/claim/cut.py" (t+2),.int l 0,.int a 0,.int 0 0,.int 0 0,.int n 0,.ref r,.bool true,.int 181 0,.ref r2,.none,v,w,.ref r3,.int k 0,.int l 0,.str "/claim/cut.py" k2]
def f3(x q:Str)(st:Stmt)(m:Str)(t c:Nat):Obj:=fO x q st .none .none .none (.str m t) none (.ref c) .none
def x3(P:Params)(m:Str)(t a b l c d r e n:Nat):Obj:=dO (.type "dict") [de P "__module__" a (.str m t),de P "__firstlineno__" b (.int l c),de P "__static_attributes__" d (.ref r),de P "__doc__" e .none] n
def k3(x:Str)(a b n r t u:Nat):Obj:=⟨.type "type",none,.cls ⟨x,[.ref b],[.ref a,.ref b,.type "ValueError",.type "Exception",.type "BaseException",.type "object"],n,x,true,[],[],false,none,false⟩,#[some (.ref r),none,some (.str x t),some (.str x u),some (.builtin "ValueError.__new__"),some (.bool true)]⟩
def met{α:Type}(_:α):Bool:=true
noncomputable def ZjV(P:Params):BT:=
 ((((((((((BT.nil.ins 0 (boot_o_0 P)).ins 1 (boot_o_1 P)).ins 2 (boot_o_2 P)).ins 3 (boot_o_3 P)).ins 4 (boot_o_4 P)).ins 5 (boot_o_5 P)).ins 6 (boot_o_6 P)).ins 7 (boot_o_7 P)).ins 8 (boot_o_8 P)).ins 9 (boot_o_9 P)).ins 10 (boot_o_10 P)
noncomputable abbrev S0(w:World)(os:OsState):Shared:=⟨boot_heap w.params,Array.mk [],boot_drawn,boot_toks,os⟩
noncomputable abbrev S0T(w:World)(os:OsState):SharedT:=⟨ZjV w.params,11,(boot_heap w.params).life,Array.mk [],boot_drawn,boot_toks,os⟩
theorem Zlt(w:World)(os:OsState):(S0T w os).abs=S0 w os:=rfl
noncomputable def Zjg(thr ok:Thread->Bool)(st:SharedT->Thread->Option (SharedT×Thread))(n:Nat):SharedT->Thread->Option SharedT:=
 @Nat.rec (λ_=>SharedT->Thread->Option SharedT) (λ_ _=>none)
  (λ_ ih s t => @Bool.rec (λ_=>Option SharedT) (@Bool.rec (λ_=>Option SharedT) none (@Option.rec (SharedT×Thread) (λ_=>Option SharedT) none (λr=>ih r.1 r.2) (st s t)) (ok t)) (some s) (thr t)) n
theorem ZcC{tb:String->Option Builtin}{p:Program}{w:World}{n₀:Nat}{ann:Option Value}:∀{n:Nat}{s s':SharedT}{t:Thread},Zjg through (stepOk n₀ ann) (stepT (denote tb) p w) n s t=some s'->topRun tb p w n₀ ann n s.abs t=some s'.abs
 |0,_,_,_,h=>by cases h
 |n+1,s,s',t,h=>by
  replace h : @Bool.rec (λ_=>Option SharedT) (@Bool.rec (λ_=>Option SharedT) none (@Option.rec (SharedT×Thread) (λ_=>Option SharedT) none (λr=>Zjg through (stepOk n₀ ann) (stepT (denote tb) p w) n r.1 r.2) (stepT (denote tb) p w s t)) (stepOk n₀ ann t)) (some s) (through t)=some s':=h;unfold topRun;cases ht:through t with
  |true=>rw [ht]at h;cases h;rfl
  |false=>
   rw [ht]at h;cases hk:stepOk n₀ ann t with
   |false=>rw [hk]at h;cases h
   |true=>
    rw [hk]at h;cases hs:stepT (denote tb) p w s t with
    |none=>rw [hs]at h;cases h
    |some r=>obtain⟨s₂,t₂⟩:=r;rw [hs]at h;rw [stepT_spec hs];exact ZcC h
theorem left_of {p q:Program} {loose:List Str} {Xt:Shared->Bool} {α:Type} {Yf:Shared->α} {Ya:World->α} {N:Nat}
 (e:opening p=plainProg p.main.scope.names) (hN:Nat.ble 600 N=true) (f:∀s,fenceModules? p s=some s)
 (run:∀w:World,(λos=>(Zjg through (stepOk 11 (some (.ref 6))) (stepT (denote treeTable) p w) N (S0T w os) (topStub p)).map λs=>((staticsOk (importedModules p.main.body) (boot_heap w.params) s.abs.heap&&namesBound p s.abs.heap&&gensDone s.abs&&laidKept (boot_heap w.params) s.abs.heap),
   openSeen q loose (importedModules p.main.body) Xt true s.abs,Yf s.abs))=λ_=>some (true,openGood q loose,Ya w)):LeftO p q loose Xt Yf Ya N:=λw=>by
 obtain⟨⟨h,gs,d,k,os⟩,e,e'⟩:=Option.map_eq_some_iff.mp (boot_open e hN f w);obtain⟨rfl,rfl,rfl,rfl⟩:h=boot_heap w.params/\gs=Array.mk []/\d=boot_drawn/\k=boot_toks:=by simpa using e'
 obtain⟨s1,r,l⟩:=Option.map_eq_some_iff.mp (congrFun (run w) os);obtain⟨l1,l2,l3⟩:_/\_/\_:=by simpa only [Prod.mk.injEq]using l
 have r:=ZcC r;rw [Zlt]at r;have z1:((boot_heap w.params).isNs mainGlobals&&(Array.mk []:Array GenState).size == 0)=true:=by kernel_rfl
 have z2:(boot_heap w.params).objs.size=11:=rfl;have z3:(boot_heap w.params).nsMap mainGlobals "__annotations__" = some (.ref 6):=by kernel_rfl
 have t:topFrom treeTable p w N (S0 w os)=some s1.abs:=by
  unfold topFrom;dsimp only;rw [z1,z2,z3,r];show(match staticsOk (importedModules p.main.body) (boot_heap w.params) s1.abs.heap&&namesBound p s1.abs.heap&&gensDone s1.abs&&laidKept (boot_heap w.params) s1.abs.heap with|true=>_|false=>_)=_;rw [l1]
 unfold openEnds;rw [e];show(topFrom treeTable p w N _).map _=_;rw [t];exact congrArg some (Prod.ext l2 l3)
end HT
namespace DL
open PySem PySem.Spec L2
theorem ZZ(i j:Int):eqD (.int i) (.int j)=some (.bl (decide (i=j))):=by
 show(if(ZC (.int i)&&ZC (.int j)&&Vp (V.int i) (V.int j))=true then some (D.bl (decide (V.int i=V.int j)))else _)=_;rw [if_pos (by rfl)];simp
theorem Yk(a b:List Nat):eqD (.str a) (.str b)=some (.bl (decide (a=b))):=by
 show(if(ZC (.str a)&&ZC (.str b)&&Vp (S a) (S b))=true then some (D.bl (decide (S a=S b)))else _)=_;rw [if_pos (by rfl)];simp only [ZjJ]
theorem YD(a b:Bool):eqD (.bl a) (.bl b)=some (.bl (decide (a=b))):=by
 show(if(ZC (.bl a)&&ZC (.bl b)&&Vp (V.bl a) (V.bl b))=true then some (D.bl (decide (V.bl a=V.bl b)))else _)=_;rw [if_pos (by rfl)];simp
theorem Yt:eqD .non .non=some (.bl true):=rfl
theorem Yu(i:Int):eqD .non (.int i)=some (.bl false):=by
 show(if(ZC .non&&ZC (.int i)&&Vp V.non (V.int i))=true then some (D.bl (decide (V.non=V.int i)))else _)=_;rw [if_pos (by rfl)];simp
theorem Yv(i:Int):eqD (.int i) .non=some (.bl false):=by
 show(if(ZC (.int i)&&ZC .non&&Vp (V.int i) V.non)=true then some (D.bl (decide (V.int i=V.non)))else _)=_;rw [if_pos (by rfl)];simp
theorem Yw(i j:Int):neD (.int i) (.int j)=some (.bl (!decide (i=j))):=by unfold neD;rw [ZZ]
theorem Yx(i j:List Nat):neD (.str i) (.str j)=some (.bl (!decide (i=j))):=by unfold neD;rw [Yk]
theorem YE:neD .non .non=some (.bl false):=by unfold neD;rw [Yt];rfl
theorem YF(i:Int):neD .non (.int i)=some (.bl true):=by unfold neD;rw [Yu];rfl
theorem YG(i:Int):neD (.int i) .non=some (.bl true):=by unfold neD;rw [Yv];rfl
theorem J9{α:Type}{xs:List α}{i:Int}(h0:0<=i)(h1:i<xs.length):∃x,atI xs i=some x/\xs[i.toNat]? = some x:=by
 have hj:i.toNat<xs.length:=by omega
 refine⟨xs[i.toNat],?_,by simp [hj]⟩;have:=JE (xs:=xs) (j:=i.toNat) (v:=xs[i.toNat]) (by simp [hj])
 rwa [Int.toNat_of_nonneg h0]at this
theorem Zan{γ:D->Env->Option Env}{ε:Env->Option D}{δ0:Env}(f:D->D):∀(xs:List D),(∀x∈xs,∃δ1,γ x δ0=some δ1/\ε δ1=some (f x))->YZ γ (λ_=>some true) ε δ0 xs=some (xs.map f)
 | [],_=>rfl
 |x::xs,h=>by
  obtain⟨δ1,h1,h2⟩:=h x List.mem_cons_self;have ih:=Zan f xs λy hy=>h y (List.mem_cons_of_mem _ hy)
  unfold YZ;rw [h1];dsimp only;rw [h2,ih];rfl
theorem Zaz{γ:D->Env->Option Env}{τ:Env->Option Bool}{ε:Env->Option D}{δ0:Env}(p:D->Bool)(f:D->D):∀(xs:List D),(∀x∈xs,∃δ1,γ x δ0=some δ1/\τ δ1=some (p x)/\(p x=true->ε δ1=some (f x)))->YZ γ τ ε δ0 xs=some ((xs.filter p).map f)
 | [],_=>rfl
 |x::xs,h=>by
  obtain⟨δ1,h1,h2,h3⟩:=h x List.mem_cons_self;have ih:=Zaz p f xs λy hy=>h y (List.mem_cons_of_mem _ hy)
  unfold YZ;rw [h1];dsimp only;rw [h2];cases hp:p x with
  |false=>rw [List.filter_cons_of_neg (by simp [hp])];exact ih
  |true=>
   rw [List.filter_cons_of_pos hp];dsimp only;rw [h3 hp,ih];rfl
theorem Zfk{lo c:Int}{n i:Nat}{x:D}(h:(YT lo c n)[i]? = some x):i<n/\x = .int (lo+(i:Nat)*c):=by
 have hi:i<n:=by have:=(List.getElem?_eq_some_iff.mp h).1;simpa [YT]using this
 unfold YT at h;rw [List.getElem?_map,List.getElem?_range hi]at h;exact⟨hi,(Option.some.inj h).symm⟩
theorem Zbh{lo c:Int}{n:Nat}{x:D}(h:x∈YT lo c n):∃i:Nat,i<n/\x = .int (lo+(i:Nat)*c):=by
 obtain⟨i,hi⟩:=List.getElem?_of_mem h;exact⟨i,Zfk hi⟩
end DL
namespace DL
open PySem PySem.Spec L2
theorem ZbG{α:Type}(g:α->Nat):∀xs:List α,strs? (xs.map λx=>D.str [g x])=some (xs.map λx=>[g x])
 | []=>rfl
 |x::xs=>by rw [List.map_cons,strs?,ZbG g xs,List.map_cons]
theorem ZaJ{α:Type}(g:α->Nat)(xs:List α)(h:xs.length<=sizeLine):joinD [] [.lst (xs.map λx=>D.str [g x])]=some (.str (xs.map g)):=by
 unfold joinD;dsimp only;rw [ZbG];dsimp only
 have e1:((xs.map λx=>[g x]).map List.length).sum=xs.length:=by
  clear h
  induction xs with
  |nil=>rfl
  |cons x xs ih=>
   rw [List.map_cons,List.map_cons,List.sum_cons,ih];simp;omega
 rw [if_pos (by rw [e1];simpa using h),Zbx]
 congr 2
 clear h e1
 induction xs with
 |nil=>rfl
 |cons x xs ih=>rw [List.map_cons,List.flatten_cons,ih];rfl
end DL
namespace DL
open PySem PySem.Spec L2
theorem Zfl{i j:Int}(h:CMul i j):mulD (.int i) (.int j)=some (.int (i*j)):=if_pos h
theorem ZcD{i j:Int}(h:0<j):modD (.int i) (.int j)=some (.int (i % j)):=if_pos h
theorem ZaK{i j:Int}(h:Z1 i j):fdivD (.int i) (.int j)=some (.int (i / j)):=if_pos h
theorem Za5{cs:List Nat}{i:Int}{c:Nat}(h:cs.length<=sizeLine)(hz:atI cs i=some c):ixD (.str cs) (.int i)=some (.str [c]):=by
 show(if cs.length<=sizeLine then(atI cs i).map λc=>D.str [c]else none)=_;rw [if_pos h,hz];rfl
theorem Zc0{i j:Int}(h1:0<=i)(h2:i<1000):CMul i j := .inl ⟨by omega,by omega⟩
theorem Zat{i j:Int}(h1:0<j)(h2:j<1000000):Z1 i j:=⟨h1,by omega⟩
end DL
namespace DL
open PySem PySem.Spec L2
theorem ZE{a b:Env->Option Out}{δ δ':Env}(h:a δ=some (.nx δ')):Zq a b δ=b δ':=by
 unfold Zq;rw [h]
theorem ZfU{a b:Env->Option Out}{δ:Env}{d:D}(h:a δ=some (.rt d)):Zq a b δ=some (.rt d):=by
 unfold Zq;rw [h]
theorem Zm{i:Nat}{e:Env->Option D}{δ:Env}{d:D}(h:e δ=some d):Zn i e δ=some (.nx (δ.set i (some d))):=by
 unfold Zn;rw [h]
theorem XR{e:Env->Option D}{δ:Env}{d:D}(h:e δ=some d):Zy e δ=some (.rt d):=by
 unfold Zy;rw [h]
theorem Q6{t:Env->Option Bool}{a b:Env->Option Out}{δ:Env}(h:t δ=some true):sIf t a b δ=a δ:=by
 unfold sIf;rw [h]
theorem Vk{t:Env->Option Bool}{a b:Env->Option Out}{δ:Env}(h:t δ=some false):sIf t a b δ=b δ:=by
 unfold sIf;rw [h]
theorem Y8{e:Env->Option D}{δ:Env}{b:Bool}(h:e δ=some (.bl b)):xB e δ=some b:=by
 unfold xB;rw [h];rfl
theorem Qw{t:Env->Option Bool}{δ:Env}{b:Bool}(h:t δ=some b):ZN t δ=some (!b):=by
 unfold ZN;rw [h]
theorem ZfV{a b:Env->Option Bool}{δ:Env}{x:Bool}(h1:a δ=some false)(h2:b δ=some x):xOr a b δ=some x:=by
 unfold xOr;rw [h1];exact h2
theorem Zfm{a b:Env->Option Bool}{δ:Env}{x:Bool}(h1:a δ=some true)(h2:b δ=some x):Z3 a b δ=some x:=by
 unfold Z3;rw [h1];exact h2
theorem ZgR{a b:Env->Option Bool}{δ:Env}(h1:a δ=some false):Z3 a b δ=some false:=by
 unfold Z3;rw [h1]
theorem YY{n:Nat}{m:List D->Option D}{α:Env->Option (List D)}{δ:Env}{ds:List D}(h:α δ=some ds)(hn:ds.length=n):Zs n m [] α δ=m ds:=by
 unfold Zs;rw [h];dsimp only;rw [List.append_nil,if_pos hn]
theorem Zg{a:Env->Option D}{b:Env->Option (List D)}{δ:Env}{x:D}{xs:List D}(h1:a δ=some x)(h2:b δ=some xs):Zb a b δ=some (x::xs):=by
 unfold Zb;rw [h1,h2]
theorem ZA{f:D->D->Option D}{a b:Env->Option D}{δ:Env}{x y:D}(h1:a δ=some x)(h2:b δ=some y):eOp f a b δ=f x y:=by
 unfold eOp;rw [h1,h2]
theorem Zb3{a b:Env->Option D}{δ:Env}{x:D}(h1:a δ=some (.bl true))(h2:b δ=some x):ZP a b δ=some x:=by
 unfold ZP;rw [h1];exact h2
theorem Zig{α:Env->Option (List D)}{δ:Env}{ds:List D}(h:α δ=some ds)(hl:ds.length<=1000):Z8 α δ=(some (.tup ds):Option D):=by
 unfold Z8;rw [h];exact if_pos (Nat.le_trans hl (by decide))
theorem Yl{α:Env->Option (List D)}{δ:Env}{ds:List D}(h:α δ=some ds)(hl:ds.length<=1000):Zp α δ=(some (.lst ds):Option D):=by
 unfold Zp;rw [h];exact if_pos (Nat.le_trans hl (by decide))
theorem ZaL{γ:D->Env->Option Env}{φ:Env->Option Out}(I:Env->Prop):∀(xs:List D)(δ:Env),I δ ->
 (∀x∈xs,∀δ,I δ->∃δ1,γ x δ=some δ1/\∃δ2,φ δ1=some (.nx δ2)/\I δ2)->∃δ',Vr γ φ xs δ=some (.nx δ')/\I δ'
 | [],δ,h,_=>⟨δ,rfl,h⟩
 |x::xs,δ,h,step=>by
  obtain⟨δ1,h1,δ2,h2,h3⟩:=step x List.mem_cons_self δ h;obtain⟨δ',h4,h5⟩:=ZaL I xs δ2 h3 λy hy=>step y (List.mem_cons_of_mem _ hy)
  refine⟨δ',?_,h5⟩;unfold Vr;rw [h1];dsimp only;rw [h2];exact h4
theorem ZgS{i j:Int}(h:Ux i j):powW (.int i) (.int j)=some (.int (i ^ j.toNat)):=if_pos h
end DL
namespace DL
open PySem PySem.Spec L2
theorem Qx{α:Env->Option (List D)}{δ:Env}{j:Int}(h:α δ=some [.int j])(h1 : -1000000<=j)(h2:j<=1000000):YQ α δ=some (YT 0 1 j.toNat):=by
 unfold YQ;rw [h];dsimp only;rw [if_pos ⟨by omega,by omega⟩]
theorem Zdg{ι:Env->Option (List D)}{γ:D->Env->Option Env}{φ:Env->Option Out}{δ:Env}{xs:List D}{o:Out}(h1:ι δ=some xs)(h2:Vr γ φ xs δ=some o):UG ι γ φ δ=some o:=by
 unfold UG;rw [h1];exact h2
theorem Vl{ι:Env->Option (List D)}{γ:D->Env->Option Env}{τ:Env->Option Bool}{ε:Env->Option D}{n:Nat}{js:List Nat}{δ δ0:Env}{xs ys:List D}(h1:ι δ=some xs)(hb:X8 n δ js=δ0)(h2:YZ γ τ ε δ0 xs=some ys)(hl:ys.length<=1000000):YN ι γ τ ε n js δ=some (.lst ys):=by
 unfold YN;rw [h1];dsimp only;rw [hb,h2];dsimp only;rw [if_pos (by rw [PySem.sizeLine_eq];omega)]
theorem Zht{f:List Nat->List D->Option D}{a:Env->Option D}{α:Env->Option (List D)}{δ:Env}{s:List Nat}{ds:List D}(h1:a δ=some (.str s))(h2:α δ=some ds):eBM f a α δ=f s ds:=by
 unfold eBM;rw [h1,h2]
theorem Y9{f:List D->Option D}{α:Env->Option (List D)}{δ:Env}{ds:List D}(h:α δ=some ds):eCB f α δ=f ds:=by
 unfold eCB;rw [h]
theorem XH{n:Nat}{f:Env->Option Out}{vs:List D}{δ:Env}{d:D}(h1:(vs.map some++List.replicate (n-vs.length) none)=δ)(h2:f δ=some (.rt d)):DL.run n f vs=some d:=by
 unfold DL.run;rw [h1,h2]
theorem nil_of{δ:Env}:eNil δ=some []:=rfl
theorem ZfW{t:List (String×Bool)}{a:Env->Option D}{δ:Env}{d:D}{b:Bool}(h1:a δ=some d)(h2:Yd t d=some b):ZS t a δ=some (.bl b):=by
 unfold ZS;rw [h1];dsimp only;rw [h2]
end DL
namespace DL
open PySem PySem.Spec L2
theorem Zfn{x:D}(hs:ZC x=false)(h:SeqAt.shaped (toP x)=true):eqD x x=some (.bl true):=by
 unfold eqD;rw [if_neg (by simp [hs]),h,if_pos (by rfl)];rw [SeqAt.eqv_refl _ (SeqAt.canLay_of_shaped h)]
theorem Zfo{x:D}(hs:ZC x=false)(h:SeqAt.shaped (toP x)=true):neD x x=some (.bl false):=by
 unfold neD;rw [Zfn hs h];rfl
end DL
namespace DL
open PySem PySem.Spec L2
theorem ZgT{a b:List D}(h:a.length+b.length<=100000):Zjf (.lst a) (.lst b)=some (.lst (a++b)):=by
 show(if a.length+b.length<=PySem.sizeLine then some (D.lst (a++b))else none)=_;rw [if_pos (by rw [PySem.sizeLine_eq];omega)]
theorem ZgU{n a:Nat}(h:a<n):ixN n (a:Int)=some a:=by
 unfold ixN;rw [if_pos (by omega),if_pos (by omega),Int.toNat_natCast]
theorem Zgf{xs:List D}{a:Nat}{x:D}(h:xs[a]? = some x):ixD (.lst xs) (.int (a:Int))=some x:=JE h
theorem ix_str{cs:List Nat}{a:Nat}{c:Nat}(h:cs[a]? = some c)(hl:cs.length<=100000):ixD (.str cs) (.int (a:Int))=some (.str [c]):=Za5 (by rw [PySem.sizeLine_eq];omega) (JE h)
theorem ZgV{cs:List Int}{a:Nat}(h:a<cs.length):ixD (.lst (cs.map D.int)) (.int (a:Int))=some (.int (cs.getD a 0)):=by
 refine Zgf ?_;rw [List.getElem?_map,List.getElem?_eq_getElem h,List.getD_eq_getElem?_getD,List.getElem?_eq_getElem h];rfl
theorem Zih{i:Int}(h:0<=i):∃a:Nat,i=(a:Int):=⟨i.toNat,(Int.toNat_of_nonneg h).symm⟩
theorem Zb4(i:Int){m:Nat}(h:0<m):∃a:Nat,i % (m:Int)=(a:Int)/\a<m:=by
 obtain⟨a,ha⟩:=Zih (Int.emod_nonneg i (show(m:Int)≠0 by omega));exact⟨a,ha,by have:=Int.emod_lt_of_pos i (b:=(m:Int)) (by omega);omega⟩
theorem len_str{cs:List Nat}(h:cs.length<=100000):lenD [.str cs]=some (.int (cs.length:Int)):=if_pos (by rw [PySem.sizeLine_eq];omega)
end DL
namespace K05
open PySem PySem.Spec L2 DL
def cs_MARK_SIGNS:List Nat:=[97,98,99,100,101,102,103,104,105,106,107,108,109,110,111,112,113,114,115,116,117,118,119,120,121,122,48,49,50,51,52,53,54,55,56,57]
def ZeA:List String:=["Turn"]
def ZaD:List String:=["Turn"]
def Za6:List String:=["Sum"]
def UU:List String:=["Gap"]
def Zcd:List String:=["Sum"]
def Uk:List String:=["Gap", "Turn"]
def fc_marks:List String:=["Rule", "Gap", "Never", "Sum", "Turn", "Alike", "All"]
def Ul:List String:=["Gap", "Alike"]
def Q7:List String:=["All"]
def Za7:List String:=["Never"]
def Zao:List String:=["Sum"]
def Q8:List (String×Bool):=[("NoneType",false),("bool",false),("int",false),("str",false),("list",false),("tuple",false),("Rule",false),("Gap",false),("Never",false),("Sum",false),("Turn",false),("Alike",false),("All",true)]
def Q9:List (String×Bool):=[("NoneType",false),("bool",false),("int",false),("str",false),("list",false),("tuple",false),("Rule",true),("Gap",true),("Never",true),("Sum",true),("Turn",true),("Alike",true),("All",true)]
def Za8:List (String×Bool):=[("NoneType",false),("bool",true),("int",false),("str",false),("list",false),("tuple",false),("Rule",false),("Gap",false),("Never",false),("Sum",false),("Turn",false),("Alike",false),("All",false)]
def Zce:List (String×Bool):=[("NoneType",false),("bool",true),("int",true),("str",false),("list",false),("tuple",false),("Rule",false),("Gap",false),("Never",false),("Sum",false),("Turn",false),("Alike",false),("All",false)]
def exN:List String:=["BadMarks", "BadRule", "BadMark", "TooLarge", "Nothing", "NoRow", "BadSign", "Unread", "BadRow", "BadTable"]
def ix_GrooveError:List (String×Bool):=exN.zip [true,true,true,true,true,true,true,true,true,true]
def ix_ValueError:List (String×Bool):=exN.zip [true,true,true,true,true,true,true,true,true,true]
def ix_BadRule:List (String×Bool):=exN.zip [false,true,false,false,false,false,false,false,false,false]
def ix_BadMark:List (String×Bool):=exN.zip [false,false,true,false,false,false,false,false,false,false]
def ix_BadMarks:List (String×Bool):=exN.zip [true,false,false,false,false,false,false,false,false,false]
def ix_TooLarge:List (String×Bool):=exN.zip [false,false,false,true,false,false,false,false,false,false]
def ix_Nothing:List (String×Bool):=exN.zip [false,false,false,false,true,false,false,false,false,false]
def ix_NoRow:List (String×Bool):=exN.zip [false,false,false,false,false,true,false,false,false,false]
def ix_BadSign:List (String×Bool):=exN.zip [false,false,false,false,false,false,true,false,false,false]
def ix_Unread:List (String×Bool):=exN.zip [false,false,false,false,false,false,false,true,false,false]
def ix_BadRow:List (String×Bool):=exN.zip [false,false,false,false,false,false,false,false,true,false]
def ix_BadTable:List (String×Bool):=exN.zip [false,false,false,false,false,false,false,false,false,true]
noncomputable def Qy:DL.Env->Option Out:=
 (Zq (sIf (xOr (xB (eOp (ZG λi j=>decide (i<j)) (eCB lenD (Zb (Za 0) eNil)) (eC (.int 2)))) (xB (eOp (ZG λi j=>decide (j<i)) (eCB lenD (Zb (Za 0) eNil)) (eC (.int 4))))) (Zy (eC (.bl false))) sNext)
 (Zy (eCB (VQ λbs=>bs.all id) (Zb (YN (XX (Za 0)) (ZR 0) (λ_=>some true) (ZP (eOp (inD false) (Za 0) (eC (.str cs_MARK_SIGNS))) (eOp eqD (eBM countD (Za 1) (Zb (Za 0) eNil)) (eC (.int 1)))) 1 [0]) eNil))))
noncomputable def Um:List D->Option D:=run 1 Qy
noncomputable def Qz:DL.Env->Option Out:=
 (Zy (ZP (eOp eqD (eCB lenD (Zb (Za 1) eNil)) (eC (.int 1))) (eOp (inD false) (Za 1) (Za 0))))
noncomputable def VZ:List D->Option D:=run 2 Qz
noncomputable def Ziu:DL.Env->Option Out:=
 (Zq (sIf (xOr (xB (ZS Za8 (Za 0))) (ZN (xB (ZS Zce (Za 0))))) (Zy (eC (.bl false))) sNext)
 (Zy (Yb (ZG λi j=>decide (i<=j)) (ZG λi j=>decide (i<=j)) (Za 1) (Za 0) (Za 2))))
noncomputable def X2:List D->Option D:=run 3 Ziu
noncomputable def Zjh:DL.Env->Option RO:=
 (rIf (ZN (xB (Za 0))) (Qu "BadRule" (Zb (Za 1) eNil)) (rOf sNext))
noncomputable def ZaE:List D->Option RD:=Xq 2 Zjh
theorem Xy:∀w,ZaE [.bl true,.str w]=some (.ok .non):=λ_=>rfl
theorem Xz:∀w,ZaE [.bl false,.str w]=some (.error "BadRule"):=λ_=>rfl
noncomputable def Zji:DL.Env->Option RO:=
 (Zw (rIf (ZN (xB (Zs 1 Um [] (Zb (Za 1) eNil)))) (Qu "BadMarks" (Zb (QZ [(eC (.str [109,97,114,107,115,32,97,114,101,32,50,32,116,111,32,52,32,117,110,108,105,107,101,32,115,109,97,108,108,32,108,101,116,116,101,114,115,32,111,114,32,102,105,103,117,114,101,115,44,32,110,111,116,32])),(QY QX (Za 1))]) eNil)) (rOf sNext))
 (rOf (ZM 0 fc_marks "marks" (Za 1))))
noncomputable def Z2:List D->Option RD:=YK 2 Zji
noncomputable def Zjj:DL.Env->Option Out:=
 (Zy (eC (.int 0)))
noncomputable def Vt:List D->Option D:=run 1 Zjj
noncomputable def Zjk:DL.Env->Option Out:=
 (Zy (ZY UU "least" (Za 0)))
noncomputable def Ziv:List D->Option D:=run 1 Zjk
noncomputable def Zjl:DL.Env->Option Out:=
 (Zy (Z8 (Zb (eC (.int 0)) (Zb (eC (.int 0)) eNil))))
noncomputable def Ziw:List D->Option D:=run 1 Zjl
noncomputable def Zaj:MTab:=[("Rule",1,Vt),("Gap",1,Ziv),("Never",1,Vt),("Sum",1,Vt),("Turn",1,Vt),("Alike",1,Ziw)]
noncomputable def Zjm:DL.Env->Option Out:=
 (Zy (eCB Vh (Zb (YN (XX (ZY Q7 "rules" (Za 0))) (ZR 0) (λ_=>some true) (ZQ "begin" Zaj (Za 0) eNil) 1 []) eNil)))
noncomputable def Zix:List D->Option D:=run 1 Zjm
noncomputable def ZaM:MTab:=[("Rule",1,Vt),("Gap",1,Ziv),("Never",1,Vt),("Sum",1,Vt),("Turn",1,Vt),("Alike",1,Ziw),("All",1,Zix)]
noncomputable def Zjn:DL.Env->Option Out:=
 (Zq (Zn 2 (ZQ "begin" ZaM (Za 0) eNil))
 (Zq (UG (Zf9 0 (Za 1)) (Zf7 2 (Zdc 3 (Zdc 4 gsNil))) sNever)
 (Zy (eC .non))))
noncomputable def V0:List D->Option D:=run 5 Zjn
noncomputable def Zaf:MTab:=[("Rule",2,V0),("Gap",2,V0),("Never",2,V0),("Sum",2,V0),("Turn",2,V0),("Alike",2,V0),("All",2,V0)]
noncomputable def Zjo:DL.Env->Option Out:=
 (Zy (Z6 (ZQ "broken_at" Zaf (Za 0) (Zb (Za 1) eNil))))
noncomputable def Vm:List D->Option D:=run 2 Zjo
noncomputable def f_QZ:DL.Env->Option RO:=
 (Zw (YW 0 2 Z2 [] (Zb (Za 1) eNil))
 (Zw (Yj (Zs 2 VZ [] (Zb (Za 1) (Zb (Za 2) eNil))))
 (Zw (Yj (Zs 3 X2 [] (Zb (Za 3) (Zb (eC (.int 0)) (Zb (eC (.int 8)) eNil)))))
 (Zw (Yj (eOr (Z6 (Za 4)) (Zs 3 X2 [] (Zb (Za 4) (Zb (Za 3) (Zb (eC (.int 8)) eNil))))))
 (rOf (Zq (ZM 0 Uk "mark" (Za 2))
 (Zq (ZM 0 UU "least" (Za 3))
 (ZM 0 Ul "most" (Za 4)))))))))
noncomputable def Xm:List D->Option RD:=YK 5 f_QZ
noncomputable def Zjp:DL.Env->Option RO:=
 (Zw (YW 0 2 Z2 [] (Zb (Za 1) eNil))
 (Zw (Yj (Yb (ZG λi j=>decide (i<=j)) (ZG λi j=>decide (i<=j)) (eC (.int 1)) (eCB lenD (Zb (Za 2) eNil)) (eC (.int 6))))
 (Zw (Yj (eCB (VQ λbs=>bs.all id) (Zb (YN (XX (Za 2)) (ZR 0) (λ_=>some true) (Zs 2 VZ [] (Zb (Za 1) (Zb (Za 0) eNil))) 1 [1]) eNil)))
 (rOf (ZM 0 Za7 "word" (Za 2))))))
noncomputable def Uo:List D->Option RD:=YK 3 Zjp
noncomputable def Zjq:DL.Env->Option RO:=
 (Zw (YW 0 2 Z2 [] (Zb (Za 1) eNil))
 (Zw (Yj (eOp eqD (eCB lenD (Zb (Za 2) eNil)) (eCB lenD (Zb (Za 1) eNil))))
 (Zw (Yj (eCB (VQ λbs=>bs.all id) (Zb (YN (XX (Za 2)) (ZR 0) (λ_=>some true) (Zs 3 X2 [] (Zb (Za 0) (Zb (eUn ZX (eC (.int 3))) (Zb (eC (.int 3)) eNil)))) 1 []) eNil)))
 (Zw (Yj (Zs 3 X2 [] (Zb (Za 3) (Zb (eUn ZX (eC (.int 8))) (Zb (eC (.int 0)) eNil)))))
 (Zw (Yj (Zs 3 X2 [] (Zb (Za 4) (Zb (eC (.int 0)) (Zb (eC (.int 8)) eNil)))))
 (rOf (Zq (ZM 0 Zao "worths" (eCB Vh (Zb (Za 2) eNil)))
 (Zq (ZM 0 Zcd "low" (Za 3))
 (ZM 0 Za6 "high" (Za 4))))))))))
noncomputable def Up:List D->Option RD:=YK 5 Zjq
noncomputable def UV:DL.Env->Option RO:=
 (Zw (YW 0 2 Z2 [] (Zb (Za 1) eNil))
 (Zw (Yj (Zs 2 VZ [] (Zb (Za 1) (Zb (Za 2) eNil))))
 (Zw (Yj (Zs 3 X2 [] (Zb (Za 3) (Zb (eC (.int 1)) (Zb (eC (.int 6)) eNil)))))
 (Zw (Yj (Zs 3 X2 [] (Zb (Za 4) (Zb (eC (.int 0)) (Zb (eOp subD (Za 3) (eC (.int 1))) eNil)))))
 (rOf (Zq (ZM 0 Uk "mark" (Za 2))
 (Zq (ZM 0 ZaD "every" (Za 3))
 (ZM 0 ZeA "at" (Za 4)))))))))
noncomputable def Vc:List D->Option RD:=YK 5 UV
noncomputable def Ja:DL.Env->Option RO:=
 (Zw (YW 0 2 Z2 [] (Zb (Za 1) eNil))
 (Zw (Yj (Zs 3 X2 [] (Zb (Za 2) (Zb (eC (.int 1)) (Zb (eC (.int 6)) eNil)))))
 (rOf (ZM 0 Ul "most" (Za 2)))))
noncomputable def XI:List D->Option RD:=YK 3 Ja
noncomputable def Zjr:DL.Env->Option RO:=
 (Zw (YW 0 2 Z2 [] (Zb (Za 1) eNil))
 (Zw (Yj (eOp (ZG λi j=>decide (i<=j)) (eCB lenD (Zb (Za 2) eNil)) (eC (.int 6))))
 (Zw (Yj (Z7 (eCB (VQ λbs=>bs.any id) (Zb (YN (XX (Za 2)) (ZR 0) (λ_=>some true) (ZS Q8 (Za 0)) 1 []) eNil))))
 (Zw (Yj (eCB (VQ λbs=>bs.all id) (Zb (YN (XX (Za 2)) (ZR 0) (λ_=>some true) (eOp eqD (ZY fc_marks "marks" (Za 0)) (Za 1)) 1 [1]) eNil)))
 (rOf (ZM 0 Q7 "rules" (eCB Vh (Zb (Za 2) eNil))))))))
noncomputable def Vn:List D->Option RD:=YK 3 Zjr
noncomputable def Jb:DL.Env->Option Out:=
 (Zq (sIf (xB (eOp (ZG λi j=>decide (i<j)) (Za 1) (eCB lenD (Zb (Za 0) eNil)))) (Zy (eOp ixD (Za 0) (Za 1))) sNext)
 (Zy (eC (.int 0))))
noncomputable def Uq:List D->Option D:=run 2 Jb
noncomputable def Ziy:DL.Env->Option Out:=
 (Zq (Zn 1 (eC (.str [97,98,99,100,101,102,103,104,105,106,107,108,109,110,111,112,113,114,115,116,117,118,119,120,121,122,48,49,50,51,52,53,54,55,56,57])))
 (Zq (Zn 2 (eOp addD (eC (.int 1)) (eOp modD (eOp fdivD (Za 0) (eC (.int 36))) (eC (.int 11)))))
 (Zy (eBM joinD (eC (.str [])) (Zb (YN (YQ (Zb (eOp addD (eC (.int 2)) (eOp modD (eOp fdivD (Za 0) (eC (.int 396))) (eC (.int 3)))) eNil)) (ZR 0) (λ_=>some true) (eOp ixD (Za 1) (eOp modD (eOp addD (Za 2) (eOp mulD (Za 0) (Za 3))) (eC (.int 36)))) 1 [1,0,2]) eNil)))))
noncomputable def Ur:List D->Option D:=run 3 Ziy
noncomputable def Zjs:DL.Env->Option Out:=
 (Zq (Zn 1 (Zs 1 Ur [] (Zb (eOp fdivD (Za 0) (eC (.int 7))) eNil)))
 (Zq (Zn 2 (Zp (Zb (eC (.str [])) (Zb (eSl (Za 1) xNoP (xP (eC (.int 1)))) (Zb (eC (.str [97,98,99,100,101])) (Zb (eOp addD (Za 1) (eSl (Za 1) xNoP (xP (eC (.int 1))))) (Zb (eC (.str [97,66])) (Zb (eC (.str [97,32,98])) (Zb (eC (.str [97,95])) (Zb (eOp addD (eOp ixD (Za 1) (eC (.int 0))) (eOp ixD (Za 1) (eC (.int 0)))) (Zb (eC (.str [48,45])) (Zb (eC (.str [97,98,10])) eNil))))))))))))
 (Zq (Zn 2 (eOp Vj (Za 2) (Zp (Zb (eC (.str [65,49])) eNil))))
 (Zy (eOp ixD (Za 2) (eOp modD (Za 0) (eCB lenD (Zb (Za 2) eNil))))))))
noncomputable def Ziz:List D->Option D:=run 3 Zjs
noncomputable def Zjt:DL.Env->Option Out:=
 (Zq (Zn 3 (eOp ixD (Zp (Zb (eC (.int 1)) (Zb (eC (.int 2)) (Zb (eOp powW (eC (.int 10)) (eC (.int 9))) eNil)))) (eOp modD (eOp fdivD (Za 0) (eC (.int 2))) (eC (.int 3)))))
 (Zq (sIf (xB (eOp eqD (eOp modD (Za 0) (eC (.int 2))) (eC (.int 0)))) (Zy (eOp subD (Za 1) (Za 3))) sNext)
 (Zy (eOp addD (Za 2) (Za 3)))))
noncomputable def Vd:List D->Option D:=run 4 Zjt
noncomputable def Zju:DL.Env->Option Out:=
 (Zq (Zn 2 (eC (.str [45,65,32,95,10,33,126,90,91,123])))
 (Zq (Zn 3 (YN (XX (eC (.str [97,98,99,100,101,102,103,104,105,106,107,108,109,110,111,112,113,114,115,116,117,118,119,120,121,122,48,49,50,51,52,53,54,55,56,57]))) (ZR 0) (xB (eOp (inD true) (Za 0) (Za 1))) (Za 0) 1 [0]))
 (Zq (sIf (xB (eOp eqD (eOp modD (Za 1) (eC (.int 3))) (eC (.int 0)))) (Zy (eOp ixD (Za 2) (eOp modD (eOp fdivD (Za 1) (eC (.int 3))) (eCB lenD (Zb (Za 2) eNil))))) sNext)
 (Zy (eOp ixD (Za 3) (eOp modD (eOp fdivD (Za 1) (eC (.int 3))) (eCB lenD (Zb (Za 3) eNil))))))))
noncomputable def QA:List D->Option D:=run 4 Zju
noncomputable def Zjv:DL.Env->Option RO:=
 (Zw (rOf (Zn 4 (eOp ixD (Za 1) (eOp modD (eOp ixD (Za 2) (eC (.int 1))) (eCB lenD (Zb (Za 1) eNil))))))
 (Zw (rOf (Zn 5 (eOp modD (eOp ixD (Za 2) (eC (.int 2))) (eC (.int 9)))))
 (Zw (rOf (Zn 6 (eOp ixD (Zp (Zb (eC .non) (Zb (eOp addD (Za 5) (eOp modD (eOp ixD (Za 2) (eC (.int 3))) (eOp subD (eC (.int 9)) (Za 5)))) eNil))) (eOp modD (eOp ixD (Za 2) (eC (.int 3))) (eC (.int 2))))))
 (Zw (rOf (sIf (xB (eOp eqD (Za 3) (eC (.int 1)))) (Zq (Zn 7 (Zs 2 QA [] (Zb (Za 1) (Zb (eOp fdivD (eOp ixD (Za 2) (eC (.int 1))) (eC (.int 5))) eNil))))
 (Zn 4 (eOp ixD (Zp (Zb (eC (.str [])) (Zb (eSl (Za 1) xNoP (xP (eC (.int 2)))) (Zb (Za 7) (Zb (Za 7) (Zb (Za 7) eNil)))))) (eOp modD (eOp ixD (Za 2) (eC (.int 1))) (eC (.int 5)))))) sNext))
 (Zw (rOf (sIf (xB (eOp eqD (Za 3) (eC (.int 2)))) (Zn 5 (Zs 3 Vd [] (Zb (eOp ixD (Za 2) (eC (.int 2))) (Zb (eC (.int 0)) (Zb (eC (.int 8)) eNil))))) sNext))
 (Zw (rOf (sIf (xB (eOp eqD (Za 3) (eC (.int 3)))) (Zn 6 (eOp ixD (Zp (Zb (eC (.int 9)) (Zb (eOp addD (eC (.int 9)) (eOp modD (eOp ixD (Za 2) (eC (.int 3))) (eOp powW (eC (.int 10)) (eC (.int 9))))) (Zb (eOp subD (Za 5) (eC (.int 1))) (Zb (eOp subD (eUn ZX (eC (.int 1))) (eOp modD (eOp ixD (Za 2) (eC (.int 3))) (eC (.int 5)))) eNil))))) (eOp modD (eOp ixD (Za 2) (eC (.int 2))) (eC (.int 4))))) sNext))
 (YX (λds => .obj "Gap" [] []::(ds++[])) 5 Xm (Zb (Za 0) (Zb (Za 4) (Zb (Za 5) (Zb (Za 6) eNil)))))))))))
noncomputable def Jc:List D->Option RD:=Xq 8 Zjv
noncomputable def Zjw:DL.Env->Option RO:=
 (Zw (rOf (Zn 4 (eBM joinD (eC (.str [])) (Zb (YN (YQ (Zb (eOp addD (eC (.int 1)) (eOp modD (eOp ixD (Za 2) (eC (.int 2))) (eC (.int 6)))) eNil)) (ZR 0) (λ_=>some true) (eOp ixD (Za 1) (eOp modD (eOp fdivD (eOp ixD (Za 2) (eC (.int 1))) (eOp ixD (Zp (Zb (eC (.int 1)) (Zb (eC (.int 2)) (Zb (eC (.int 5)) (Zb (eC (.int 9)) (Zb (eC (.int 14)) (Zb (eC (.int 22)) eNil))))))) (Za 0))) (eCB lenD (Zb (Za 1) eNil)))) 1 [1,2]) eNil))))
 (Zw (rOf (sIf (xB (eOp eqD (Za 3) (eC (.int 1)))) (Zn 4 (eOp ixD (Zp (Zb (eC (.str [])) (Zb (eOp mulD (eOp ixD (Za 1) (eC (.int 0))) (eC (.int 7))) (Zb (eOp mulD (eOp ixD (Za 1) (eC (.int 0))) (eC (.int 40))) eNil)))) (eOp modD (eOp ixD (Za 2) (eC (.int 2))) (eC (.int 3))))) sNext))
 (Zw (rOf (sIf (xB (eOp (ZG λi j=>decide (j<i)) (Za 3) (eC (.int 1)))) (Zq (Zn 5 (eOp modD (eOp ixD (Za 2) (eC (.int 3))) (eCB lenD (Zb (Za 4) eNil))))
 (Zn 4 (eOp addD (eOp addD (eSl (Za 4) xNoP (xP (Za 5))) (Zs 2 QA [] (Zb (Za 1) (Zb (eOp fdivD (eOp ixD (Za 2) (eC (.int 2))) (eC (.int 6))) eNil)))) (eSl (Za 4) (xP (eOp addD (Za 5) (eC (.int 1)))) xNoP)))) sNext))
 (YX (λds => .obj "Never" [] []::(ds++[])) 3 Uo (Zb (Za 0) (Zb (Za 4) eNil))))))
noncomputable def Jd:List D->Option RD:=Xq 6 Zjw
noncomputable def Zjx:DL.Env->Option RO:=
 (Zw (rOf (Zn 4 (YN (YQ (Zb (eCB lenD (Zb (Za 1) eNil)) eNil)) (ZR 0) (λ_=>some true) (eOp subD (eOp modD (eOp fdivD (eOp ixD (Za 1) (eC (.int 1))) (eOp ixD (Zp (Zb (eC (.int 1)) (Zb (eC (.int 7)) (Zb (eC (.int 49)) (Zb (eC (.int 343)) eNil))))) (Za 0))) (eC (.int 7))) (eC (.int 3))) 1 [2])))
 (Zw (rOf (Zn 5 (eUn ZX (eOp modD (eOp ixD (Za 2) (eC (.int 2))) (eC (.int 9))))))
 (Zw (rOf (Zn 6 (eOp modD (eOp ixD (Za 2) (eC (.int 3))) (eC (.int 9)))))
 (Zw (rOf (sIf (xB (eOp eqD (Za 3) (eC (.int 1)))) (Zq (Zn 7 (eOp modD (eOp fdivD (eOp ixD (Za 2) (eC (.int 3))) (eC (.int 9))) (eCB lenD (Zb (Za 4) eNil))))
 (Qp 4 (Za 7) (Zs 3 Vd [] (Zb (eOp ixD (Za 2) (eC (.int 2))) (Zb (eUn ZX (eC (.int 3))) (Zb (eC (.int 3)) eNil)))))) sNext))
 (Zw (rOf (sIf (xB (eOp eqD (Za 3) (eC (.int 2)))) (Zn 5 (Zs 3 Vd [] (Zb (eOp fdivD (eOp ixD (Za 2) (eC (.int 3))) (eC (.int 9))) (Zb (eUn ZX (eC (.int 8))) (Zb (eC (.int 0)) eNil))))) sNext))
 (Zw (rOf (sIf (xB (eOp eqD (Za 3) (eC (.int 3)))) (Zn 6 (Zs 3 Vd [] (Zb (eOp fdivD (eOp ixD (Za 2) (eC (.int 2))) (eC (.int 9))) (Zb (eC (.int 0)) (Zb (eC (.int 8)) eNil))))) sNext))
 (Zw (rOf (sIf (xB (eOp eqD (Za 3) (eC (.int 4)))) (Zn 4 (eOp ixD (Zp (Zb (eOp Vj (Za 4) (Zp (Zb (eC (.int 0)) eNil))) (Zb (eSl (Za 4) (xP (eC (.int 1))) xNoP) (Zb (Zp eNil) eNil)))) (eOp modD (eOp ixD (Za 2) (eC (.int 3))) (eC (.int 3))))) sNext))
 (YX (λds => .obj "Sum" [] []::(ds++[])) 5 Up (Zb (Za 0) (Zb (eCB Vh (Zb (Za 4) eNil)) (Zb (Za 5) (Zb (Za 6) eNil))))))))))))
noncomputable def Je:List D->Option RD:=Xq 8 Zjx
noncomputable def Zjy:DL.Env->Option RO:=
 (Zw (rOf (Zn 4 (eOp ixD (Za 1) (eOp modD (eOp ixD (Za 2) (eC (.int 1))) (eCB lenD (Zb (Za 1) eNil))))))
 (Zw (rOf (Zn 5 (eOp addD (eC (.int 1)) (eOp modD (eOp ixD (Za 2) (eC (.int 2))) (eC (.int 6))))))
 (Zw (rOf (Zn 6 (eOp modD (eOp ixD (Za 2) (eC (.int 3))) (Za 5))))
 (Zw (rOf (sIf (xB (eOp eqD (Za 3) (eC (.int 1)))) (Zq (Zn 7 (Zs 2 QA [] (Zb (Za 1) (Zb (eOp fdivD (eOp ixD (Za 2) (eC (.int 1))) (eC (.int 5))) eNil))))
 (Zn 4 (eOp ixD (Zp (Zb (eC (.str [])) (Zb (eSl (Za 1) xNoP (xP (eC (.int 2)))) (Zb (Za 7) (Zb (Za 7) (Zb (Za 7) eNil)))))) (eOp modD (eOp ixD (Za 2) (eC (.int 1))) (eC (.int 5)))))) sNext))
 (Zw (rOf (sIf (xB (eOp eqD (Za 3) (eC (.int 2)))) (Zq (Zn 5 (Zs 3 Vd [] (Zb (eOp ixD (Za 2) (eC (.int 2))) (Zb (eC (.int 1)) (Zb (eC (.int 6)) eNil)))))
 (Zn 6 (eC (.int 0)))) sNext))
 (Zw (rOf (sIf (xB (eOp eqD (Za 3) (eC (.int 3)))) (Zn 6 (Zs 3 Vd [] (Zb (eOp ixD (Za 2) (eC (.int 3))) (Zb (eC (.int 0)) (Zb (eOp subD (Za 5) (eC (.int 1))) eNil))))) sNext))
 (YX (λds => .obj "Turn" [] []::(ds++[])) 5 Vc (Zb (Za 0) (Zb (Za 4) (Zb (Za 5) (Zb (Za 6) eNil)))))))))))
noncomputable def Jf:List D->Option RD:=Xq 8 Zjy
noncomputable def Zjz:DL.Env->Option RO:=
 (Zw (rOf (Zn 4 (Zp (Zb (ZK "Alike" 3 (okD XI) [] (Zb (Za 1) (Zb (eC (.int 2)) eNil))) (Zb (ZK "Rule" 2 (okD Z2) [] (Zb (Za 1) eNil)) (Zb (ZK "Gap" 5 (okD Xm) [.non] (Zb (Za 1) (Zb (eOp ixD (Za 1) (eC (.int 0))) (Zb (eC (.int 1)) eNil)))) eNil))))))
 (Zw (rOf (Zn 5 (YN (YQ (Zb (eOp modD (eOp ixD (Za 2) (eC (.int 2))) (eC (.int 7))) eNil)) (ZR 0) (λ_=>some true) (eOp ixD (Za 1) (eOp modD (eOp addD (eOp ixD (Za 2) (eC (.int 1))) (Za 0)) (eC (.int 3)))) 1 [4,2])))
 (Zw (rOf (sIf (xB (eOp eqD (Za 3) (eC (.int 1)))) (Zn 5 (YN (YQ (Zb (eOp addD (eC (.int 7)) (eOp modD (eOp ixD (Za 2) (eC (.int 3))) (eC (.int 3)))) eNil)) (ZR 0) (λ_=>some true) (ZK "Rule" 2 (okD Z2) [] (Zb (Za 1) eNil)) 1 [1])) sNext))
 (Zw (rOf (sIf (xB (eOp (ZG λi j=>decide (j<i)) (Za 3) (eC (.int 1)))) (Zq (Zn 6 (Zp (Zb (ZK "All" 3 (okD Vn) [] (Zb (Za 1) (Zb (Zp eNil) eNil))) (Zb (ZK "Rule" 2 (okD Z2) [] (Zb (eBM joinD (eC (.str [])) (Zb (Qs (Za 1)) eNil)) eNil)) (Zb (ZK "Rule" 2 (okD Z2) [] (Zb (eOp ixD (Zp (Zb (eC (.str [48,49])) (Zb (eC (.str [120,121,122])) eNil))) (eCB intD (Zb (eOp (inD false) (eC (.str [48])) (Za 1)) eNil))) eNil)) eNil)))))
 (Zq (Zn 5 (Q3 (Za 5) xNoP (xP (eC (.int 5)))))
 (Q4 5 (eOp modD (eOp fdivD (eOp ixD (Za 2) (eC (.int 3))) (eC (.int 3))) (eOp addD (eCB lenD (Zb (Za 5) eNil)) (eC (.int 1)))) (eOp ixD (Za 6) (eOp modD (eOp ixD (Za 2) (eC (.int 3))) (eC (.int 3))))))) sNext))
 (YX (λds => .obj "All" [] []::(ds++[])) 3 Vn (Zb (Za 0) (Zb (Za 5) eNil)))))))
noncomputable def Jg:List D->Option RD:=Xq 7 Zjz
noncomputable def ZjA:DL.Env->Option RO:=
 (Zw (rOf (Zn 4 (eOp modD (eOp fdivD (eOp ixD (Za 2) (eC (.int 0))) (eC (.int 3))) (eC (.int 7)))))
 (Zw (rIf (xB (eOp eqD (Za 4) (eC (.int 0)))) (YX (λds => .obj "Rule" [] []::(ds++[])) 2 Z2 (Zb (Za 0) eNil)) (rOf sNext))
 (Zw (rIf (xB (eOp eqD (Za 4) (eC (.int 1)))) (YX id 4 Jc (Zb (Za 0) (Zb (Za 1) (Zb (Za 2) (Zb (Za 3) eNil))))) (rOf sNext))
 (Zw (rIf (xB (eOp eqD (Za 4) (eC (.int 2)))) (YX id 4 Jd (Zb (Za 0) (Zb (Za 1) (Zb (Za 2) (Zb (Za 3) eNil))))) (rOf sNext))
 (Zw (rIf (xB (eOp eqD (Za 4) (eC (.int 3)))) (YX id 4 Je (Zb (Za 0) (Zb (Za 1) (Zb (Za 2) (Zb (Za 3) eNil))))) (rOf sNext))
 (Zw (rIf (xB (eOp eqD (Za 4) (eC (.int 4)))) (YX id 4 Jf (Zb (Za 0) (Zb (Za 1) (Zb (Za 2) (Zb (Za 3) eNil))))) (rOf sNext))
 (Zw (rIf (xB (eOp eqD (Za 4) (eC (.int 5)))) (YX (λds => .obj "Alike" [] []::(ds++[])) 3 XI (Zb (Za 0) (Zb (eOp ixD (Zp (Zb (eOp addD (eC (.int 1)) (eOp modD (eOp ixD (Za 2) (eC (.int 1))) (eC (.int 6)))) (Zb (Zs 3 Vd [] (Zb (eOp ixD (Za 2) (eC (.int 1))) (Zb (eC (.int 1)) (Zb (eC (.int 6)) eNil)))) eNil))) (eCB intD (Zb (eOp (ZG λi j=>decide (j<i)) (Za 3) (eC (.int 0))) eNil))) eNil))) (rOf sNext))
 (YX id 4 Jg (Zb (Za 0) (Zb (Za 1) (Zb (Za 2) (Zb (Za 3) eNil))))))))))))
noncomputable def Xr:List D->Option RD:=Xq 5 ZjA
noncomputable def Zap:MTab:=[("Rule",2,Vm),("Gap",2,Vm),("Never",2,Vm),("Sum",2,Vm),("Turn",2,Vm),("Alike",2,Vm),("All",2,Vm)]
noncomputable def ZjB:DL.Env->Option Out:=
 (Zq (Zn 4 (eC (.str [109,97,100,101])))
 (Zq (Zn 5 (Zp eNil))
 (Zq (UQ (Zq (Zn 6 (Zs 4 (okD Xr) [] (Zb (Za 0) (Zb (Za 1) (Zb (Za 2) (Zb (Za 3) eNil)))))) (Zn 4 (eOp ixD (Zp (Zb (eC (.str [111,116,104,101,114])) (Zb (eC (.str [109,97,100,101])) eNil))) (eCB intD (Zb (ZP (ZS Q9 (Za 6)) (ZP (eOp eqD (ZY fc_marks "marks" (Za 6)) (Za 0)) (eOp isD (ZQ "keeps" Zap (Za 6) (Zb (eC (.str [])) eNil)) (eC (.bl true))))) eNil))))) (Vs 4 (erD Xr) [] (Zb (Za 0) (Zb (Za 1) (Zb (Za 2) (Zb (Za 3) eNil))))) ["BadMarks", "BadRule"] (Ui ["BadMarks"] ["BadRule"] 7 (Zq (Zn 4 (eC (.str [109,97,114,107,115])))
 (Zn 5 (Zp (Zb (YU ix_GrooveError (Za 7)) (Zb (YU ix_ValueError (Za 7)) (Zb (J8 [ix_BadRule,ix_BadMark] (Za 7)) eNil)))))) (Ui ["BadRule"] [] 7 (Zq (Zn 4 (eC (.str [114,117,108,101])))
 (Zn 5 (Zp (Zb (YU ix_GrooveError (Za 7)) (Zb (YU ix_ValueError (Za 7)) (Zb (J8 [ix_BadMarks,ix_BadMark] (Za 7)) eNil)))))) hNil)))
 (Zq (sIf (Z3 (xB (eOp (inD false) (Za 4) (Zp (Zb (eC (.str [109,97,114,107,115])) (Zb (eC (.str [114,117,108,101])) eNil))))) (xB (eOp neD (Za 5) (Zp (Zb (eC (.bl true)) (Zb (eC (.bl true)) (Zb (eC (.bl false)) eNil))))))) (Zy (eC (.str [111,116,104,101,114]))) sNext)
 (Zy (Za 4))))))
noncomputable def UW:List D->Option D:=run 8 ZjB
noncomputable def ZjC:DL.Env->Option Out:=
 (Zq (Zn 1 (Zp (Zb (YU ix_BadMarks (Za 0)) (Zb (YU ix_BadRule (Za 0)) (Zb (YU ix_BadMark (Za 0)) (Zb (YU ix_TooLarge (Za 0)) eNil))))))
 (Zq (Zn 1 (eOp Vj (Za 1) (Zp (Zb (YU ix_Nothing (Za 0)) (Zb (YU ix_NoRow (Za 0)) (Zb (YU ix_BadSign (Za 0)) eNil))))))
 (Zy (eOp Vj (Za 1) (Zp (Zb (YU ix_Unread (Za 0)) (Zb (YU ix_BadRow (Za 0)) (Zb (YU ix_BadTable (Za 0)) eNil))))))))
noncomputable def ZiA:List D->Option D:=run 2 ZjC
noncomputable def ZjD:DL.Env->Option Out:=
 (Zq (Zn 0 (Zp (Zb (Xj "BadMarks" (Zb (eC (.str [111,100,100])) eNil)) (Zb (Xj "BadRule" (Zb (eC (.str [111,100,100])) eNil)) (Zb (Xj "BadMark" (Zb (eC (.str [111,100,100])) eNil)) (Zb (Xj "TooLarge" (Zb (eC (.str [111,100,100])) eNil)) (Zb (Xj "Nothing" (Zb (eC (.str [111,100,100])) eNil)) (Zb (Xj "NoRow" (Zb (eC (.str [111,100,100])) eNil)) eNil))))))))
 (Zq (Zn 0 (eOp Vj (Za 0) (Zp (Zb (Xj "BadSign" (Zb (eC (.str [111,100,100])) eNil)) (Zb (Xj "Unread" (Zb (eC (.str [111,100,100])) eNil)) (Zb (UP "BadRow" (Zb (eC (.int 7)) eNil)) (Zb (UP "BadTable" (Zb (eC (.int 8)) eNil)) eNil)))))))
 (Zq (UG (YQ (Zb (eCB lenD (Zb (Za 0) eNil)) eNil)) (ZR 1) (Zq (Zn 2 (Zs 1 ZiA [] (Zb (eOp ixD (Za 0) (Za 1)) eNil)))
 (Zq (sIf (xOr (xB (eOp neD (eLM lcountD (Za 2) (eC (.bl true))) (eC (.int 1)))) (xOr (ZN (xB (eOp ixD (Za 2) (Za 1)))) (ZN (xB (YU ix_GrooveError (eOp ixD (Za 0) (Za 1))))))) (Zy (eC (.bl false))) sNext)
 (sIf (ZN (xB (YU ix_ValueError (eOp ixD (Za 0) (Za 1))))) (Zy (eC (.bl false))) sNext))))
 (Zy (ZP (eOp eqD (eXf ["BadRow", "BadTable"] (eOp ixD (Za 0) (eC (.int 8)))) (eC (.int 7))) (eOp eqD (eXf ["BadRow", "BadTable"] (eOp ixD (Za 0) (eC (.int 9)))) (eC (.int 8))))))))
noncomputable def ZiB:List D->Option D:=run 3 ZjD
noncomputable def ZjE:DL.Env->Option Out:=
 (Zq (sIf (ZN (xB (Zs 0 ZiB [] eNil))) (Zy (eC (.bl false))) sNext)
 (Zq (Zn 1 (eSl (Za 0) xNoP (xP (eC (.int 200)))))
 (Zq (UG (YQ (Zb (eC (.int 0)) (Zb (eOp addD (eCB lenD (Zb (Za 1) eNil)) (eC (.int 1))) (Zb (eC (.int 5)) eNil)))) (ZR 2) (Zq (Zn 3 (YN (YQ (Zb (eC (.int 5)) eNil)) (ZR 0) (λ_=>some true) (Zs 2 Uq [] (Zb (Za 1) (Zb (eOp addD (Za 2) (Za 0)) eNil))) 1 [1,2]))
 (Zq (Zn 4 (Zs 1 Ur [] (Zb (eOp ixD (Za 3) (eC (.int 4))) eNil)))
 (Zq (Zn 5 (eOp modD (eOp fdivD (eOp ixD (Za 3) (eC (.int 0))) (eC (.int 3))) (eC (.int 7))))
 (Zq (Zn 6 (eOp ixD (Zp (Zb (eC (.int 0)) (Zb (eOp addD (eC (.int 1)) (eOp modD (eOp fdivD (eOp ixD (Za 3) (eC (.int 0))) (eC (.int 42))) (eOp ixD (Zp (Zb (eC (.int 1)) (Zb (eC (.int 3)) (Zb (eC (.int 3)) (Zb (eC (.int 4)) (Zb (eC (.int 3)) (Zb (eC (.int 1)) (Zb (eC (.int 3)) eNil)))))))) (Za 5)))) eNil))) (eOp modD (eOp fdivD (eOp ixD (Za 3) (eC (.int 0))) (eC (.int 21))) (eC (.int 2)))))
 (Zq (Zn 7 (eOp ixD (Zp (Zb (eC (.str [109,97,100,101])) (Zb (eC (.str [114,117,108,101])) eNil))) (eCB intD (Zb (ZP (eOp (ZG λi j=>decide (j<i)) (Za 6) (eC (.int 0))) (eOp (ZG λi j=>decide (j<i)) (Za 5) (eC (.int 0)))) eNil))))
 (Zq (Zn 8 (Za 4))
 (Zq (sIf (xB (eOp eqD (eOp modD (eOp fdivD (eOp ixD (Za 3) (eC (.int 3))) (eC (.int 5))) (eC (.int 6))) (eC (.int 1)))) (Zq (Zn 8 (Zs 1 Ziz [] (Zb (eOp fdivD (eOp ixD (Za 3) (eC (.int 4))) (eC (.int 5))) eNil)))
 (Zn 7 (eC (.str [109,97,114,107,115])))) sNext)
 (sIf (xB (eOp neD (Zs 4 UW [] (Zb (Za 8) (Zb (Za 4) (Zb (Za 3) (Zb (Za 6) eNil))))) (Za 7))) (Zy (eC (.bl false))) sNext)))))))))
 (Zy (eC (.bl true))))))
noncomputable def ZiC:List D->Option D:=run 9 ZjE
end K05
namespace K05
open PySem PySem.Spec L2 DL
def top(i:Nat):Stmt:=PySem.Challenge.pw_grooveway_k05_rules_refused.main.body.getD i (.Pass ⟨0,0,0,0⟩)
abbrev ZiD:Stmt:=XD (top 11) 0
abbrev ZiE:Stmt:=XD (top 12) 0
abbrev Jh:Stmt:=top 15
abbrev ZiF:Stmt:=top 16
abbrev ZiG:Stmt:=top 17
abbrev ZiH:Stmt:=top 18
abbrev ZiI:Stmt:=XD (top 19) 0
abbrev ZiJ:Stmt:=XD (top 19) 1
abbrev ZiK:Stmt:=XD (top 20) 1
abbrev ZiL:Stmt:=XD (top 24) 1
abbrev Ji:Stmt:=XD (top 25) 1
abbrev ZiM:Stmt:=XD (top 19) 4
abbrev ZiN:Stmt:=XD (top 19) 5
abbrev V1:Stmt:=XD (top 20) 0
abbrev Jj:Stmt:=XD (top 21) 0
abbrev Jk:Stmt:=XD (top 22) 0
abbrev ZiO:Stmt:=XD (top 23) 0
abbrev ZiP:Stmt:=XD (top 24) 0
abbrev QB:Stmt:=XD (top 25) 0
abbrev ZiQ:Stmt:=top 27
abbrev Jl:Stmt:=top 28
abbrev ZiR:Stmt:=top 29
abbrev ZiS:Stmt:=top 30
abbrev Jm:Stmt:=top 31
abbrev ZiT:Stmt:=top 32
abbrev Jn:Stmt:=top 33
abbrev Jo:Stmt:=top 34
abbrev ZiU:Stmt:=top 35
abbrev QC:Stmt:=top 36
abbrev ZiV:Stmt:=top 37
abbrev ZiW:Stmt:=top 38
abbrev ZiX:Stmt:=top 39
abbrev ZiY:Stmt:=top 40
abbrev Jp:Stmt:=top 41
theorem ZjW:FnScope ["self", "row"] ["self", "row"] (defScope ZiD):=fsm
theorem ZjX:FnScope ["self", "row"] ["self", "row"] (defScope ZiE):=fsm
theorem ZjY:FnScope ["marks"] ["marks"] (defScope Jh):=fsm
theorem ZjZ:FnScope ["marks", "text"] ["marks", "text"] (defScope ZiF):=fsm
theorem Zj0:FnScope ["number", "low", "high"] ["number", "low", "high"] (defScope ZiG):=fsm
theorem Zj1:FnScope ["holds", "words"] ["holds", "words"] (defScope ZiH):=fsm
theorem Zj2:FnScope ["self", "marks"] ["self", "marks"] (defScope ZiI):=fsm
theorem Zj3:FnScope ["self"] ["self"] (defScope ZiJ):=fsm
theorem Zj4:FnScope ["self"] ["self"] (defScope ZiK):=fsm
theorem Zj5:FnScope ["self"] ["self"] (defScope ZiL):=fsm
theorem Zj6:FnScope ["self"] ["self"] (defScope Ji):=fsm
theorem Zj7:FnScope ["self", "row", "state", "place", "mark"] ["self", "row"] (defScope ZiM):=fsm
theorem Zj8:FnScope ["self", "row"] ["self", "row"] (defScope ZiN):=fsm
theorem Zj9:FnScope ["self", "marks", "mark", "least", "most"] ["self", "marks", "mark", "least", "most"] (defScope V1):=fsm
theorem Zka:FnScope ["self", "marks", "word"] ["self", "marks", "word"] (defScope Jj):=fsm
theorem Zkb:FnScope ["self", "marks", "worths", "low", "high"] ["self", "marks", "worths", "low", "high"] (defScope Jk):=fsm
theorem Zkc:FnScope ["self", "marks", "mark", "every", "at"] ["self", "marks", "mark", "every", "at"] (defScope ZiO):=fsm
theorem Zkd:FnScope ["self", "marks", "most"] ["self", "marks", "most"] (defScope ZiP):=fsm
theorem Zke:FnScope ["self", "marks", "rules"] ["self", "marks", "rules"] (defScope QB):=fsm
theorem Zkf:FnScope ["script", "k"] ["script", "k"] (defScope ZiQ):=fsm
theorem Zkg:FnScope ["cell", "some", "step"] ["cell"] (defScope Jl):=fsm
theorem Zkh:FnScope ["cell", "marks", "some"] ["cell"] (defScope ZiR):=fsm
theorem Zki:FnScope ["cell", "low", "high", "far"] ["cell", "low", "high"] (defScope ZiS):=fsm
theorem Zkj:FnScope ["marks", "cell", "odd", "near"] ["marks", "cell"] (defScope Jm):=fsm
theorem Zkk:FnScope ["own", "marks", "cells", "bad", "mark", "lowest", "most", "strange"] ["own", "marks", "cells", "bad"] (defScope ZiT):=fsm
theorem Zkl:FnScope ["own", "marks", "cells", "bad", "word", "at"] ["own", "marks", "cells", "bad"] (defScope Jn):=fsm
theorem Zkm:FnScope ["own", "marks", "cells", "bad", "worths", "low", "high", "at"] ["own", "marks", "cells", "bad"] (defScope Jo):=fsm
theorem Zkn:FnScope ["own", "marks", "cells", "bad", "mark", "every", "at", "strange"] ["own", "marks", "cells", "bad"] (defScope ZiU):=fsm
theorem Zko:FnScope ["own", "marks", "cells", "bad", "some", "rules", "other"] ["own", "marks", "cells", "bad"] (defScope QC):=fsm
theorem Zkp:FnScope ["own", "marks", "cells", "bad", "kind"] ["own", "marks", "cells", "bad"] (defScope ZiV):=fsm
theorem Zkq:FnScope ["own", "marks", "cells", "bad", "told", "kinds", "rule", "e"] ["own", "marks", "cells", "bad"] (defScope ZiW):=fsm
theorem Zkr:FnScope ["one", "kinds"] ["one"] (defScope ZiX):=fsm
theorem Zks:FnScope ["some", "k", "kinds"] [] (defScope ZiY):=fsm
theorem Zkt:FnScope ["script", "cut", "k", "cells", "marks", "kind", "bad", "due", "own"] ["script"] (defScope Jp):=fsm
structure Adr where
 (a_QF a_QC a_QG a_Q5 a_QY a_Q6 a_QQ a_QP a_QR a_QH a_QU a_QA a_QN a_QZ a_QO a_Q2 a_QT a_QL a_Q1 a_QE a_QJ a_QB a_Q3 a_QD a_QX a_QW a_Q0 a_QS a_Q4 a_QV a_QM a_QI a_QK a_Q7 c_GrooveError c_BadMarks c_BadRule c_BadMark c_TooLarge c_Nothing c_NoRow c_BadSign c_Unread c_BadRow c_BadTable c_Rule c_Gap c_Never c_Sum c_Turn c_Alike c_All:Addr)
 (d_QF d_QC d_QG d_Q5 d_QY d_Q6 d_QQ d_QP d_QR d_QH d_QU d_QA d_QN d_QZ d_QO d_Q2 d_QT d_QL d_Q1 d_QE d_QJ d_QB d_Q3 d_QD d_QX d_QW d_Q0 d_QS d_Q4 d_QV d_QM d_QI d_QK d_Q7:FuncData)
 (u_MARK_SIGNS:Value)
def Adr.c(t:Adr):String->Addr:=λc=>if c = "Rule" then t.c_Rule else if c = "Gap" then t.c_Gap else if c = "Never" then t.c_Never else if c = "Sum" then t.c_Sum else if c = "Turn" then t.c_Turn else if c = "Alike" then t.c_Alike else if c = "All" then t.c_All else if c = "GrooveError" then t.c_GrooveError else if c = "BadMarks" then t.c_BadMarks else if c = "BadRule" then t.c_BadRule else if c = "BadMark" then t.c_BadMark else if c = "TooLarge" then t.c_TooLarge else if c = "Nothing" then t.c_Nothing else if c = "NoRow" then t.c_NoRow else if c = "BadSign" then t.c_BadSign else if c = "Unread" then t.c_Unread else if c = "BadRow" then t.c_BadRow else if c = "BadTable" then t.c_BadTable else 0
structure Txt(K:PySem.W.Frag)(mg:Str->Option Value)(t:Adr):Prop where
 p_QF:Df K "__init__" "BadRow.__init__" ZiD t.a_QF t.d_QF ["self", "row"]
 p_QC:Df K "__init__" "BadTable.__init__" ZiE t.a_QC t.d_QC ["self", "row"]
 p_QG:Dg K mg "marks_stand" Jh t.a_QG t.d_QG ["marks"]
 p_Q5:Dg K mg "is_mark" ZiF t.a_Q5 t.d_Q5 ["marks", "text"]
 p_QY:Dg K mg "is_whole" ZiG t.a_QY t.d_QY ["number", "low", "high"]
 p_Q6:Dg K mg "demand" ZiH t.a_Q6 t.d_Q6 ["holds", "words"]
 p_QQ:Df K "__init__" "Rule.__init__" ZiI t.a_QQ t.d_QQ ["self", "marks"]
 p_QP:Df K "begin" "Rule.begin" ZiJ t.a_QP t.d_QP ["self"]
 p_QR:Df K "begin" "Gap.begin" ZiK t.a_QR t.d_QR ["self"]
 p_QH:Df K "begin" "Alike.begin" ZiL t.a_QH t.d_QH ["self"]
 p_QU:Df K "begin" "All.begin" Ji t.a_QU t.d_QU ["self"]
 p_QA:Df K "broken_at" "Rule.broken_at" ZiM t.a_QA t.d_QA ["self", "row"]
 p_QN:Df K "keeps" "Rule.keeps" ZiN t.a_QN t.d_QN ["self", "row"]
 f_QZ:FunX K "__init__" "Gap.__init__" V1 t.a_QZ t.d_QZ
 b_QZ:Binds K t.d_QZ ["self", "marks", "mark", "least", "most"] []
 b1_Gap_init:Binds K t.d_QZ ["self", "marks", "mark", "least", "most"] [.none]
 k_QZ:PySem.W.keepIn K (.ref t.a_QZ)=true
 p_QO:Df K "__init__" "Never.__init__" Jj t.a_QO t.d_QO ["self", "marks", "word"]
 p_Q2:Df K "__init__" "Sum.__init__" Jk t.a_Q2 t.d_Q2 ["self", "marks", "worths", "low", "high"]
 p_QT:Df K "__init__" "Turn.__init__" ZiO t.a_QT t.d_QT ["self", "marks", "mark", "every", "at"]
 p_QL:Df K "__init__" "Alike.__init__" ZiP t.a_QL t.d_QL ["self", "marks", "most"]
 p_Q1:Df K "__init__" "All.__init__" QB t.a_Q1 t.d_Q1 ["self", "marks", "rules"]
 p_QE:Dg K mg "_law_cell_at" ZiQ t.a_QE t.d_QE ["script", "k"]
 p_QJ:Dg K mg "_law_marks" Jl t.a_QJ t.d_QJ ["cell"]
 p_QB:Dg K mg "_law_bad_marks" ZiR t.a_QB t.d_QB ["cell"]
 p_Q3:Dg K mg "_law_out" ZiS t.a_Q3 t.d_Q3 ["cell", "low", "high"]
 p_QD:Dg K mg "_law_strange" Jm t.a_QD t.d_QD ["marks", "cell"]
 p_QX:Dg K mg "_law_gap" ZiT t.a_QX t.d_QX ["own", "marks", "cells", "bad"]
 p_QW:Dg K mg "_law_word" Jn t.a_QW t.d_QW ["own", "marks", "cells", "bad"]
 p_Q0:Dg K mg "_law_sum" Jo t.a_Q0 t.d_Q0 ["own", "marks", "cells", "bad"]
 p_QS:Dg K mg "_law_turn" ZiU t.a_QS t.d_QS ["own", "marks", "cells", "bad"]
 p_Q4:Dg K mg "_law_all" QC t.a_Q4 t.d_Q4 ["own", "marks", "cells", "bad"]
 p_QV:Dg K mg "_law_made" ZiV t.a_QV t.d_QV ["own", "marks", "cells", "bad"]
 p_QM:Dg K mg "_law_asked" ZiW t.a_QM t.d_QM ["own", "marks", "cells", "bad"]
 p_QI:Dg K mg "_law_kinds" ZiX t.a_QI t.d_QI ["one"]
 p_QK:Dg K mg "_law_apart" ZiY t.a_QK t.d_QK []
 p_Q7:Dg K mg "law" Jp t.a_Q7 t.d_Q7 ["script"]
 n_ValueError:mg "ValueError" = none
 n_all:mg "all" = none
 n_any:mg "any" = none
 n_bool:mg "bool" = none
 n_enumerate:mg "enumerate" = none
 n_int:mg "int" = none
 n_isinstance:mg "isinstance" = none
 n_len:mg "len" = none
 n_list:mg "list" = none
 n_min:mg "min" = none
 n_range:mg "range" = none
 n_reversed:mg "reversed" = none
 n_tuple:mg "tuple" = none
 n_zip:mg "zip" = none
 g_MARK_SIGNS:mg "MARK_SIGNS" = some t.u_MARK_SIGNS
 r_MARK_SIGNS:RelV (S cs_MARK_SIGNS) t.u_MARK_SIGNS
 g_Rule:mg "Rule" = some (.ref t.c_Rule)
 cl_Rule:Cls K t.c_Rule
 ci_Rule:ClsI K t.c_Rule
 mk_Rule:Mk K t.c_Rule t.a_QQ
 g_Gap:mg "Gap" = some (.ref t.c_Gap)
 cl_Gap:Cls K t.c_Gap
 ci_Gap:ClsI K t.c_Gap
 mk_Gap:Mk K t.c_Gap t.a_QZ
 g_Never:mg "Never" = some (.ref t.c_Never)
 cl_Never:Cls K t.c_Never
 ci_Never:ClsI K t.c_Never
 mk_Never:Mk K t.c_Never t.a_QO
 g_Sum:mg "Sum" = some (.ref t.c_Sum)
 cl_Sum:Cls K t.c_Sum
 ci_Sum:ClsI K t.c_Sum
 mk_Sum:Mk K t.c_Sum t.a_Q2
 g_Turn:mg "Turn" = some (.ref t.c_Turn)
 cl_Turn:Cls K t.c_Turn
 ci_Turn:ClsI K t.c_Turn
 mk_Turn:Mk K t.c_Turn t.a_QT
 g_Alike:mg "Alike" = some (.ref t.c_Alike)
 cl_Alike:Cls K t.c_Alike
 ci_Alike:ClsI K t.c_Alike
 mk_Alike:Mk K t.c_Alike t.a_QL
 g_All:mg "All" = some (.ref t.c_All)
 cl_All:Cls K t.c_All
 ci_All:ClsI K t.c_All
 mk_All:Mk K t.c_All t.a_Q1
 fl_at:XZ K ⟨t.c,K⟩ ZeA "at"
 fl_every:XZ K ⟨t.c,K⟩ ZaD "every"
 fl_high:XZ K ⟨t.c,K⟩ Za6 "high"
 fl_least:XZ K ⟨t.c,K⟩ UU "least"
 fl_low:XZ K ⟨t.c,K⟩ Zcd "low"
 fl_mark:XZ K ⟨t.c,K⟩ Uk "mark"
 fl_marks:XZ K ⟨t.c,K⟩ fc_marks "marks"
 fl_most:XZ K ⟨t.c,K⟩ Ul "most"
 fl_rules:XZ K ⟨t.c,K⟩ Q7 "rules"
 fl_word:XZ K ⟨t.c,K⟩ Za7 "word"
 fl_worths:XZ K ⟨t.c,K⟩ Zao "worths"
 g_GrooveError:mg "GrooveError" = some (.ref t.c_GrooveError)
 g_BadMarks:mg "BadMarks" = some (.ref t.c_BadMarks)
 en_BadMarks:PySem.W.excIn K t.c_BadMarks bmV "ValueError.__new__" = true
 kx_BadMarks:PySem.W.keepIn K (.ref t.c_BadMarks)=true
 g_BadRule:mg "BadRule" = some (.ref t.c_BadRule)
 en_BadRule:PySem.W.excIn K t.c_BadRule bmV "ValueError.__new__" = true
 kx_BadRule:PySem.W.keepIn K (.ref t.c_BadRule)=true
 g_BadMark:mg "BadMark" = some (.ref t.c_BadMark)
 en_BadMark:PySem.W.excIn K t.c_BadMark bmV "ValueError.__new__" = true
 kx_BadMark:PySem.W.keepIn K (.ref t.c_BadMark)=true
 g_TooLarge:mg "TooLarge" = some (.ref t.c_TooLarge)
 en_TooLarge:PySem.W.excIn K t.c_TooLarge bmV "ValueError.__new__" = true
 kx_TooLarge:PySem.W.keepIn K (.ref t.c_TooLarge)=true
 g_Nothing:mg "Nothing" = some (.ref t.c_Nothing)
 en_Nothing:PySem.W.excIn K t.c_Nothing bmV "ValueError.__new__" = true
 kx_Nothing:PySem.W.keepIn K (.ref t.c_Nothing)=true
 g_NoRow:mg "NoRow" = some (.ref t.c_NoRow)
 en_NoRow:PySem.W.excIn K t.c_NoRow bmV "ValueError.__new__" = true
 kx_NoRow:PySem.W.keepIn K (.ref t.c_NoRow)=true
 g_BadSign:mg "BadSign" = some (.ref t.c_BadSign)
 en_BadSign:PySem.W.excIn K t.c_BadSign bmV "ValueError.__new__" = true
 kx_BadSign:PySem.W.keepIn K (.ref t.c_BadSign)=true
 g_Unread:mg "Unread" = some (.ref t.c_Unread)
 en_Unread:PySem.W.excIn K t.c_Unread bmV "ValueError.__new__" = true
 kx_Unread:PySem.W.keepIn K (.ref t.c_Unread)=true
 g_BadRow:mg "BadRow" = some (.ref t.c_BadRow)
 g_BadTable:mg "BadTable" = some (.ref t.c_BadTable)
 xc_all:∀c∈(["BadMarks", "BadRule"]:List String),ExCls K (t.c c)
 xt_BadRule:∀c∈(["BadRule"]:List String),PySem.W.exmOne K (.ref (t.c c)) (.ref t.c_BadRule)=some true
 xf_BadRule:∀c∈([]:List String),PySem.W.exmOne K (.ref (t.c c)) (.ref t.c_BadRule)=some false
 xt_BadMarks:∀c∈(["BadMarks"]:List String),PySem.W.exmOne K (.ref (t.c c)) (.ref t.c_BadMarks)=some true
 xf_BadMarks:∀c∈(["BadRule"]:List String),PySem.W.exmOne K (.ref (t.c c)) (.ref t.c_BadMarks)=some false
 ix_GrooveError:XG K ⟨t.c,K⟩ (.ref (t.c "GrooveError")) ix_GrooveError
 ix_ValueError:XG K ⟨t.c,K⟩ (.ty "ValueError") ix_ValueError
 ix_BadRule:XG K ⟨t.c,K⟩ (.ref (t.c "BadRule")) ix_BadRule
 ix_BadMark:XG K ⟨t.c,K⟩ (.ref (t.c "BadMark")) ix_BadMark
 ix_BadMarks:XG K ⟨t.c,K⟩ (.ref (t.c "BadMarks")) ix_BadMarks
 ix_TooLarge:XG K ⟨t.c,K⟩ (.ref (t.c "TooLarge")) ix_TooLarge
 ix_Nothing:XG K ⟨t.c,K⟩ (.ref (t.c "Nothing")) ix_Nothing
 ix_NoRow:XG K ⟨t.c,K⟩ (.ref (t.c "NoRow")) ix_NoRow
 ix_BadSign:XG K ⟨t.c,K⟩ (.ref (t.c "BadSign")) ix_BadSign
 ix_Unread:XG K ⟨t.c,K⟩ (.ref (t.c "Unread")) ix_Unread
 ix_BadRow:XG K ⟨t.c,K⟩ (.ref (t.c "BadRow")) ix_BadRow
 ix_BadTable:XG K ⟨t.c,K⟩ (.ref (t.c "BadTable")) ix_BadTable
 xi_BadRow:ExIn K t.c_BadRow t.a_QF (Str.ofString "row")
 xi_BadTable:ExIn K t.c_BadTable t.a_QC (Str.ofString "row")
 bs_GrooveError:BsIn K t.c_GrooveError
 xr_all:∀c∈(["BadRow", "BadTable"]:List String),ExCls K (t.c c)/\PySem.W.hasDictIn K (t.c c)=true/\PySem.W.findIn K (.ref (t.c c)) (Str.ofString "row")=some none
 me_Rule_begin:Meth K t.c_Rule (Str.ofString "begin") t.a_QP
 me_Gap_begin:Meth K t.c_Gap (Str.ofString "begin") t.a_QR
 me_Never_begin:Meth K t.c_Never (Str.ofString "begin") t.a_QP
 me_Sum_begin:Meth K t.c_Sum (Str.ofString "begin") t.a_QP
 me_Turn_begin:Meth K t.c_Turn (Str.ofString "begin") t.a_QP
 me_Alike_begin:Meth K t.c_Alike (Str.ofString "begin") t.a_QH
 me_All_begin:Meth K t.c_All (Str.ofString "begin") t.a_QU
 me_Rule_broken_at:Meth K t.c_Rule (Str.ofString "broken_at") t.a_QA
 me_Gap_broken_at:Meth K t.c_Gap (Str.ofString "broken_at") t.a_QA
 me_Never_broken_at:Meth K t.c_Never (Str.ofString "broken_at") t.a_QA
 me_Sum_broken_at:Meth K t.c_Sum (Str.ofString "broken_at") t.a_QA
 me_Turn_broken_at:Meth K t.c_Turn (Str.ofString "broken_at") t.a_QA
 me_Alike_broken_at:Meth K t.c_Alike (Str.ofString "broken_at") t.a_QA
 me_All_broken_at:Meth K t.c_All (Str.ofString "broken_at") t.a_QA
 me_Rule_keeps:Meth K t.c_Rule (Str.ofString "keeps") t.a_QN
 me_Gap_keeps:Meth K t.c_Gap (Str.ofString "keeps") t.a_QN
 me_Never_keeps:Meth K t.c_Never (Str.ofString "keeps") t.a_QN
 me_Sum_keeps:Meth K t.c_Sum (Str.ofString "keeps") t.a_QN
 me_Turn_keeps:Meth K t.c_Turn (Str.ofString "keeps") t.a_QN
 me_Alike_keeps:Meth K t.c_Alike (Str.ofString "keeps") t.a_QN
 me_All_keeps:Meth K t.c_All (Str.ofString "keeps") t.a_QN
 cm_Rule_init:CMeth K t.c_Rule "__init__" t.a_QQ
 isi_All:IsiOk K ⟨t.c,K⟩ (.ref t.c_All) Q8
 isi_Rule:IsiOk K ⟨t.c,K⟩ (.ref t.c_Rule) Q9
 isi_bool:IsiOk K ⟨t.c,K⟩ (.type "bool") Za8
 isi_int:IsiOk K ⟨t.c,K⟩ (.type "int") Zce
end K05
namespace K05
open PySem PySem.W L2 HT
def kP:Params->PySem.W.Frag:=λP=>
 (nat_lit 2,dO .none [] 0) ::
 (nat_lit 3,dO (.type "dict") [de P "__name__" 165 (.str "law_grooveway_k05_rules_refused" 747),de P "__doc__" 166 .none,de P "__package__" 167 .none,de P "__loader__" 168 (.builtin "__main__.__loader__#opaque"),de P "__spec__" 169 .none,de P "__annotations__" 170 (.ref 6),de P "__builtins__" 171 (.ref 4),de P "__file__" 173 (.str "/claim/cut.py" 172),de P "__cached__" 174 .none,de P "_wall" 193 (.ref 21),de P "GrooveError" 213 (.ref 31),de P "BadMarks" 229 (.ref 44),de P "BadRule" 245 (.ref 56),de P "BadMark" 261 (.ref 68),de P "TooLarge" 277 (.ref 80),de P "Nothing" 293 (.ref 92),de P "NoRow" 309 (.ref 104),de P "BadSign" 325 (.ref 116),de P "Unread" 341 (.ref 128),de P "BadRow" 366 (.ref 147),de P "BadTable" 391 (.ref 166),de P "MARK_SIGNS" 395 (.str "abcdefghijklmnopqrstuvwxyz0123456789" 394),de P "marks_stand" 401 (.ref 173),de P "is_mark" 409 (.ref 180),de P "is_whole" 418 (.ref 187),de P "demand" 426 (.ref 194),de P "Rule" 499 (.ref 246),de P "Gap" 545 (.ref 282),de P "Never" 579 (.ref 306),de P "Sum" 614 (.ref 330),de P "Turn" 653 (.ref 356),de P "Alike" 697 (.ref 389),de P "All" 746 (.ref 425),de P "_law_cell_at" 756 (.ref 434),de P "_law_marks" 762 (.ref 439),de P "_law_bad_marks" 771 (.ref 446),de P "_law_out" 781 (.ref 453),de P "_law_strange" 787 (.ref 458),de P "_law_gap" 801 (.ref 465),de P "_law_word" 807 (.ref 470),de P "_law_sum" 813 (.ref 475),de P "_law_turn" 827 (.ref 482),de P "_law_all" 833 (.ref 487),de P "_law_made" 844 (.ref 494),de P "_law_asked" 858 (.ref 501),de P "_law_kinds" 866 (.ref 508),de P "_law_apart" 875 (.ref 515),de P "law" 881 (.ref 520)] 48) ::
 (nat_lit 20,c3 "_wall" "_wall" 187 1 1 3 15 16 (.ref 17) (.ref 18) 19 191 192) ::
 (nat_lit 30,dO (.type "dict") [de P "__module__" 203 (.str "grooveway.errors" 194),de P "__firstlineno__" 207 (.int 5 206),de P "__static_attributes__" 208 (.ref 29),de P "__weakref__" 210 (.ref 32),de P "__doc__" 211 .none] 3) ::
 (nat_lit 31,⟨(.type "type"),none,.cls ⟨"GrooveError",[(.type "ValueError")],[(.ref 31),(.type "ValueError"),(.type "Exception"),(.type "BaseException"),(.type "object")],30, "GrooveError",true,[],[(.ref 44),(.ref 56),(.ref 68),(.ref 80),(.ref 92),(.ref 104),(.ref 116),(.ref 128),(.ref 147),(.ref 166)],false,none,false⟩,#[some (.ref 22),none,some (.str "GrooveError" 196),some (.str "GrooveError" 204),some (.builtin "ValueError.__new__"),some (.bool true)]⟩) ::
 (nat_lit 32,⟨(.type "getset_descriptor"),none,.fields #[(.str "__weakref__" 209),(.ref 31),(.builtin "ExceptionGroup.__weakref__"),.none],#[]⟩) ::
 (nat_lit 43,x3 P "grooveway.errors" 194 221 225 7 224 226 42 227 2) ::
 (nat_lit 44,k3 "BadMarks" 44 31 43 35 214 222) ::
 (nat_lit 55,x3 P "grooveway.errors" 194 237 241 9 240 242 54 243 2) ::
 (nat_lit 56,k3 "BadRule" 56 31 55 47 230 238) ::
 (nat_lit 67,x3 P "grooveway.errors" 194 253 257 11 256 258 66 259 2) ::
 (nat_lit 68,k3 "BadMark" 68 31 67 59 246 254) ::
 (nat_lit 79,x3 P "grooveway.errors" 194 269 273 13 272 274 78 275 2) ::
 (nat_lit 80,k3 "TooLarge" 80 31 79 71 262 270) ::
 (nat_lit 91,x3 P "grooveway.errors" 194 285 289 15 288 290 90 291 2) ::
 (nat_lit 92,k3 "Nothing" 92 31 91 83 278 286) ::
 (nat_lit 103,x3 P "grooveway.errors" 194 301 305 17 304 306 102 307 2) ::
 (nat_lit 104,k3 "NoRow" 104 31 103 95 294 302) ::
 (nat_lit 115,x3 P "grooveway.errors" 194 317 321 19 320 322 114 323 2) ::
 (nat_lit 116,k3 "BadSign" 116 31 115 107 310 318) ::
 (nat_lit 127,x3 P "grooveway.errors" 194 333 337 21 336 338 126 339 2) ::
 (nat_lit 128,k3 "Unread" 128 31 127 119 326 334) ::
 (nat_lit 143,c3 "__init__" "BadRow.__init__" 354 25 2 3 138 139 (.ref 140) (.ref 141) 142 359 360) ::
 (nat_lit 144,f3 "__init__" "BadRow.__init__" ZiD "grooveway.errors" 194 143) ::
 (nat_lit 146,dO (.type "dict") [de P "__module__" 349 (.str "grooveway.errors" 194),de P "__firstlineno__" 353 (.int 23 352),de P "__init__" 361 (.ref 144),de P "__static_attributes__" 363 (.ref 145),de P "__doc__" 364 .none] 2) ::
 (nat_lit 147,k3 "BadRow" 147 31 146 131 342 350) ::
 (nat_lit 162,c3 "__init__" "BadTable.__init__" 379 30 2 3 157 158 (.ref 159) (.ref 160) 161 384 385) ::
 (nat_lit 163,f3 "__init__" "BadTable.__init__" ZiE "grooveway.errors" 194 162) ::
 (nat_lit 165,dO (.type "dict") [de P "__module__" 374 (.str "grooveway.errors" 194),de P "__firstlineno__" 378 (.int 28 377),de P "__init__" 386 (.ref 163),de P "__static_attributes__" 388 (.ref 164),de P "__doc__" 389 .none] 2) ::
 (nat_lit 166,k3 "BadTable" 166 31 165 150 367 375) ::
 (nat_lit 172,c3 "marks_stand" "marks_stand" 396 35 1 3 169 170 .none .none 171 399 400) ::
 (nat_lit 173,f3 "marks_stand" "marks_stand" Jh "grooveway.rules" 392 172) ::
 (nat_lit 179,c3 "is_mark" "is_mark" 402 39 2 3 174 175 (.ref 176) (.ref 177) 178 407 408) ::
 (nat_lit 180,f3 "is_mark" "is_mark" ZiF "grooveway.rules" 392 179) ::
 (nat_lit 186,c3 "is_whole" "is_whole" 410 41 3 3 181 182 (.ref 183) (.ref 184) 185 416 417) ::
 (nat_lit 187,f3 "is_whole" "is_whole" ZiG "grooveway.rules" 392 186) ::
 (nat_lit 193,c3 "demand" "demand" 419 45 2 3 188 189 (.ref 190) (.ref 191) 192 424 425) ::
 (nat_lit 194,f3 "demand" "demand" ZiH "grooveway.rules" 392 193) ::
 (nat_lit 207,c3 "__init__" "Rule.__init__" 439 50 2 3 202 203 (.ref 204) (.ref 205) 206 444 445) ::
 (nat_lit 208,f3 "__init__" "Rule.__init__" ZiI "grooveway.rules" 392 207) ::
 (nat_lit 214,c3 "begin" "Rule.begin" 447 55 1 3 209 210 (.ref 211) (.ref 212) 213 451 452) ::
 (nat_lit 215,f3 "begin" "Rule.begin" ZiJ "grooveway.rules" 392 214) ::
 (nat_lit 221,c3 "step" "Rule.step" 454 58 3 3 216 217 (.ref 218) (.ref 219) 220 460 461) ::
 (nat_lit 228,c3 "behind" "Rule.behind" 463 63 3 3 223 224 (.ref 225) (.ref 226) 227 469 470) ::
 (nat_lit 235,c3 "broken_at" "Rule.broken_at" 472 66 2 3 230 231 (.ref 232) (.ref 233) 234 480 481) ::
 (nat_lit 236,f3 "broken_at" "Rule.broken_at" ZiM "grooveway.rules" 392 235) ::
 (nat_lit 242,c3 "keeps" "Rule.keeps" 483 74 2 3 237 238 (.ref 239) (.ref 240) 241 488 489) ::
 (nat_lit 243,f3 "keeps" "Rule.keeps" ZiN "grooveway.rules" 392 242) ::
 (nat_lit 245,dO (.type "dict") [de P "__module__" 434 (.str "grooveway.rules" 392),de P "__firstlineno__" 438 (.int 48 437),de P "__init__" 446 (.ref 208),de P "begin" 453 (.ref 215),de P "step" 462 (.ref 222),de P "behind" 471 (.ref 229),de P "broken_at" 482 (.ref 236),de P "keeps" 490 (.ref 243),de P "__static_attributes__" 492 (.ref 244),de P "__dict__" 494 (.ref 247),de P "__weakref__" 496 (.ref 248),de P "__doc__" 497 .none] 4) ::
 (nat_lit 246,⟨(.type "type"),none,.cls ⟨"Rule",[(.type "object")],[(.ref 246),(.type "object")],245, "Rule",true,[],[(.ref 282),(.ref 306),(.ref 330),(.ref 356),(.ref 389),(.ref 425)],false,none,false⟩,#[none,none,some (.str "Rule" 427),some (.str "Rule" 435),some (.builtin "object.__new__"),some (.bool true)]⟩) ::
 (nat_lit 247,⟨(.type "getset_descriptor"),none,.fields #[(.str "__dict__" 493),(.ref 246),(.builtin "function.__dict__"),(.builtin "function.__dict__#set")],#[]⟩) ::
 (nat_lit 248,⟨(.type "getset_descriptor"),none,.fields #[(.str "__weakref__" 495),(.ref 246),(.builtin "ExceptionGroup.__weakref__"),.none],#[]⟩) ::
 (nat_lit 258,⟨(.type "tuple"),none,.seq #[.none] 0,#[]⟩) ::
 (nat_lit 264,c3 "__init__" "Gap.__init__" 512 78 5 3 259 260 (.ref 261) (.ref 262) 263 520 521) ::
 (nat_lit 265,fO "__init__" "Gap.__init__" V1 (.ref 258) .none .none (.str "grooveway.rules" 392) none (.ref 264) .none) ::
 (nat_lit 271,c3 "begin" "Gap.begin" 523 87 1 3 266 267 (.ref 268) (.ref 269) 270 527 528) ::
 (nat_lit 272,f3 "begin" "Gap.begin" ZiK "grooveway.rules" 392 271) ::
 (nat_lit 278,c3 "behind" "Gap.behind" 530 90 3 3 273 274 (.ref 275) (.ref 276) 277 536 537) ::
 (nat_lit 281,dO (.type "dict") [de P "__module__" 507 (.str "grooveway.rules" 392),de P "__firstlineno__" 511 (.int 76 510),de P "__init__" 522 (.ref 265),de P "begin" 529 (.ref 272),de P "behind" 538 (.ref 279),de P "__static_attributes__" 542 (.ref 280),de P "__doc__" 543 .none] 2) ::
 (nat_lit 282,⟨(.type "type"),none,.cls ⟨"Gap",[(.ref 246)],[(.ref 282),(.ref 246),(.type "object")],281, "Gap",true,[],[],false,none,false⟩,#[some (.ref 251),none,some (.str "Gap" 500),some (.str "Gap" 508),some (.builtin "object.__new__"),some (.bool true)]⟩) ::
 (nat_lit 295,c3 "__init__" "Never.__init__" 558 98 3 3 292 293 .none .none 294 561 562) ::
 (nat_lit 296,f3 "__init__" "Never.__init__" Jj "grooveway.rules" 392 295) ::
 (nat_lit 302,c3 "behind" "Never.behind" 564 104 3 3 297 298 (.ref 299) (.ref 300) 301 572 573) ::
 (nat_lit 305,dO (.type "dict") [de P "__module__" 553 (.str "grooveway.rules" 392),de P "__firstlineno__" 557 (.int 96 556),de P "__init__" 563 (.ref 296),de P "behind" 574 (.ref 303),de P "__static_attributes__" 576 (.ref 304),de P "__doc__" 577 .none] 2) ::
 (nat_lit 306,⟨(.type "type"),none,.cls ⟨"Never",[(.ref 246)],[(.ref 306),(.ref 246),(.type "object")],305, "Never",true,[],[],false,none,false⟩,#[some (.ref 285),none,some (.str "Never" 546),some (.str "Never" 554),some (.builtin "object.__new__"),some (.bool true)]⟩) ::
 (nat_lit 319,c3 "__init__" "Sum.__init__" 592 114 5 3 316 317 .none .none 318 595 596) ::
 (nat_lit 320,f3 "__init__" "Sum.__init__" Jk "grooveway.rules" 392 319) ::
 (nat_lit 326,c3 "behind" "Sum.behind" 598 124 3 3 321 322 (.ref 323) (.ref 324) 325 605 606) ::
 (nat_lit 329,dO (.type "dict") [de P "__module__" 587 (.str "grooveway.rules" 392),de P "__firstlineno__" 591 (.int 112 590),de P "__init__" 597 (.ref 320),de P "behind" 607 (.ref 327),de P "__static_attributes__" 611 (.ref 328),de P "__doc__" 612 .none] 2) ::
 (nat_lit 330,⟨(.type "type"),none,.cls ⟨"Sum",[(.ref 246)],[(.ref 330),(.ref 246),(.type "object")],329, "Sum",true,[],[],false,none,false⟩,#[some (.ref 309),none,some (.str "Sum" 580),some (.str "Sum" 588),some (.builtin "object.__new__"),some (.bool true)]⟩) ::
 (nat_lit 345,c3 "__init__" "Turn.__init__" 627 129 5 3 340 341 (.ref 342) (.ref 343) 344 635 636) ::
 (nat_lit 346,f3 "__init__" "Turn.__init__" ZiO "grooveway.rules" 392 345) ::
 (nat_lit 352,c3 "behind" "Turn.behind" 638 138 3 3 347 348 (.ref 349) (.ref 350) 351 644 645) ::
 (nat_lit 355,dO (.type "dict") [de P "__module__" 622 (.str "grooveway.rules" 392),de P "__firstlineno__" 626 (.int 127 625),de P "__init__" 637 (.ref 346),de P "behind" 646 (.ref 353),de P "__static_attributes__" 650 (.ref 354),de P "__doc__" 651 .none] 2) ::
 (nat_lit 356,⟨(.type "type"),none,.cls ⟨"Turn",[(.ref 246)],[(.ref 356),(.ref 246),(.type "object")],355, "Turn",true,[],[],false,none,false⟩,#[some (.ref 333),none,some (.str "Turn" 615),some (.str "Turn" 623),some (.builtin "object.__new__"),some (.bool true)]⟩) ::
 (nat_lit 371,c3 "__init__" "Alike.__init__" 666 144 3 3 366 367 (.ref 368) (.ref 369) 370 672 673) ::
 (nat_lit 372,f3 "__init__" "Alike.__init__" ZiP "grooveway.rules" 392 371) ::
 (nat_lit 378,c3 "begin" "Alike.begin" 675 149 1 3 373 374 (.ref 375) (.ref 376) 377 679 680) ::
 (nat_lit 379,f3 "begin" "Alike.begin" ZiL "grooveway.rules" 392 378) ::
 (nat_lit 385,c3 "behind" "Alike.behind" 682 152 3 3 380 381 (.ref 382) (.ref 383) 384 690 691) ::
 (nat_lit 388,dO (.type "dict") [de P "__module__" 661 (.str "grooveway.rules" 392),de P "__firstlineno__" 665 (.int 142 664),de P "__init__" 674 (.ref 372),de P "begin" 681 (.ref 379),de P "behind" 692 (.ref 386),de P "__static_attributes__" 694 (.ref 387),de P "__doc__" 695 .none] 2) ::
 (nat_lit 389,⟨(.type "type"),none,.cls ⟨"Alike",[(.ref 246)],[(.ref 389),(.ref 246),(.type "object")],388, "Alike",true,[],[],false,none,false⟩,#[some (.ref 359),none,some (.str "Alike" 654),some (.str "Alike" 662),some (.builtin "object.__new__"),some (.bool true)]⟩) ::
 (nat_lit 402,c3 "__init__" "All.__init__" 710 158 3 3 399 400 .none .none 401 713 714) ::
 (nat_lit 403,f3 "__init__" "All.__init__" QB "grooveway.rules" 392 402) ::
 (nat_lit 407,c3 "begin" "All.begin" 716 165 1 3 404 405 .none .none 406 719 720) ::
 (nat_lit 408,f3 "begin" "All.begin" Ji "grooveway.rules" 392 407) ::
 (nat_lit 414,c3 "behind" "All.behind" 722 168 3 3 409 410 (.ref 411) (.ref 412) 413 732 733) ::
 (nat_lit 421,c3 "rules_told" "All.rules_told" 735 177 1 3 416 417 (.ref 418) (.ref 419) 420 739 740) ::
 (nat_lit 424,dO (.type "dict") [de P "__module__" 705 (.str "grooveway.rules" 392),de P "__firstlineno__" 709 (.int 156 708),de P "__init__" 715 (.ref 403),de P "begin" 721 (.ref 408),de P "behind" 734 (.ref 415),de P "rules_told" 741 (.ref 422),de P "__static_attributes__" 743 (.ref 423),de P "__doc__" 744 .none] 2) ::
 (nat_lit 425,⟨(.type "type"),none,.cls ⟨"All",[(.ref 246)],[(.ref 425),(.ref 246),(.type "object")],424, "All",true,[],[],false,none,false⟩,#[some (.ref 392),none,some (.str "All" 698),some (.str "All" 706),some (.builtin "object.__new__"),some (.bool true)]⟩) ::
 (nat_lit 433,c3 "_law_cell_at" "_law_cell_at" 749 180 2 3 428 429 (.ref 430) (.ref 431) 432 754 755) ::
 (nat_lit 434,f3 "_law_cell_at" "_law_cell_at" ZiQ "law_grooveway_k05_rules_refused" 747 433) ::
 (nat_lit 438,c3 "_law_marks" "_law_marks" 757 184 1 3 435 436 .none .none 437 760 761) ::
 (nat_lit 439,f3 "_law_marks" "_law_marks" Jl "law_grooveway_k05_rules_refused" 747 438) ::
 (nat_lit 445,c3 "_law_bad_marks" "_law_bad_marks" 763 188 1 3 440 441 (.ref 442) (.ref 443) 444 769 770) ::
 (nat_lit 446,f3 "_law_bad_marks" "_law_bad_marks" ZiR "law_grooveway_k05_rules_refused" 747 445) ::
 (nat_lit 452,c3 "_law_out" "_law_out" 772 193 3 3 447 448 (.ref 449) (.ref 450) 451 779 780) ::
 (nat_lit 453,f3 "_law_out" "_law_out" ZiS "law_grooveway_k05_rules_refused" 747 452) ::
 (nat_lit 457,c3 "_law_strange" "_law_strange" 782 198 2 3 454 455 .none .none 456 785 786) ::
 (nat_lit 458,f3 "_law_strange" "_law_strange" Jm "law_grooveway_k05_rules_refused" 747 457) ::
 (nat_lit 464,c3 "_law_gap" "_law_gap" 788 204 4 3 459 460 (.ref 461) (.ref 462) 463 799 800) ::
 (nat_lit 465,f3 "_law_gap" "_law_gap" ZiT "law_grooveway_k05_rules_refused" 747 464) ::
 (nat_lit 469,c3 "_law_word" "_law_word" 802 216 4 3 466 467 .none .none 468 805 806) ::
 (nat_lit 470,f3 "_law_word" "_law_word" Jn "law_grooveway_k05_rules_refused" 747 469) ::
 (nat_lit 474,c3 "_law_sum" "_law_sum" 808 224 4 3 471 472 .none .none 473 811 812) ::
 (nat_lit 475,f3 "_law_sum" "_law_sum" Jo "law_grooveway_k05_rules_refused" 747 474) ::
 (nat_lit 481,c3 "_law_turn" "_law_turn" 814 238 4 3 476 477 (.ref 478) (.ref 479) 480 825 826) ::
 (nat_lit 482,f3 "_law_turn" "_law_turn" ZiU "law_grooveway_k05_rules_refused" 747 481) ::
 (nat_lit 486,c3 "_law_all" "_law_all" 828 251 4 3 483 484 .none .none 485 831 832) ::
 (nat_lit 487,f3 "_law_all" "_law_all" QC "law_grooveway_k05_rules_refused" 747 486) ::
 (nat_lit 493,c3 "_law_made" "_law_made" 834 261 4 3 488 489 (.ref 490) (.ref 491) 492 842 843) ::
 (nat_lit 494,f3 "_law_made" "_law_made" ZiV "law_grooveway_k05_rules_refused" 747 493) ::
 (nat_lit 500,c3 "_law_asked" "_law_asked" 845 276 4 3 495 496 (.ref 497) (.ref 498) 499 856 857) ::
 (nat_lit 501,f3 "_law_asked" "_law_asked" ZiW "law_grooveway_k05_rules_refused" 747 500) ::
 (nat_lit 507,c3 "_law_kinds" "_law_kinds" 859 291 1 3 502 503 (.ref 504) (.ref 505) 506 864 865) ::
 (nat_lit 508,f3 "_law_kinds" "_law_kinds" ZiX "law_grooveway_k05_rules_refused" 747 507) ::
 (nat_lit 514,c3 "_law_apart" "_law_apart" 867 295 0 3 509 510 (.ref 511) (.ref 512) 513 873 874) ::
 (nat_lit 515,f3 "_law_apart" "_law_apart" ZiY "law_grooveway_k05_rules_refused" 747 514) ::
 (nat_lit 519,c3 "law" "law" 876 305 1 3 516 517 .none .none 518 879 880) ::
 (nat_lit 520,f3 "law" "law" Jp "law_grooveway_k05_rules_refused" 747 519)::[]
set_option maxHeartbeats 0 in
theorem Zku:met PySem.Challenge.pw_grooveway_k05_rules_refused=true:=by k_qdec
set_option maxHeartbeats 0 in
theorem Zkv:met kP=true:=by k_qdec
set_option maxHeartbeats 0 in
theorem left:LeftO PySem.Challenge.pw_grooveway_k05_rules_refused (view PySem.Challenge.pw_grooveway_k05_rules_refused [0,2,3,4,5,6,7,8,9,10,11,12,14,15,16,17,18,19,20,21,22,23,24,25,27,28,29,30,31,32,33,34,35,36,37,38,39,40,41]) ["Gap"] (λs=>xlAt (view PySem.Challenge.pw_grooveway_k05_rules_refused [0,2,3,4,5,6,7,8,9,10,11,12,14,15,16,17,18,19,20,21,22,23,24,25,27,28,29,30,31,32,33,34,35,36,37,38,39,40,41]) [] s&&recOk PySem.Challenge.rw_grooveway_k05_rules_refused.row.toRowW.records s) (λs=>([2,3,20,30,31,32,43,44,55,56,67,68,79,80,91,92,103,104,115,116,127,128,143,144,146,147,162,163,165,166,172,173,179,180,186,187,193,194,207,208,214,215,221,228,235,236,242,243,245,246,247,248,258,264,265,271,272,278,281,282,295,296,302,305,306,319,320,326,329,330,345,346,352,355,356,371,372,378,379,385,388,389,402,403,407,408,414,421,424,425,433,434,438,439,445,446,452,453,457,458,464,465,469,470,474,475,481,482,486,487,493,494,500,501,507,508,514,515,519,520]:List Addr).map s.heap.get?) (λw=>(kP w.params).map λp=>some p.2) 10524:=
 HT.left_of rfl rfl (λ_=>rfl) λw=>by
  have _:=Zku;have _:=Zkv;rewrite [PySem.W.Fast.te3033944085978856459,PySem.W.Fast.te15516478828640224714,PySem.W.Fast.te5923862056798008813,PySem.W.Fast.te4187177175401517315,PySem.W.Fast.te6613529449190102663,PySem.W.Fast.te10156331382660048174,PySem.W.Fast.te11892475500146522536,PySem.W.Fast.te14364793385576792824]
  kernel_rfl
theorem kP_as:∀P,([2,3,20,30,31,32,43,44,55,56,67,68,79,80,91,92,103,104,115,116,127,128,143,144,146,147,162,163,165,166,172,173,179,180,186,187,193,194,207,208,214,215,221,228,235,236,242,243,245,246,247,248,258,264,265,271,272,278,281,282,295,296,302,305,306,319,320,326,329,330,345,346,352,355,356,371,372,378,379,385,388,389,402,403,407,408,414,421,424,425,433,434,438,439,445,446,452,453,457,458,464,465,469,470,474,475,481,482,486,487,493,494,500,501,507,508,514,515,519,520]:List Addr)=(kP P).map (·.1):=λ_=>by kernel_rfl
end K05
namespace K05
open PySem PySem.Spec PyProof.Rows L2 DL
theorem nd0:List.Nodup (["sign", "marks"]:List Str):=by decide +kernel
theorem nd1:List.Nodup (["rule"]:List Str):=by decide +kernel
theorem nd2:List.Nodup (["self", "row", "state", "place", "mark"]:List Str):=by decide +kernel
theorem nd3:List.Nodup (["worth"]:List Str):=by decide +kernel
theorem nd4:List.Nodup (["rule", "marks"]:List Str):=by decide +kernel
theorem nd5:List.Nodup (["cell", "some", "step"]:List Str):=by decide +kernel
theorem nd6:List.Nodup (["k", "some", "cell", "step"]:List Str):=by decide +kernel
theorem nd7:List.Nodup (["cell", "marks", "some"]:List Str):=by decide +kernel
theorem nd8:List.Nodup (["cell", "low", "high", "far"]:List Str):=by decide +kernel
theorem nd9:List.Nodup (["marks", "cell", "odd", "near"]:List Str):=by decide +kernel
theorem UX:List.Nodup (["own", "marks", "cells", "bad", "mark", "lowest", "most", "strange"]:List Str):=by decide +kernel
theorem ZiZ:List.Nodup (["own", "marks", "cells", "bad", "word", "at"]:List Str):=by decide +kernel
theorem Zlu:List.Nodup (["k", "marks", "cells"]:List Str):=by decide +kernel
theorem UY:List.Nodup (["own", "marks", "cells", "bad", "worths", "low", "high", "at"]:List Str):=by decide +kernel
theorem Zlv:List.Nodup (["k", "cells"]:List Str):=by decide +kernel
theorem Us:List.Nodup (["own", "marks", "cells", "bad", "mark", "every", "at", "strange"]:List Str):=by decide +kernel
theorem Jq:List.Nodup (["own", "marks", "cells", "bad", "some", "rules", "other"]:List Str):=by decide +kernel
theorem Zlw:List.Nodup (["k", "some", "cells"]:List Str):=by decide +kernel
theorem Zlx:List.Nodup (["k", "marks"]:List Str):=by decide +kernel
theorem Zly:List.Nodup (["own", "marks", "cells", "bad", "kind"]:List Str):=by decide +kernel
theorem Vu:List.Nodup (["own", "marks", "cells", "bad", "told", "kinds", "rule", "e"]:List Str):=by decide +kernel
theorem Zlg:List.Nodup (["one", "kinds"]:List Str):=by decide +kernel
theorem Zi0:List.Nodup (["some", "k", "kinds"]:List Str):=by decide +kernel
theorem Vv:List.Nodup (["script", "cut", "k", "cells", "marks", "kind", "bad", "due", "own"]:List Str):=by decide +kernel
theorem Zlz:List.Nodup (["step", "cut", "k"]:List Str):=by decide +kernel
section
variable{P:Program}{w:World}{K:PySem.W.Frag}{mg:Str->Option Value}{base:Heap}{t:Adr}
theorem Zkw(T:Txt K mg t):FnOk P w K mg base CX0 1 t.a_QF t.d_QF ["self", "row"] (Qr t.c_BadRow (Str.ofString "row")):=
 ZdI (a:=[114,111,119,32]) (b:=[32,111,102,32,116,104,101,32,112,97,103,101,32,105,115,110,39,116,32,97,32,114,111,119,32,116,104,97,116,32,109,97,121,32,115,116,97,110,100,32,116,104,101,114,101]) T.p_QF.f ZjW (by conv=>lhs;whnf) (by conv=>lhs;whnf) rfl rfl (by decide) (λcdv A outer s H E hr=>Zo (YV (ZdF T.xi_BadRow T.bs_GrooveError (by rfl) T.g_GrooveError (Zc (pv 0) (Zc (Zb1 (.cons (ZB [114,111,119,32] (by decide +kernel)) (.cons (Zdx (pv 1)) (.cons (ZB [32,111,102,32,116,104,101,32,112,97,103,101,32,105,115,110,39,116,32,97,32,114,111,119,32,116,104,97,116,32,109,97,121,32,115,116,97,110,100,32,116,104,101,114,101] (by decide +kernel)) .nil)))) Zj)))) (Zx (ZdG T.xi_BadRow (pv 0) (pv 1))))
theorem Zkx(T:Txt K mg t):FnOk P w K mg base CX0 1 t.a_QC t.d_QC ["self", "row"] (Qr t.c_BadTable (Str.ofString "row")):=
 ZdI (a:=[114,111,119,32]) (b:=[32,111,102,32,116,104,101,32,116,101,120,116,32,105,115,110,39,116,32,97,32,114,111,119,32,116,104,97,116,32,109,97,121,32,115,116,97,110,100,32,116,104,101,114,101]) T.p_QC.f ZjX (by conv=>lhs;whnf) (by conv=>lhs;whnf) rfl rfl (by decide) (λcdv A outer s H E hr=>Zo (YV (ZdF T.xi_BadTable T.bs_GrooveError (by rfl) T.g_GrooveError (Zc (pv 0) (Zc (Zb1 (.cons (ZB [114,111,119,32] (by decide +kernel)) (.cons (Zdx (pv 1)) (.cons (ZB [32,111,102,32,116,104,101,32,116,101,120,116,32,105,115,110,39,116,32,97,32,114,111,119,32,116,104,97,116,32,109,97,121,32,115,116,97,110,100,32,116,104,101,114,101] (by decide +kernel)) .nil)))) Zj)))) (Zx (ZdG T.xi_BadTable (pv 0) (pv 1))))
theorem Zky(T:Txt K mg t):FnOk P w K mg base CX0 1 t.a_QG t.d_QG ["marks"] (spD ⟨t.c,K⟩ 1 Um):=by
 refine Xl (φ:=Qy) T.p_QG.f ZjY (by conv=>lhs;whnf) (by conv=>lhs;whnf) (λcdv A outer s H E hr => ?_) rfl rfl;refine⟨_,(Zo (Yg (PW.pt (Jy (Yp Zhe (ZO (Xe (K:=K)) (by rfl) T.n_len boot_len (Zc (pv 0) Zj)) Zh (ZV _)) (Zc5 (Yp U8 (ZO (Xe (K:=K)) (by rfl) T.n_len boot_len (Zc (pv 0) Zj)) Zh (ZV _))))) (Zx (Z0 X3)) Ye)
 (Zx (Z0 (ZO (JJ (K:=K)) (by rfl) T.n_all boot_all (Zc (Ue (by rfl) (CompSd.mk1 (tn:=["sign"]) (cn:=["marks"]) (js:=[0]) (osc:=defScope Jh) (oN:=["marks"]) (by rfl) (by rfl) (by rfl) (by decide +kernel)) (UA (K:=K) (pv 0)) (λC s₂ H₂ fp=>Xo (i:=0) nd0) (λC s₂ H₂ fp=>X6) (λC s₂ H₂ fp=>(U5 (XC (JI (K:=K)) (pv 0) (Xb (by rfl) T.g_MARK_SIGNS T.r_MARK_SIGNS) (by rfl)) (U4 (XC (YL (cA:=⟨t.c,K⟩) (hr.units)) (Qf (K:=K) PySem.F.plainAttrs_str PySem.F.slot_str_count PySem.F.type_str_count ZeX (pv 1) (Zc (pv 0) Zj)) Zh (ZV _)))))) Zj))))),[],?_⟩
 unfold Qy;exact(ZI (YS (JQ (Yr (Zi VP (YI Xg (Ze (Zd 0) Zk)) (Zf (d:=(.int 2)) (by rfl) (by rfl)))) (Yr (Zi VP (YI Xg (Ze (Zd 0) Zk)) (Zf (d:=(.int 4)) (by rfl) (by rfl))))) (YB (Zf (d:=(.bl false)) (by rfl) (by rfl))) Yh)
 (YB (YI QU (Ze (VF.cl (XY (by rfl) (UH (Zd 0)) (XF 0) X7 (Qg (Zi QT (Zd 0) (Zf (d:=.str cs_MARK_SIGNS) (by rfl) (by rfl))) (Zi YM (J0 ZeY (Zd 1) (Ze (Zd 0) Zk)) (Zf (d:=(.int 1)) (by rfl) (by rfl)))))) Zk))))
theorem Zgg(T:Txt K mg t):FnOk P w K mg base CX0 1 t.a_Q5 t.d_Q5 ["marks", "text"] (spD ⟨t.c,K⟩ 2 VZ):=by
 refine Xl (φ:=Qz) T.p_Q5.f ZjZ (by conv=>lhs;whnf) (by conv=>lhs;whnf) (λcdv A outer s H E hr => ?_) rfl rfl;refine⟨_,(Zx (Z0 (U5 (XC (YL (cA:=⟨t.c,K⟩) (hr.units)) (ZO (Xe (K:=K)) (by rfl) T.n_len boot_len (Zc (pv 1) Zj)) Zh (ZV _)) (U4 (XC (JI (K:=K)) (pv 1) (pv 0) (by rfl)))))),[],?_⟩;unfold Qz;exact(YB (Qg (Zi YM (YI Xg (Ze (Zd 1) Zk)) (Zf (d:=(.int 1)) (by rfl) (by rfl))) (Zi QT (Zd 1) (Zd 0))))
theorem ZeB(T:Txt K mg t):FnOk P w K mg base CX0 1 t.a_QY t.d_QY ["number", "low", "high"] (spD ⟨t.c,K⟩ 3 X2):=by
 refine Xl (φ:=Ziu) T.p_QY.f Zj0 (by conv=>lhs;whnf) (by conv=>lhs;whnf) (λcdv A outer s H E hr => ?_) rfl rfl;refine⟨_,(Zo (Yg (PW.pt (Jy (V4 (ZO (JX (K:=K)) (by rfl) T.n_isinstance boot_isinstance (Zc (pv 0) (Zc (QI (v:=.ty "bool") (by rfl) T.n_bool boot_bool rfl) Zj)))) (Zc5 (Uu (V4 (ZO (JX (K:=K)) (by rfl) T.n_isinstance boot_isinstance (Zc (pv 0) (Zc (QI (v:=.ty "int") (by rfl) T.n_int boot_int rfl) Zj)))))))) (Zx (Z0 X3)) Ye)
 (Zx (Z0 (Zcj QL QL (pv 1) (pv 0) (pv 2))))),[],?_⟩
 unfold Ziu;exact(ZI (YS (JQ (Ub (JZ (λ_ h=>h) T.isi_bool (Zd 0))) (UE (Ub (JZ (λ_ h=>h) T.isi_int (Zd 0))))) (YB (Zf (d:=(.bl false)) (by rfl) (by rfl))) Yh)
 (YB (Zcm (Zd 1) (Zd 0) (Zd 2))))
theorem QD(T:Txt K mg t):FnOk P w K mg base (CX1 P w) 1 t.a_Q6 t.d_Q6 ["holds", "words"] (spX ⟨t.c,K⟩ 2 (okD ZaE) (erD ZaE)):=by
 refine US (r:=Zjh) T.p_Q6.f Zj1 (by conv=>lhs;whnf) (by conv=>lhs;whnf) (λcdv A outer s H E hr => ?_) rfl rfl;refine⟨_,(Zx (Yg (Uu (V4 (pv 0))) (Zx (Zcu (by rfl) T.g_BadRule T.en_BadRule ZbS (Zc (pv 1) Zj))) Ye)),[],?_⟩;unfold Zjh;exact(Uj (UE (Ub (Zd 0))) (ZcB "BadRule" (by rfl) (Ze (Zd 1) Zk)) (ZT Yh))
theorem Ut(T:Txt K mg t):FnOk P w K mg base (CX2 P w) 2 t.a_QQ t.d_QQ ["self", "marks"] (Ys ⟨t.c,K⟩ 2 (okD Z2) (erD Z2)):=by
 have G_QG:=(Zky (P:=P) (w:=w) (base:=base) T).mono (k:=1) (by decide);refine UT (r:=Zji) T.p_QQ.f Zj2 (by conv=>lhs;whnf) (by conv=>lhs;whnf) (λcdv A outer s H E self hr => ?_) rfl rfl;refine⟨_,(Zo (Yg (Uu (V4 (ZL (G_QG) hr (by rfl) T.p_QG.g T.p_QG.k T.p_QG.b .nil Yq (Zc (pv 1) Zj)))) (Zx (Zcu (by rfl) T.g_BadMarks T.en_BadMarks Zbk (Zc (Zb1 (.cons (ZB [109,97,114,107,115,32,97,114,101,32,50,32,116,111,32,52,32,117,110,108,105,107,101,32,115,109,97,108,108,32,108,101,116,116,101,114,115,32,111,114,32,102,105,103,117,114,101,115,44,32,110,111,116,32] (by decide +kernel)) (.cons (ZgF (pv 1)) .nil))) Zj))) Ye)
 (Zx (XU (pv 0) (pv 1) (by rfl)))),?_⟩
 unfold Zji;exact(ZH (Uj (UE (Ub (YJ [] (by rfl) (Ze (Zd 1) Zk)))) (ZcB "BadMarks" (by rfl) (Ze (ZgH (.cons (Zf (d:=(.str [109,97,114,107,115,32,97,114,101,32,50,32,116,111,32,52,32,117,110,108,105,107,101,32,115,109,97,108,108,32,108,101,116,116,101,114,115,32,111,114,32,102,105,103,117,114,101,115,44,32,110,111,116,32])) (by rfl) (by rfl)) (.cons (ZgG (Zd 1)) .nil))) Zk)) (ZT Yh))
 (ZT (X0 0 (by rfl) T.fl_marks (Zd 1))))
theorem Zhu(T:Txt K mg t):FnOk P w K mg base CX0 1 t.a_QP t.d_QP ["self"] (spD ⟨t.c,K⟩ 1 Vt):=by
 refine Xl (φ:=Zjj) T.p_QP.f Zj3 (by conv=>lhs;whnf) (by conv=>lhs;whnf) (λcdv A outer s H E hr => ?_) rfl rfl;refine⟨_,(Zx (Z0 Zh)),[],?_⟩;unfold Zjj;exact(YB (Zf (d:=(.int 0)) (by rfl) (by rfl)))
theorem Zhv(T:Txt K mg t):FnOk P w K mg base CX0 1 t.a_QR t.d_QR ["self"] (spD ⟨t.c,K⟩ 1 Ziv):=by
 refine Xl (φ:=Zjk) T.p_QR.f Zj4 (by conv=>lhs;whnf) (by conv=>lhs;whnf) (λcdv A outer s H E hr => ?_) rfl rfl;refine⟨_,(Zx (Z0 (JK (K:=K) (pv 0)))),[],?_⟩;unfold Zjk;exact(YB (J4 T.fl_least (Zd 0)))
theorem Zhw(T:Txt K mg t):FnOk P w K mg base CX0 1 t.a_QH t.d_QH ["self"] (spD ⟨t.c,K⟩ 1 Ziw):=by
 refine Xl (φ:=Zjl) T.p_QH.f Zj5 (by conv=>lhs;whnf) (by conv=>lhs;whnf) (λcdv A outer s H E hr => ?_) rfl rfl;refine⟨_,(Zx (Z0 (Zc7 (Zc Zh (Zc Zh Zj))))),[],?_⟩;unfold Zjl;exact(YB (Zh2 (Ze (Zf (d:=(.int 0)) (by rfl) (by rfl)) (Ze (Zf (d:=(.int 0)) (by rfl) (by rfl)) Zk))))
theorem Zkz(T:Txt K mg t):FnOk P w K mg base CX0 2 t.a_QU t.d_QU ["self"] (spD ⟨t.c,K⟩ 1 Zix):=by
 have G_QP:=(Zhu (P:=P) (w:=w) (base:=base) T).mono (k:=1) (by decide);have G_QR:=(Zhv (P:=P) (w:=w) (base:=base) T).mono (k:=1) (by decide);have G_QH:=(Zhw (P:=P) (w:=w) (base:=base) T).mono (k:=1) (by decide);refine Xl (φ:=Zjm) T.p_QU.f Zj6 (by conv=>lhs;whnf) (by conv=>lhs;whnf) (λcdv A outer s H E hr => ?_) rfl rfl;refine⟨_,(Zx (Z0 (V7 (JL (K:=K)) (by rfl) T.n_tuple boot_tuple (Zc (Ue (by rfl) (CompSd.mk1 (tn:=["rule"]) (cn:=[]) (js:=[]) (osc:=defScope Ji) (oN:=["self"]) (by rfl) (by rfl) (by rfl) (by decide +kernel)) (UA (K:=K) (JK (K:=K) (pv 0))) (λC s₂ H₂ fp=>Xo (i:=0) nd1) (λC s₂ H₂ fp=>X6) (λC s₂ H₂ fp=>(ZbB (cA:=⟨t.c,K⟩) (tab:=Zaj) (m:="begin") ⟨⟨t.a_QP,t.d_QP,["self"],T.cl_Rule,T.me_Rule_begin,G_QP,T.p_QP.b⟩,⟨⟨t.a_QR,t.d_QR,["self"],T.cl_Gap,T.me_Gap_begin,G_QR,T.p_QR.b⟩,⟨⟨t.a_QP,t.d_QP,["self"],T.cl_Never,T.me_Never_begin,G_QP,T.p_QP.b⟩,⟨⟨t.a_QP,t.d_QP,["self"],T.cl_Sum,T.me_Sum_begin,G_QP,T.p_QP.b⟩,⟨⟨t.a_QP,t.d_QP,["self"],T.cl_Turn,T.me_Turn_begin,G_QP,T.p_QP.b⟩,⟨⟨t.a_QH,t.d_QH,["self"],T.cl_Alike,T.me_Alike_begin,G_QH,T.p_QH.b⟩,trivial⟩⟩⟩⟩⟩⟩ hr (pv 0)))) Zj)))),[],?_⟩
 unfold Zjm;exact(YB (JT (Ze (VF.cl (XY (by rfl) (UH (J4 T.fl_rules (Zd 0))) (XF 0) X7 (J5 (Zd 0) Zk))) Zk)))
theorem ZkA(T:Txt K mg t):FnOk P w K mg base CX0 3 t.a_QA t.d_QA ["self", "row"] (spD ⟨t.c,K⟩ 2 V0):=by
 have G_QP:=(Zhu (P:=P) (w:=w) (base:=base) T).mono (k:=2) (by decide);have G_QR:=(Zhv (P:=P) (w:=w) (base:=base) T).mono (k:=2) (by decide);have G_QH:=(Zhw (P:=P) (w:=w) (base:=base) T).mono (k:=2) (by decide);have G_QU:=(Zkz (P:=P) (w:=w) (base:=base) T).mono (k:=2) (by decide);refine Xl (φ:=Zjn) T.p_QA.f Zj7 (by conv=>lhs;whnf) (by conv=>lhs;whnf) (λcdv A outer s H E hr => ?_) rfl rfl
 refine⟨_,(Zo (ZF (i:=2) nd2 (by rfl) (by first|exact Or.inl rfl|exact Or.inr rfl) (ZbB (cA:=⟨t.c,K⟩) (tab:=ZaM) (m:="begin") ⟨⟨t.a_QP,t.d_QP,["self"],T.cl_Rule,T.me_Rule_begin,G_QP,T.p_QP.b⟩,⟨⟨t.a_QR,t.d_QR,["self"],T.cl_Gap,T.me_Gap_begin,G_QR,T.p_QR.b⟩,⟨⟨t.a_QP,t.d_QP,["self"],T.cl_Never,T.me_Never_begin,G_QP,T.p_QP.b⟩,⟨⟨t.a_QP,t.d_QP,["self"],T.cl_Sum,T.me_Sum_begin,G_QP,T.p_QP.b⟩,⟨⟨t.a_QP,t.d_QP,["self"],T.cl_Turn,T.me_Turn_begin,G_QP,T.p_QP.b⟩,⟨⟨t.a_QH,t.d_QH,["self"],T.cl_Alike,T.me_Alike_begin,G_QH,T.p_QH.b⟩,⟨⟨t.a_QU,t.d_QU,["self"],T.cl_All,T.me_All_begin,G_QU,T.p_QU.b⟩,trivial⟩⟩⟩⟩⟩⟩⟩ hr (pv 0)))
 (Zo (Zc6 PassesOwn.never (by rfl) (Ze0 (by rfl) T.n_enumerate (pv 1)) (ZjL (K:=K) (n:=2) (Zci (Xo (i:=3) nd2) (Zci (Xo (i:=4) nd2) Zgn))) ZdZ)
 (Zx (Z0 ZfD)))),[],?_⟩
 unfold Zjn;exact(ZI (show VS _ _ [] _ _ _ _ from(ZD 2 (J5 (Zd 0) Zk)))
 (ZI (Zdd (Ze1 (Zd 1)) (Zh3 (Zcp 3 (by rfl) (by rfl) (Zcp 4 (by rfl) (by rfl) Zgy))) ZeV)
 (YB (Zf (d:=.non) (by rfl) (by rfl)))))
theorem ZkB(T:Txt K mg t):FnOk P w K mg base CX0 4 t.a_QN t.d_QN ["self", "row"] (spD ⟨t.c,K⟩ 2 Vm):=by
 have G_QA:=(ZkA (P:=P) (w:=w) (base:=base) T).mono (k:=3) (by decide);refine Xl (φ:=Zjo) T.p_QN.f Zj8 (by conv=>lhs;whnf) (by conv=>lhs;whnf) (λcdv A outer s H E hr => ?_) rfl rfl;refine⟨_,(Zx (Z0 (ZfF (ZfE (Zct (cA:=⟨t.c,K⟩) (tab:=Zaf) (m:="broken_at") ⟨⟨t.a_QA,t.d_QA,["self", "row"],T.cl_Rule,T.me_Rule_broken_at,G_QA,T.p_QA.b⟩,⟨⟨t.a_QA,t.d_QA,["self", "row"],T.cl_Gap,T.me_Gap_broken_at,G_QA,T.p_QA.b⟩,⟨⟨t.a_QA,t.d_QA,["self", "row"],T.cl_Never,T.me_Never_broken_at,G_QA,T.p_QA.b⟩,⟨⟨t.a_QA,t.d_QA,["self", "row"],T.cl_Sum,T.me_Sum_broken_at,G_QA,T.p_QA.b⟩,⟨⟨t.a_QA,t.d_QA,["self", "row"],T.cl_Turn,T.me_Turn_broken_at,G_QA,T.p_QA.b⟩,⟨⟨t.a_QA,t.d_QA,["self", "row"],T.cl_Alike,T.me_Alike_broken_at,G_QA,T.p_QA.b⟩,⟨⟨t.a_QA,t.d_QA,["self", "row"],T.cl_All,T.me_All_broken_at,G_QA,T.p_QA.b⟩,trivial⟩⟩⟩⟩⟩⟩⟩ hr (pv 0) (Zc (pv 1) Zj)))))),[],?_⟩
 unfold Zjo;exact(YB (ZfO (J5 (Zd 0) (Ze (Zd 1) Zk))))
theorem Zhx(T:Txt K mg t):FnOk P w K mg base (CX2 P w) 3 t.a_QZ t.d_QZ ["self", "marks", "mark", "least", "most"] (Ys ⟨t.c,K⟩ 5 (okD Xm) (erD Xm)):=by
 have G_QQ:FnOk P w K mg base (CX2 P w) 2 t.a_QQ t.d_QQ ["self", "marks"] (Ys ⟨t.c,K⟩ 2 (okD Z2) (erD Z2)):=(Ut T).mono (by decide);have G_Q6:=(QD (P:=P) (w:=w) (base:=base) T).mono (k:=2) (by decide);have G_Q5:=(Zgg (P:=P) (w:=w) (base:=base) T).mono (k:=2) (by decide);have G_QY:=(ZeB (P:=P) (w:=w) (base:=base) T).mono (k:=2) (by decide);refine UT (r:=f_QZ) T.f_QZ Zj9 (by conv=>lhs;whnf) (by conv=>lhs;whnf) (λcdv A outer s H E self hr => ?_) rfl rfl
 refine⟨_,(Zo (YV (Qk (by rfl) T.g_Rule T.cm_Rule_init G_QQ hr T.p_QQ.b .nil UM (Zc (pv 0) (Zc (pv 1) Zj))))
 (Zo (YV (ZL (G_Q6) hr (by rfl) T.p_Q6.g T.p_Q6.k T.p_Q6.b .nil Xu (Zc (ZL (G_Q5) hr (by rfl) T.p_Q5.g T.p_Q5.k T.p_Q5.b .nil Yq (Zc (pv 1) (Zc (pv 2) Zj))) (Zc (ZB [97,32,71,97,112,39,115,32,109,97,114,107,32,105,115,32,111,110,101,32,111,102,32,116,104,101,32,109,97,114,107,115] (by decide +kernel)) Zj))))
 (Zo (YV (ZL (G_Q6) hr (by rfl) T.p_Q6.g T.p_Q6.k T.p_Q6.b .nil Xu (Zc (ZL (G_QY) hr (by rfl) T.p_QY.g T.p_QY.k T.p_QY.b .nil Yq (Zc (pv 3) (Zc Zh (Zc Zh Zj)))) (Zc (ZB [97,32,71,97,112,39,115,32,108,101,97,115,116,32,105,115,32,102,114,111,109,32,48,32,116,111,32,56] (by decide +kernel)) Zj))))
 (Zo (YV (ZL (G_Q6) hr (by rfl) T.p_Q6.g T.p_Q6.k T.p_Q6.b .nil Xu (Zc (ZjF (ZfF (ZfE (pv 4))) (U4 (ZL (G_QY) hr (by rfl) T.p_QY.g T.p_QY.k T.p_QY.b .nil Yq (Zc (pv 4) (Zc (pv 3) (Zc Zh Zj)))))) (Zc (ZB [97,32,71,97,112,39,115,32,109,111,115,116,32,105,115,32,78,111,110,101,32,111,114,32,102,114,111,109,32,108,101,97,115,116,32,116,111,32,56] (by decide +kernel)) Zj))))
 (Zo (XU (pv 0) (pv 2) (by rfl))
 (Zo (XU (pv 0) (pv 3) (by rfl))
 (Zx (XU (pv 0) (pv 4) (by rfl))))))))),?_⟩
 unfold f_QZ;exact(ZH (Qv 0 (by rfl) [] (by rfl) (Ze (Zd 1) Zk))
 (ZH (Xx Xy Xz (YJ [] (by rfl) (Ze (Zd 1) (Ze (Zd 2) Zk))))
 (ZH (Xx Xy Xz (YJ [] (by rfl) (Ze (Zd 3) (Ze (Zf (d:=(.int 0)) (by rfl) (by rfl)) (Ze (Zf (d:=(.int 8)) (by rfl) (by rfl)) Zk)))))
 (ZH (Xx Xy Xz (ZjN (ZfO (Zd 4)) (YJ [] (by rfl) (Ze (Zd 4) (Ze (Zd 3) (Ze (Zf (d:=(.int 8)) (by rfl) (by rfl)) Zk))))))
 (ZT (ZI (X0 0 (by rfl) T.fl_mark (Zd 2))
 (ZI (X0 0 (by rfl) T.fl_least (Zd 3))
 (X0 0 (by rfl) T.fl_most (Zd 4)))))))))
theorem ZkC(T:Txt K mg t):FnOk P w K mg base (CX2 P w) 3 t.a_QO t.d_QO ["self", "marks", "word"] (Ys ⟨t.c,K⟩ 3 (okD Uo) (erD Uo)):=by
 have G_QQ:FnOk P w K mg base (CX2 P w) 2 t.a_QQ t.d_QQ ["self", "marks"] (Ys ⟨t.c,K⟩ 2 (okD Z2) (erD Z2)):=(Ut T).mono (by decide);have G_Q6:=(QD (P:=P) (w:=w) (base:=base) T).mono (k:=2) (by decide);have G_Q5:=(Zgg (P:=P) (w:=w) (base:=base) T).mono (k:=2) (by decide);refine UT (r:=Zjp) T.p_QO.f Zka (by conv=>lhs;whnf) (by conv=>lhs;whnf) (λcdv A outer s H E self hr => ?_) rfl rfl
 refine⟨_,(Zo (YV (Qk (by rfl) T.g_Rule T.cm_Rule_init G_QQ hr T.p_QQ.b .nil UM (Zc (pv 0) (Zc (pv 1) Zj))))
 (Zo (YV (ZL (G_Q6) hr (by rfl) T.p_Q6.g T.p_Q6.k T.p_Q6.b .nil Xu (Zc (Zcj QL QL Zh (ZO (Xe (K:=K)) (by rfl) T.n_len boot_len (Zc (pv 2) Zj)) Zh) (Zc (ZB [97,32,78,101,118,101,114,39,115,32,119,111,114,100,32,104,97,115,32,49,32,116,111,32,54,32,115,105,103,110,115] (by decide +kernel)) Zj))))
 (Zo (YV (ZL (G_Q6) hr (by rfl) T.p_Q6.g T.p_Q6.k T.p_Q6.b .nil Xu (Zc (ZO (JJ (K:=K)) (by rfl) T.n_all boot_all (Zc (Ue (by rfl) (CompSd.mk1 (tn:=["sign"]) (cn:=["marks"]) (js:=[1]) (osc:=defScope Jj) (oN:=["self", "marks", "word"]) (by rfl) (by rfl) (by rfl) (by decide +kernel)) (UA (K:=K) (pv 2)) (λC s₂ H₂ fp=>Xo (i:=0) nd0) (λC s₂ H₂ fp=>X6) (λC s₂ H₂ fp=>(ZL (G_Q5) hr (by rfl) T.p_Q5.g T.p_Q5.k T.p_Q5.b .nil Yq (Zc (pv 1) (Zc (pv 0) Zj))))) Zj)) (Zc (ZB [97,32,78,101,118,101,114,39,115,32,119,111,114,100,32,105,115,32,111,102,32,109,97,114,107,115] (by decide +kernel)) Zj))))
 (Zx (XU (pv 0) (pv 2) (by rfl)))))),?_⟩
 unfold Zjp;exact(ZH (Qv 0 (by rfl) [] (by rfl) (Ze (Zd 1) Zk))
 (ZH (Xx Xy Xz (Zcm (Zf (d:=(.int 1)) (by rfl) (by rfl)) (YI Xg (Ze (Zd 2) Zk)) (Zf (d:=(.int 6)) (by rfl) (by rfl))))
 (ZH (Xx Xy Xz (YI QU (Ze (VF.cl (XY (by rfl) (UH (Zd 2)) (XF 0) X7 (YJ [] (by rfl) (Ze (Zd 1) (Ze (Zd 0) Zk))))) Zk)))
 (ZT (X0 0 (by rfl) T.fl_word (Zd 2))))))
theorem ZkD(T:Txt K mg t):FnOk P w K mg base (CX2 P w) 3 t.a_Q2 t.d_Q2 ["self", "marks", "worths", "low", "high"] (Ys ⟨t.c,K⟩ 5 (okD Up) (erD Up)):=by
 have G_QQ:FnOk P w K mg base (CX2 P w) 2 t.a_QQ t.d_QQ ["self", "marks"] (Ys ⟨t.c,K⟩ 2 (okD Z2) (erD Z2)):=(Ut T).mono (by decide);have G_Q6:=(QD (P:=P) (w:=w) (base:=base) T).mono (k:=2) (by decide);have G_QY:=(ZeB (P:=P) (w:=w) (base:=base) T).mono (k:=2) (by decide);refine UT (r:=Zjq) T.p_Q2.f Zkb (by conv=>lhs;whnf) (by conv=>lhs;whnf) (λcdv A outer s H E self hr => ?_) rfl rfl
 refine⟨_,(Zo (YV (Qk (by rfl) T.g_Rule T.cm_Rule_init G_QQ hr T.p_QQ.b .nil UM (Zc (pv 0) (Zc (pv 1) Zj))))
 (Zo (YV (ZL (G_Q6) hr (by rfl) T.p_Q6.g T.p_Q6.k T.p_Q6.b .nil Xu (Zc (XC (YL (cA:=⟨t.c,K⟩) (hr.units)) (ZO (Xe (K:=K)) (by rfl) T.n_len boot_len (Zc (pv 2) Zj)) (ZO (Xe (K:=K)) (by rfl) T.n_len boot_len (Zc (pv 1) Zj)) (ZV _)) (Zc (ZB [97,32,83,117,109,32,104,97,115,32,97,115,32,109,97,110,121,32,119,111,114,116,104,115,32,97,115,32,116,104,101,114,101,32,97,114,101,32,109,97,114,107,115] (by decide +kernel)) Zj))))
 (Zo (YV (ZL (G_Q6) hr (by rfl) T.p_Q6.g T.p_Q6.k T.p_Q6.b .nil Xu (Zc (ZO (JJ (K:=K)) (by rfl) T.n_all boot_all (Zc (Ue (by rfl) (CompSd.mk1 (tn:=["worth"]) (cn:=[]) (js:=[]) (osc:=defScope Jk) (oN:=["self", "marks", "worths", "low", "high"]) (by rfl) (by rfl) (by rfl) (by decide +kernel)) (UA (K:=K) (pv 2)) (λC s₂ H₂ fp=>Xo (i:=0) nd3) (λC s₂ H₂ fp=>X6) (λC s₂ H₂ fp=>(ZL (G_QY) hr (by rfl) T.p_QY.g T.p_QY.k T.p_QY.b .nil Yq (Zc (pv 0) (Zc (U6 U7 Zh) (Zc Zh Zj)))))) Zj)) (Zc (ZB [97,32,83,117,109,39,115,32,119,111,114,116,104,115,32,97,114,101,32,102,114,111,109,32,45,51,32,116,111,32,51] (by decide +kernel)) Zj))))
 (Zo (YV (ZL (G_Q6) hr (by rfl) T.p_Q6.g T.p_Q6.k T.p_Q6.b .nil Xu (Zc (ZL (G_QY) hr (by rfl) T.p_QY.g T.p_QY.k T.p_QY.b .nil Yq (Zc (pv 3) (Zc (U6 U7 Zh) (Zc Zh Zj)))) (Zc (ZB [97,32,83,117,109,39,115,32,108,111,119,32,105,115,32,102,114,111,109,32,45,56,32,116,111,32,48] (by decide +kernel)) Zj))))
 (Zo (YV (ZL (G_Q6) hr (by rfl) T.p_Q6.g T.p_Q6.k T.p_Q6.b .nil Xu (Zc (ZL (G_QY) hr (by rfl) T.p_QY.g T.p_QY.k T.p_QY.b .nil Yq (Zc (pv 4) (Zc Zh (Zc Zh Zj)))) (Zc (ZB [97,32,83,117,109,39,115,32,104,105,103,104,32,105,115,32,102,114,111,109,32,48,32,116,111,32,56] (by decide +kernel)) Zj))))
 (Zo (XU (pv 0) (V7 (JL (K:=K)) (by rfl) T.n_tuple boot_tuple (Zc (pv 2) Zj)) (by rfl))
 (Zo (XU (pv 0) (pv 3) (by rfl))
 (Zx (XU (pv 0) (pv 4) (by rfl)))))))))),?_⟩
 unfold Zjq;exact(ZH (Qv 0 (by rfl) [] (by rfl) (Ze (Zd 1) Zk))
 (ZH (Xx Xy Xz (Zi YM (YI Xg (Ze (Zd 2) Zk)) (YI Xg (Ze (Zd 1) Zk))))
 (ZH (Xx Xy Xz (YI QU (Ze (VF.cl (XY (by rfl) (UH (Zd 2)) (XF 0) X7 (YJ [] (by rfl) (Ze (Zd 0) (Ze (Qh (Zf (d:=(.int 3)) (by rfl) (by rfl))) (Ze (Zf (d:=(.int 3)) (by rfl) (by rfl)) Zk)))))) Zk)))
 (ZH (Xx Xy Xz (YJ [] (by rfl) (Ze (Zd 3) (Ze (Qh (Zf (d:=(.int 8)) (by rfl) (by rfl))) (Ze (Zf (d:=(.int 0)) (by rfl) (by rfl)) Zk)))))
 (ZH (Xx Xy Xz (YJ [] (by rfl) (Ze (Zd 4) (Ze (Zf (d:=(.int 0)) (by rfl) (by rfl)) (Ze (Zf (d:=(.int 8)) (by rfl) (by rfl)) Zk)))))
 (ZT (ZI (X0 0 (by rfl) T.fl_worths (JT (Ze (Zd 2) Zk)))
 (ZI (X0 0 (by rfl) T.fl_low (Zd 3))
 (X0 0 (by rfl) T.fl_high (Zd 4))))))))))
theorem ZkE(T:Txt K mg t):FnOk P w K mg base (CX2 P w) 3 t.a_QT t.d_QT ["self", "marks", "mark", "every", "at"] (Ys ⟨t.c,K⟩ 5 (okD Vc) (erD Vc)):=by
 have G_QQ:FnOk P w K mg base (CX2 P w) 2 t.a_QQ t.d_QQ ["self", "marks"] (Ys ⟨t.c,K⟩ 2 (okD Z2) (erD Z2)):=(Ut T).mono (by decide);have G_Q6:=(QD (P:=P) (w:=w) (base:=base) T).mono (k:=2) (by decide);have G_Q5:=(Zgg (P:=P) (w:=w) (base:=base) T).mono (k:=2) (by decide);have G_QY:=(ZeB (P:=P) (w:=w) (base:=base) T).mono (k:=2) (by decide);refine UT (r:=UV) T.p_QT.f Zkc (by conv=>lhs;whnf) (by conv=>lhs;whnf) (λcdv A outer s H E self hr => ?_) rfl rfl
 refine⟨_,(Zo (YV (Qk (by rfl) T.g_Rule T.cm_Rule_init G_QQ hr T.p_QQ.b .nil UM (Zc (pv 0) (Zc (pv 1) Zj))))
 (Zo (YV (ZL (G_Q6) hr (by rfl) T.p_Q6.g T.p_Q6.k T.p_Q6.b .nil Xu (Zc (ZL (G_Q5) hr (by rfl) T.p_Q5.g T.p_Q5.k T.p_Q5.b .nil Yq (Zc (pv 1) (Zc (pv 2) Zj))) (Zc (ZB [97,32,84,117,114,110,39,115,32,109,97,114,107,32,105,115,32,111,110,101,32,111,102,32,116,104,101,32,109,97,114,107,115] (by decide +kernel)) Zj))))
 (Zo (YV (ZL (G_Q6) hr (by rfl) T.p_Q6.g T.p_Q6.k T.p_Q6.b .nil Xu (Zc (ZL (G_QY) hr (by rfl) T.p_QY.g T.p_QY.k T.p_QY.b .nil Yq (Zc (pv 3) (Zc Zh (Zc Zh Zj)))) (Zc (ZB [97,32,84,117,114,110,39,115,32,101,118,101,114,121,32,105,115,32,102,114,111,109,32,49,32,116,111,32,54] (by decide +kernel)) Zj))))
 (Zo (YV (ZL (G_Q6) hr (by rfl) T.p_Q6.g T.p_Q6.k T.p_Q6.b .nil Xu (Zc (ZL (G_QY) hr (by rfl) T.p_QY.g T.p_QY.k T.p_QY.b .nil Yq (Zc (pv 4) (Zc Zh (Zc (Zr Uy (pv 3) Zh) Zj)))) (Zc (ZB [97,32,84,117,114,110,39,115,32,97,116,32,105,115,32,102,114,111,109,32,48,32,116,111,32,111,110,101,32,98,101,108,111,119,32,101,118,101,114,121] (by decide +kernel)) Zj))))
 (Zo (XU (pv 0) (pv 2) (by rfl))
 (Zo (XU (pv 0) (pv 3) (by rfl))
 (Zx (XU (pv 0) (pv 4) (by rfl))))))))),?_⟩
 unfold UV;exact(ZH (Qv 0 (by rfl) [] (by rfl) (Ze (Zd 1) Zk))
 (ZH (Xx Xy Xz (YJ [] (by rfl) (Ze (Zd 1) (Ze (Zd 2) Zk))))
 (ZH (Xx Xy Xz (YJ [] (by rfl) (Ze (Zd 3) (Ze (Zf (d:=(.int 1)) (by rfl) (by rfl)) (Ze (Zf (d:=(.int 6)) (by rfl) (by rfl)) Zk)))))
 (ZH (Xx Xy Xz (YJ [] (by rfl) (Ze (Zd 4) (Ze (Zf (d:=(.int 0)) (by rfl) (by rfl)) (Ze (Zi UD (Zd 3) (Zf (d:=(.int 1)) (by rfl) (by rfl))) Zk)))))
 (ZT (ZI (X0 0 (by rfl) T.fl_mark (Zd 2))
 (ZI (X0 0 (by rfl) T.fl_every (Zd 3))
 (X0 0 (by rfl) T.fl_at (Zd 4)))))))))
theorem Zhy(T:Txt K mg t):FnOk P w K mg base (CX2 P w) 3 t.a_QL t.d_QL ["self", "marks", "most"] (Ys ⟨t.c,K⟩ 3 (okD XI) (erD XI)):=by
 have G_QQ:FnOk P w K mg base (CX2 P w) 2 t.a_QQ t.d_QQ ["self", "marks"] (Ys ⟨t.c,K⟩ 2 (okD Z2) (erD Z2)):=(Ut T).mono (by decide);have G_Q6:=(QD (P:=P) (w:=w) (base:=base) T).mono (k:=2) (by decide);have G_QY:=(ZeB (P:=P) (w:=w) (base:=base) T).mono (k:=2) (by decide);refine UT (r:=Ja) T.p_QL.f Zkd (by conv=>lhs;whnf) (by conv=>lhs;whnf) (λcdv A outer s H E self hr => ?_) rfl rfl
 refine⟨_,(Zo (YV (Qk (by rfl) T.g_Rule T.cm_Rule_init G_QQ hr T.p_QQ.b .nil UM (Zc (pv 0) (Zc (pv 1) Zj))))
 (Zo (YV (ZL (G_Q6) hr (by rfl) T.p_Q6.g T.p_Q6.k T.p_Q6.b .nil Xu (Zc (ZL (G_QY) hr (by rfl) T.p_QY.g T.p_QY.k T.p_QY.b .nil Yq (Zc (pv 2) (Zc Zh (Zc Zh Zj)))) (Zc (ZB [97,110,32,65,108,105,107,101,39,115,32,109,111,115,116,32,105,115,32,102,114,111,109,32,49,32,116,111,32,54] (by decide +kernel)) Zj))))
 (Zx (XU (pv 0) (pv 2) (by rfl))))),?_⟩
 unfold Ja;exact(ZH (Qv 0 (by rfl) [] (by rfl) (Ze (Zd 1) Zk))
 (ZH (Xx Xy Xz (YJ [] (by rfl) (Ze (Zd 2) (Ze (Zf (d:=(.int 1)) (by rfl) (by rfl)) (Ze (Zf (d:=(.int 6)) (by rfl) (by rfl)) Zk)))))
 (ZT (X0 0 (by rfl) T.fl_most (Zd 2)))))
theorem ZkF(T:Txt K mg t):FnOk P w K mg base (CX2 P w) 3 t.a_Q1 t.d_Q1 ["self", "marks", "rules"] (Ys ⟨t.c,K⟩ 3 (okD Vn) (erD Vn)):=by
 have G_QQ:FnOk P w K mg base (CX2 P w) 2 t.a_QQ t.d_QQ ["self", "marks"] (Ys ⟨t.c,K⟩ 2 (okD Z2) (erD Z2)):=(Ut T).mono (by decide);have G_Q6:=(QD (P:=P) (w:=w) (base:=base) T).mono (k:=2) (by decide);refine UT (r:=Zjr) T.p_Q1.f Zke (by conv=>lhs;whnf) (by conv=>lhs;whnf) (λcdv A outer s H E self hr => ?_) rfl rfl;refine⟨_,(Zo (YV (Qk (by rfl) T.g_Rule T.cm_Rule_init G_QQ hr T.p_QQ.b .nil UM (Zc (pv 0) (Zc (pv 1) Zj))))
 (Zo (YV (ZL (G_Q6) hr (by rfl) T.p_Q6.g T.p_Q6.k T.p_Q6.b .nil Xu (Zc (XC QL (ZO (Xe (K:=K)) (by rfl) T.n_len boot_len (Zc (pv 2) Zj)) Zh (ZV _)) (Zc (ZB [97,110,32,65,108,108,32,104,97,115,32,97,116,32,109,111,115,116,32,54,32,114,117,108,101,115] (by decide +kernel)) Zj))))
 (Zo (YV (ZL (G_Q6) hr (by rfl) T.p_Q6.g T.p_Q6.k T.p_Q6.b .nil Xu (Zc (ZhL (ZO (ZjK (K:=K)) (by rfl) T.n_any boot_any (Zc (Ue (by rfl) (CompSd.mk1 (tn:=["rule"]) (cn:=[]) (js:=[]) (osc:=defScope QB) (oN:=["self", "marks", "rules"]) (by rfl) (by rfl) (by rfl) (by decide +kernel)) (UA (K:=K) (pv 2)) (λC s₂ H₂ fp=>Xo (i:=0) nd1) (λC s₂ H₂ fp=>X6) (λC s₂ H₂ fp=>(ZO (JX (K:=K)) (by rfl) T.n_isinstance boot_isinstance (Zc (pv 0) (Zc (Xb (v:=.ref (t.c "All")) (by rfl) T.g_All (by rfl)) Zj))))) Zj))) (Zc (ZB [110,111,32,114,117,108,101,32,105,110,32,97,110,32,65,108,108,32,105,115,32,97,110,32,65,108,108] (by decide +kernel)) Zj))))
 (Zo (YV (ZL (G_Q6) hr (by rfl) T.p_Q6.g T.p_Q6.k T.p_Q6.b .nil Xu (Zc (ZO (JJ (K:=K)) (by rfl) T.n_all boot_all (Zc (Ue (by rfl) (CompSd.mk1 (tn:=["rule"]) (cn:=["marks"]) (js:=[1]) (osc:=defScope QB) (oN:=["self", "marks", "rules"]) (by rfl) (by rfl) (by rfl) (by decide +kernel)) (UA (K:=K) (pv 2)) (λC s₂ H₂ fp=>Xo (i:=0) nd4) (λC s₂ H₂ fp=>X6) (λC s₂ H₂ fp=>(XC (YL (cA:=⟨t.c,K⟩) (hr.units)) (JK (K:=K) (pv 0)) (pv 1) (ZV _)))) Zj)) (Zc (ZB [116,104,101,32,114,117,108,101,115,32,105,110,32,97,110,32,65,108,108,32,97,114,101,32,111,102,32,105,116,115,32,109,97,114,107,115] (by decide +kernel)) Zj))))
 (Zx (XU (pv 0) (V7 (JL (K:=K)) (by rfl) T.n_tuple boot_tuple (Zc (pv 2) Zj)) (by rfl))))))),?_⟩
 unfold Zjr;exact(ZH (Qv 0 (by rfl) [] (by rfl) (Ze (Zd 1) Zk))
 (ZH (Xx Xy Xz (Zi VP (YI Xg (Ze (Zd 2) Zk)) (Zf (d:=(.int 6)) (by rfl) (by rfl))))
 (ZH (Xx Xy Xz (Zh1 (YI QU (Ze (VF.cl (XY (by rfl) (UH (Zd 2)) (XF 0) X7 (JZ (λ_ h=>h) T.isi_All (Zd 0)))) Zk))))
 (ZH (Xx Xy Xz (YI QU (Ze (VF.cl (XY (by rfl) (UH (Zd 2)) (XF 0) X7 (Zi YM (J4 T.fl_marks (Zd 0)) (Zd 1)))) Zk)))
 (ZT (X0 0 (by rfl) T.fl_rules (JT (Ze (Zd 2) Zk))))))))
theorem ZkG(T:Txt K mg t):FnOk P w K mg base CX0 1 t.a_QE t.d_QE ["script", "k"] (spD ⟨t.c,K⟩ 2 Uq):=by
 refine Xl (φ:=Jb) T.p_QE.f Zkf (by conv=>lhs;whnf) (by conv=>lhs;whnf) (λcdv A outer s H E hr => ?_) rfl rfl;refine⟨_,(Zo (Yg (Yp Zhe (pv 1) (ZO (Xe (K:=K)) (by rfl) T.n_len boot_len (Zc (pv 0) Zj)) (ZV _)) (Zx (Z0 (Zt (Zu (K:=K)) (pv 0) (pv 1) (λ_ _=>rfl)))) Ye)
 (Zx (Z0 Zh))),[],?_⟩
 unfold Jb;exact(ZI (YS (Yr (Zi VP (Zd 1) (YI Xg (Ze (Zd 0) Zk)))) (YB (Zi Zv (Zd 0) (Zd 1))) Yh)
 (YB (Zf (d:=(.int 0)) (by rfl) (by rfl))))
theorem Zhz(T:Txt K mg t):FnOk P w K mg base CX0 1 t.a_QJ t.d_QJ ["cell"] (spD ⟨t.c,K⟩ 1 Ur):=by
 refine Xl (φ:=Ziy) T.p_QJ.f Zkg (by conv=>lhs;whnf) (by conv=>lhs;whnf) (λcdv A outer s H E hr => ?_) rfl rfl;refine⟨_,(Zo (ZF (i:=1) nd5 (by rfl) (by first|exact Or.inl rfl|exact Or.inr rfl) (ZB [97,98,99,100,101,102,103,104,105,106,107,108,109,110,111,112,113,114,115,116,117,118,119,120,121,122,48,49,50,51,52,53,54,55,56,57] (by decide +kernel)))
 (Zo (ZF (i:=2) nd5 (by rfl) (by first|exact Or.inl rfl|exact Or.inr rfl) (Zr Xd Zh (Zr ZU (Zr Y4 (pv 0) Zh) Zh)))
 (Zx (Z0 (Qf (K:=K) PySem.F.plainAttrs_str PySem.F.slot_str_join PySem.F.type_str_join (ZbY (K:=K)) (ZB [] (by decide +kernel)) (Zc (Ue (by rfl) (CompSd.mk1 (tn:=["k"]) (cn:=["some", "cell", "step"]) (js:=[1,0,2]) (osc:=defScope Jl) (oN:=["cell", "some", "step"]) (by rfl) (by rfl) (by rfl) (by decide +kernel)) (Uw (by rfl) T.n_range (Zc (Zr Xd Zh (Zr ZU (Zr Y4 (pv 0) Zh) Zh)) Zj)) (λC s₂ H₂ fp=>Xo (i:=0) nd6) (λC s₂ H₂ fp=>X6) (λC s₂ H₂ fp=>(Zt (Zu (K:=K)) (pv 1) (Zr ZU (Zr Xd (pv 2) (Zr ZbV (pv 0) (pv 3))) Zh) (λ_ _=>rfl)))) Zj)))))),[],?_⟩
 unfold Ziy;exact(ZI (show VS _ _ [] _ _ _ _ from(ZD 1 (Zf (d:=(.str [97,98,99,100,101,102,103,104,105,106,107,108,109,110,111,112,113,114,115,116,117,118,119,120,121,122,48,49,50,51,52,53,54,55,56,57])) (by rfl) (by rfl))))
 (ZI (show VS _ _ [] _ _ _ _ from(ZD 2 (Zi Xf (Zf (d:=(.int 1)) (by rfl) (by rfl)) (Zi ZW (Zi Y7 (Zd 0) (Zf (d:=(.int 36)) (by rfl) (by rfl))) (Zf (d:=(.int 11)) (by rfl) (by rfl))))))
 (YB (J0 ZbZ (Zf (d:=(.str [])) (by rfl) (by rfl)) (Ze (VF.cl (XY (by rfl) (UI (Ze (Zi Xf (Zf (d:=(.int 2)) (by rfl) (by rfl)) (Zi ZW (Zi Y7 (Zd 0) (Zf (d:=(.int 396)) (by rfl) (by rfl))) (Zf (d:=(.int 3)) (by rfl) (by rfl)))) Zk) Uc) (XF 0) X7 (Zi Zv (Zd 1) (Zi ZW (Zi Xf (Zd 2) (Zi Zdb (Zd 0) (Zd 3))) (Zf (d:=(.int 36)) (by rfl) (by rfl)))))) Zk)))))
theorem ZkH(T:Txt K mg t):FnOk P w K mg base CX0 2 t.a_QB t.d_QB ["cell"] (spD ⟨t.c,K⟩ 1 Ziz):=by
 have G_QJ:=(Zhz (P:=P) (w:=w) (base:=base) T).mono (k:=1) (by decide);refine Xl (φ:=Zjs) T.p_QB.f Zkh (by conv=>lhs;whnf) (by conv=>lhs;whnf) (λcdv A outer s H E hr => ?_) rfl rfl;refine⟨_,(Zo (ZF (i:=1) nd7 (by rfl) (by first|exact Or.inl rfl|exact Or.inr rfl) (ZL (G_QJ) hr (by rfl) T.p_QJ.g T.p_QJ.k T.p_QJ.b .nil Yq (Zc (Zr Y4 (pv 0) Zh) Zj)))
 (Zo (ZF (i:=2) nd7 (by rfl) (by first|exact Or.inl rfl|exact Or.inr rfl) (Yn (Zc (ZB [] (by decide +kernel)) (Zc (VL (VN (K:=K)) (pv 1) VC (VD Zh)) (Zc (ZB [97,98,99,100,101] (by decide +kernel)) (Zc (Zr Xd (pv 1) (VL (VN (K:=K)) (pv 1) VC (VD Zh))) (Zc (ZB [97,66] (by decide +kernel)) (Zc (ZB [97,32,98] (by decide +kernel)) (Zc (ZB [97,95] (by decide +kernel)) (Zc (Zr Xd (Zt (Zu (K:=K)) (pv 1) Zh (λ_ _=>rfl)) (Zt (Zu (K:=K)) (pv 1) Zh (λ_ _=>rfl))) (Zc (ZB [48,45] (by decide +kernel)) (Zc (ZB [97,98,10] (by decide +kernel)) Zj))))))))))))
 (Zo (ZF (i:=2) nd7 (by rfl) (by first|exact Or.inl rfl|exact Or.inr rfl) (Zr (QW (K:=K)) (pv 2) (Yn (Zc (ZB [65,49] (by decide +kernel)) Zj))))
 (Zx (Z0 (Zt (Zu (K:=K)) (pv 2) (Zr ZU (pv 0) (ZO (Xe (K:=K)) (by rfl) T.n_len boot_len (Zc (pv 2) Zj))) (λ_ _=>rfl))))))),[],?_⟩
 unfold Zjs;exact(ZI (show VS _ _ [] _ _ _ _ from(ZD 1 (YJ [] (by rfl) (Ze (Zi Y7 (Zd 0) (Zf (d:=(.int 7)) (by rfl) (by rfl))) Zk))))
 (ZI (show VS _ _ [] _ _ _ _ from(ZD 2 (VF.cl (Yo (Ze (Zf (d:=(.str [])) (by rfl) (by rfl)) (Ze (Ud (Or.inl rfl) (Zd 1) VU (VV (Zf (d:=(.int 1)) (by rfl) (by rfl)))) (Ze (Zf (d:=(.str [97,98,99,100,101])) (by rfl) (by rfl)) (Ze (Zi Xf (Zd 1) (Ud (Or.inl rfl) (Zd 1) VU (VV (Zf (d:=(.int 1)) (by rfl) (by rfl))))) (Ze (Zf (d:=(.str [97,66])) (by rfl) (by rfl)) (Ze (Zf (d:=(.str [97,32,98])) (by rfl) (by rfl)) (Ze (Zf (d:=(.str [97,95])) (by rfl) (by rfl)) (Ze (Zi Xf (Zi Zv (Zd 1) (Zf (d:=(.int 0)) (by rfl) (by rfl))) (Zi Zv (Zd 1) (Zf (d:=(.int 0)) (by rfl) (by rfl)))) (Ze (Zf (d:=(.str [48,45])) (by rfl) (by rfl)) (Ze (Zf (d:=(.str [97,98,10])) (by rfl) (by rfl)) Zk))))))))))))))
 (ZI (show VS _ _ [] _ _ _ _ from(ZD 2 (VF.cl (Q1 (Zd 2) (VF.cl (Yo (Ze (Zf (d:=(.str [65,49])) (by rfl) (by rfl)) Zk)))))))
 (YB (Zi Zv (Zd 2) (Zi ZW (Zd 0) (YI Xg (Ze (Zd 2) Zk))))))))
theorem ZeC(T:Txt K mg t):FnOk P w K mg base CX0 1 t.a_Q3 t.d_Q3 ["cell", "low", "high"] (spD ⟨t.c,K⟩ 3 Vd):=by
 refine Xl (φ:=Zjt) T.p_Q3.f Zki (by conv=>lhs;whnf) (by conv=>lhs;whnf) (λcdv A outer s H E hr => ?_) rfl rfl;refine⟨_,(Zo (ZF (i:=3) nd8 (by rfl) (by first|exact Or.inl rfl|exact Or.inr rfl) (Zt (Zu (K:=K)) (Yn (Zc Zh (Zc Zh (Zc (Zr ZfG Zh Zh) Zj)))) (Zr ZU (Zr Y4 (pv 0) Zh) Zh) (λ_ _=>rfl)))
 (Zo (Yg (Yp (YL (cA:=⟨t.c,K⟩) (hr.units)) (Zr ZU (pv 0) Zh) Zh (ZV _)) (Zx (Z0 (Zr Uy (pv 1) (pv 3)))) Ye)
 (Zx (Z0 (Zr Xd (pv 2) (pv 3)))))),[],?_⟩
 unfold Zjt;exact(ZI (show VS _ _ [] _ _ _ _ from(ZD 3 (Zi Zv (VF.cl (Yo (Ze (Zf (d:=(.int 1)) (by rfl) (by rfl)) (Ze (Zf (d:=(.int 2)) (by rfl) (by rfl)) (Ze (Zi Zdw (Zf (d:=(.int 10)) (by rfl) (by rfl)) (Zf (d:=(.int 9)) (by rfl) (by rfl))) Zk))))) (Zi ZW (Zi Y7 (Zd 0) (Zf (d:=(.int 2)) (by rfl) (by rfl))) (Zf (d:=(.int 3)) (by rfl) (by rfl))))))
 (ZI (YS (Yr (Zi YM (Zi ZW (Zd 0) (Zf (d:=(.int 2)) (by rfl) (by rfl))) (Zf (d:=(.int 0)) (by rfl) (by rfl)))) (YB (Zi UD (Zd 1) (Zd 3))) Yh)
 (YB (Zi Xf (Zd 2) (Zd 3)))))
theorem Zgh(T:Txt K mg t):FnOk P w K mg base CX0 1 t.a_QD t.d_QD ["marks", "cell"] (spD ⟨t.c,K⟩ 2 QA):=by
 refine Xl (φ:=Zju) T.p_QD.f Zkj (by conv=>lhs;whnf) (by conv=>lhs;whnf) (λcdv A outer s H E hr => ?_) rfl rfl;refine⟨_,(Zo (ZF (i:=2) nd9 (by rfl) (by first|exact Or.inl rfl|exact Or.inr rfl) (ZB [45,65,32,95,10,33,126,90,91,123] (by decide +kernel)))
 (Zo (Q2 (i:=3) nd9 (by rfl) (by rfl) (by rfl) (CompSd.mk1 (tn:=["sign"]) (cn:=["marks"]) (js:=[0]) (osc:=defScope Jm) (oN:=["marks", "cell", "odd", "near"]) (by rfl) (by rfl) (by rfl) (by decide +kernel)) (UA (K:=K) (ZB [97,98,99,100,101,102,103,104,105,106,107,108,109,110,111,112,113,114,115,116,117,118,119,120,121,122,48,49,50,51,52,53,54,55,56,57] (by decide +kernel))) (λC s₂ H₂ fp=>Xo (i:=0) nd0) (λC s₂ H₂ fp=>(Zgr (Yp (ZeT (K:=K)) (pv 0) (pv 1) (by rfl)))) (λC s₂ H₂ fp=>(pv 0)))
 (Zo (Yg (Yp (YL (cA:=⟨t.c,K⟩) (hr.units)) (Zr ZU (pv 1) Zh) Zh (ZV _)) (Zx (Z0 (Zt (Zu (K:=K)) (pv 2) (Zr ZU (Zr Y4 (pv 1) Zh) (ZO (Xe (K:=K)) (by rfl) T.n_len boot_len (Zc (pv 2) Zj))) (λ_ _=>rfl)))) Ye)
 (Zx (Z0 (Zt (Zu (K:=K)) (pv 3) (Zr ZU (Zr Y4 (pv 1) Zh) (ZO (Xe (K:=K)) (by rfl) T.n_len boot_len (Zc (pv 3) Zj))) (λ_ _=>rfl))))))),[],?_⟩
 unfold Zju;exact(ZI (show VS _ _ [] _ _ _ _ from(ZD 2 (Zf (d:=(.str [45,65,32,95,10,33,126,90,91,123])) (by rfl) (by rfl))))
 (ZI (show VS _ _ [] _ _ _ _ from(ZD 3 (VF.cl (XY (by rfl) (UH (Zf (d:=(.str [97,98,99,100,101,102,103,104,105,106,107,108,109,110,111,112,113,114,115,116,117,118,119,120,121,122,48,49,50,51,52,53,54,55,56,57])) (by rfl) (by rfl))) (XF 0) (Yr (Zi QT (Zd 0) (Zd 1))) (Zd 0)))))
 (ZI (YS (Yr (Zi YM (Zi ZW (Zd 1) (Zf (d:=(.int 3)) (by rfl) (by rfl))) (Zf (d:=(.int 0)) (by rfl) (by rfl)))) (YB (Zi Zv (Zd 2) (Zi ZW (Zi Y7 (Zd 1) (Zf (d:=(.int 3)) (by rfl) (by rfl))) (YI Xg (Ze (Zd 2) Zk))))) Yh)
 (YB (Zi Zv (Zd 3) (Zi ZW (Zi Y7 (Zd 1) (Zf (d:=(.int 3)) (by rfl) (by rfl))) (YI Xg (Ze (Zd 3) Zk))))))))
theorem ZkI(T:Txt K mg t):FnOk P w K mg base (CX1 P w) 5 t.a_QX t.d_QX ["own", "marks", "cells", "bad"] (spX ⟨t.c,K⟩ 4 (okD Jc) (erD Jc)):=by
 have GM_QZ:FnOk P w K mg base (CX2 P w) 3 t.a_QZ t.d_QZ ["self", "marks", "mark", "least", "most"] (Ys ⟨t.c,K⟩ 5 (okD Xm) (erD Xm)):=(Zhx T).mono (by decide);have G_Q3:=(ZeC (P:=P) (w:=w) (base:=base) T).mono (k:=4) (by decide);have G_QD:=(Zgh (P:=P) (w:=w) (base:=base) T).mono (k:=4) (by decide);refine US (r:=Zjv) T.p_QX.f Zkk (by conv=>lhs;whnf) (by conv=>lhs;whnf) (λcdv A outer s H E hr => ?_) rfl rfl
 refine⟨_,(Zo (ZF (i:=4) UX (by rfl) (by first|exact Or.inl rfl|exact Or.inr rfl) (Zt (Zu (K:=K)) (pv 1) (Zr ZU (Zt (Zu (K:=K)) (pv 2) Zh (λ_ _=>rfl)) (ZO (Xe (K:=K)) (by rfl) T.n_len boot_len (Zc (pv 1) Zj))) (λ_ _=>rfl)))
 (Zo (ZF (i:=5) UX (by rfl) (by first|exact Or.inl rfl|exact Or.inr rfl) (Zr ZU (Zt (Zu (K:=K)) (pv 2) Zh (λ_ _=>rfl)) Zh))
 (Zo (ZF (i:=6) UX (by rfl) (by first|exact Or.inl rfl|exact Or.inr rfl) (Zt (Zu (K:=K)) (Yn (Zc ZfD (Zc (Zr Xd (pv 5) (Zr ZU (Zt (Zu (K:=K)) (pv 2) Zh (λ_ _=>rfl)) (Zr Uy Zh (pv 5)))) Zj))) (Zr ZU (Zt (Zu (K:=K)) (pv 2) Zh (λ_ _=>rfl)) Zh) (λ_ _=>rfl)))
 (Zo (Yg (Yp (YL (cA:=⟨t.c,K⟩) (hr.units)) (pv 3) Zh (ZV _)) (Zo (ZF (i:=7) UX (by rfl) (by first|exact Or.inl rfl|exact Or.inr rfl) (ZL (G_QD) hr (by rfl) T.p_QD.g T.p_QD.k T.p_QD.b .nil Yq (Zc (pv 1) (Zc (Zr Y4 (Zt (Zu (K:=K)) (pv 2) Zh (λ_ _=>rfl)) Zh) Zj))))
 (Zx (ZF (i:=4) UX (by rfl) (by first|exact Or.inl rfl|exact Or.inr rfl) (Zt (Zu (K:=K)) (Yn (Zc (ZB [] (by decide +kernel)) (Zc (VL (VN (K:=K)) (pv 1) VC (VD Zh)) (Zc (pv 7) (Zc (pv 7) (Zc (pv 7) Zj)))))) (Zr ZU (Zt (Zu (K:=K)) (pv 2) Zh (λ_ _=>rfl)) Zh) (λ_ _=>rfl))))) Ye)
 (Zo (Yg (Yp (YL (cA:=⟨t.c,K⟩) (hr.units)) (pv 3) Zh (ZV _)) (Zx (ZF (i:=5) UX (by rfl) (by first|exact Or.inl rfl|exact Or.inr rfl) (ZL (G_Q3) hr (by rfl) T.p_Q3.g T.p_Q3.k T.p_Q3.b .nil Yq (Zc (Zt (Zu (K:=K)) (pv 2) Zh (λ_ _=>rfl)) (Zc Zh (Zc Zh Zj)))))) Ye)
 (Zo (Yg (Yp (YL (cA:=⟨t.c,K⟩) (hr.units)) (pv 3) Zh (ZV _)) (Zx (ZF (i:=6) UX (by rfl) (by first|exact Or.inl rfl|exact Or.inr rfl) (Zt (Zu (K:=K)) (Yn (Zc Zh (Zc (Zr Xd Zh (Zr ZU (Zt (Zu (K:=K)) (pv 2) Zh (λ_ _=>rfl)) (Zr ZfG Zh Zh))) (Zc (Zr Uy (pv 5) Zh) (Zc (Zr Uy (U6 U7 Zh) (Zr ZU (Zt (Zu (K:=K)) (pv 2) Zh (λ_ _=>rfl)) Zh)) Zj))))) (Zr ZU (Zt (Zu (K:=K)) (pv 2) Zh (λ_ _=>rfl)) Zh) (λ_ _=>rfl)))) Ye)
 (Zx (Z0 (XM T.mk_Gap (GM_QZ) hr (by rfl) T.g_Gap T.b_QZ .nil X1 (Zc (pv 0) (Zc (pv 4) (Zc (pv 5) (Zc (pv 6) Zj))))))))))))),[],?_⟩
 unfold Zjv;exact(ZH (ZT (show VS _ _ [] _ _ _ _ from(ZD 4 (Zi Zv (Zd 1) (Zi ZW (Zi Zv (Zd 2) (Zf (d:=(.int 1)) (by rfl) (by rfl))) (YI Xg (Ze (Zd 1) Zk)))))))
 (ZH (ZT (show VS _ _ [] _ _ _ _ from(ZD 5 (Zi ZW (Zi Zv (Zd 2) (Zf (d:=(.int 2)) (by rfl) (by rfl))) (Zf (d:=(.int 9)) (by rfl) (by rfl))))))
 (ZH (ZT (show VS _ _ [] _ _ _ _ from(ZD 6 (Zi Zv (VF.cl (Yo (Ze (Zf (d:=.non) (by rfl) (by rfl)) (Ze (Zi Xf (Zd 5) (Zi ZW (Zi Zv (Zd 2) (Zf (d:=(.int 3)) (by rfl) (by rfl))) (Zi UD (Zf (d:=(.int 9)) (by rfl) (by rfl)) (Zd 5)))) Zk)))) (Zi ZW (Zi Zv (Zd 2) (Zf (d:=(.int 3)) (by rfl) (by rfl))) (Zf (d:=(.int 2)) (by rfl) (by rfl)))))))
 (ZH (ZT (YS (Yr (Zi YM (Zd 3) (Zf (d:=(.int 1)) (by rfl) (by rfl)))) (ZI (show VS _ _ [] _ _ _ _ from(ZD 7 (YJ [] (by rfl) (Ze (Zd 1) (Ze (Zi Y7 (Zi Zv (Zd 2) (Zf (d:=(.int 1)) (by rfl) (by rfl))) (Zf (d:=(.int 5)) (by rfl) (by rfl))) Zk)))))
 (show VS _ _ [] _ _ _ _ from(ZD 4 (Zi Zv (VF.cl (Yo (Ze (Zf (d:=(.str [])) (by rfl) (by rfl)) (Ze (Ud (Or.inl rfl) (Zd 1) VU (VV (Zf (d:=(.int 2)) (by rfl) (by rfl)))) (Ze (Zd 7) (Ze (Zd 7) (Ze (Zd 7) Zk))))))) (Zi ZW (Zi Zv (Zd 2) (Zf (d:=(.int 1)) (by rfl) (by rfl))) (Zf (d:=(.int 5)) (by rfl) (by rfl))))))) Yh))
 (ZH (ZT (YS (Yr (Zi YM (Zd 3) (Zf (d:=(.int 2)) (by rfl) (by rfl)))) (show VS _ _ [] _ _ _ _ from(ZD 5 (YJ [] (by rfl) (Ze (Zi Zv (Zd 2) (Zf (d:=(.int 2)) (by rfl) (by rfl))) (Ze (Zf (d:=(.int 0)) (by rfl) (by rfl)) (Ze (Zf (d:=(.int 8)) (by rfl) (by rfl)) Zk)))))) Yh))
 (ZH (ZT (YS (Yr (Zi YM (Zd 3) (Zf (d:=(.int 3)) (by rfl) (by rfl)))) (show VS _ _ [] _ _ _ _ from(ZD 6 (Zi Zv (VF.cl (Yo (Ze (Zf (d:=(.int 9)) (by rfl) (by rfl)) (Ze (Zi Xf (Zf (d:=(.int 9)) (by rfl) (by rfl)) (Zi ZW (Zi Zv (Zd 2) (Zf (d:=(.int 3)) (by rfl) (by rfl))) (Zi Zdw (Zf (d:=(.int 10)) (by rfl) (by rfl)) (Zf (d:=(.int 9)) (by rfl) (by rfl))))) (Ze (Zi UD (Zd 5) (Zf (d:=(.int 1)) (by rfl) (by rfl))) (Ze (Zi UD (Qh (Zf (d:=(.int 1)) (by rfl) (by rfl))) (Zi ZW (Zi Zv (Zd 2) (Zf (d:=(.int 3)) (by rfl) (by rfl))) (Zf (d:=(.int 5)) (by rfl) (by rfl)))) Zk)))))) (Zi ZW (Zi Zv (Zd 2) (Zf (d:=(.int 2)) (by rfl) (by rfl))) (Zf (d:=(.int 4)) (by rfl) (by rfl)))))) Yh))
 (UR (c:="Gap") [] (by rfl) (Ze (Zd 0) (Ze (Zd 4) (Ze (Zd 5) (Ze (Zd 6) Zk)))))))))))
theorem ZkJ(T:Txt K mg t):FnOk P w K mg base (CX1 P w) 5 t.a_QW t.d_QW ["own", "marks", "cells", "bad"] (spX ⟨t.c,K⟩ 4 (okD Jd) (erD Jd)):=by
 have GM_QO:FnOk P w K mg base (CX2 P w) 3 t.a_QO t.d_QO ["self", "marks", "word"] (Ys ⟨t.c,K⟩ 3 (okD Uo) (erD Uo)):=(ZkC T).mono (by decide);have G_QD:=(Zgh (P:=P) (w:=w) (base:=base) T).mono (k:=4) (by decide);refine US (r:=Zjw) T.p_QW.f Zkl (by conv=>lhs;whnf) (by conv=>lhs;whnf) (λcdv A outer s H E hr => ?_) rfl rfl;refine⟨_,(Zo (ZF (i:=4) ZiZ (by rfl) (by first|exact Or.inl rfl|exact Or.inr rfl) (Qf (K:=K) PySem.F.plainAttrs_str PySem.F.slot_str_join PySem.F.type_str_join (ZbY (K:=K)) (ZB [] (by decide +kernel)) (Zc (Ue (by rfl) (CompSd.mk1 (tn:=["k"]) (cn:=["marks", "cells"]) (js:=[1,2]) (osc:=defScope Jn) (oN:=["own", "marks", "cells", "bad", "word", "at"]) (by rfl) (by rfl) (by rfl) (by decide +kernel)) (Uw (by rfl) T.n_range (Zc (Zr Xd Zh (Zr ZU (Zt (Zu (K:=K)) (pv 2) Zh (λ_ _=>rfl)) Zh)) Zj)) (λC s₂ H₂ fp=>Xo (i:=0) Zlu) (λC s₂ H₂ fp=>X6) (λC s₂ H₂ fp=>(Zt (Zu (K:=K)) (pv 1) (Zr ZU (Zr Y4 (Zt (Zu (K:=K)) (pv 2) Zh (λ_ _=>rfl)) (Zt (Zu (K:=K)) (Yn (Zc Zh (Zc Zh (Zc Zh (Zc Zh (Zc Zh (Zc Zh Zj))))))) (pv 0) (λ_ _=>rfl))) (ZO (Xe (K:=K)) (by rfl) T.n_len boot_len (Zc (pv 1) Zj))) (λ_ _=>rfl)))) Zj)))
 (Zo (Yg (Yp (YL (cA:=⟨t.c,K⟩) (hr.units)) (pv 3) Zh (ZV _)) (Zx (ZF (i:=4) ZiZ (by rfl) (by first|exact Or.inl rfl|exact Or.inr rfl) (Zt (Zu (K:=K)) (Yn (Zc (ZB [] (by decide +kernel)) (Zc (Zr ZbV (Zt (Zu (K:=K)) (pv 1) Zh (λ_ _=>rfl)) Zh) (Zc (Zr ZbV (Zt (Zu (K:=K)) (pv 1) Zh (λ_ _=>rfl)) Zh) Zj)))) (Zr ZU (Zt (Zu (K:=K)) (pv 2) Zh (λ_ _=>rfl)) Zh) (λ_ _=>rfl)))) Ye)
 (Zo (Yg (Yp U8 (pv 3) Zh (ZV _)) (Zo (ZF (i:=5) ZiZ (by rfl) (by first|exact Or.inl rfl|exact Or.inr rfl) (Zr ZU (Zt (Zu (K:=K)) (pv 2) Zh (λ_ _=>rfl)) (ZO (Xe (K:=K)) (by rfl) T.n_len boot_len (Zc (pv 4) Zj))))
 (Zx (ZF (i:=4) ZiZ (by rfl) (by first|exact Or.inl rfl|exact Or.inr rfl) (Zr Xd (Zr Xd (VL (VN (K:=K)) (pv 4) VC (VD (pv 5))) (ZL (G_QD) hr (by rfl) T.p_QD.g T.p_QD.k T.p_QD.b .nil Yq (Zc (pv 1) (Zc (Zr Y4 (Zt (Zu (K:=K)) (pv 2) Zh (λ_ _=>rfl)) Zh) Zj)))) (VL (VN (K:=K)) (pv 4) (VD (Zr Xd (pv 5) Zh)) VC))))) Ye)
 (Zx (Z0 (XM T.mk_Never (GM_QO) hr (by rfl) T.g_Never T.p_QO.b .nil X1 (Zc (pv 0) (Zc (pv 4) Zj)))))))),[],?_⟩
 unfold Zjw;exact(ZH (ZT (show VS _ _ [] _ _ _ _ from(ZD 4 (J0 ZbZ (Zf (d:=(.str [])) (by rfl) (by rfl)) (Ze (VF.cl (XY (by rfl) (UI (Ze (Zi Xf (Zf (d:=(.int 1)) (by rfl) (by rfl)) (Zi ZW (Zi Zv (Zd 2) (Zf (d:=(.int 2)) (by rfl) (by rfl))) (Zf (d:=(.int 6)) (by rfl) (by rfl)))) Zk) Uc) (XF 0) X7 (Zi Zv (Zd 1) (Zi ZW (Zi Y7 (Zi Zv (Zd 2) (Zf (d:=(.int 1)) (by rfl) (by rfl))) (Zi Zv (VF.cl (Yo (Ze (Zf (d:=(.int 1)) (by rfl) (by rfl)) (Ze (Zf (d:=(.int 2)) (by rfl) (by rfl)) (Ze (Zf (d:=(.int 5)) (by rfl) (by rfl)) (Ze (Zf (d:=(.int 9)) (by rfl) (by rfl)) (Ze (Zf (d:=(.int 14)) (by rfl) (by rfl)) (Ze (Zf (d:=(.int 22)) (by rfl) (by rfl)) Zk)))))))) (Zd 0))) (YI Xg (Ze (Zd 1) Zk)))))) Zk)))))
 (ZH (ZT (YS (Yr (Zi YM (Zd 3) (Zf (d:=(.int 1)) (by rfl) (by rfl)))) (show VS _ _ [] _ _ _ _ from(ZD 4 (Zi Zv (VF.cl (Yo (Ze (Zf (d:=(.str [])) (by rfl) (by rfl)) (Ze (Zi Zdb (Zi Zv (Zd 1) (Zf (d:=(.int 0)) (by rfl) (by rfl))) (Zf (d:=(.int 7)) (by rfl) (by rfl))) (Ze (Zi Zdb (Zi Zv (Zd 1) (Zf (d:=(.int 0)) (by rfl) (by rfl))) (Zf (d:=(.int 40)) (by rfl) (by rfl))) Zk))))) (Zi ZW (Zi Zv (Zd 2) (Zf (d:=(.int 2)) (by rfl) (by rfl))) (Zf (d:=(.int 3)) (by rfl) (by rfl)))))) Yh))
 (ZH (ZT (YS (Yr (Zi VP (Zd 3) (Zf (d:=(.int 1)) (by rfl) (by rfl)))) (ZI (show VS _ _ [] _ _ _ _ from(ZD 5 (Zi ZW (Zi Zv (Zd 2) (Zf (d:=(.int 3)) (by rfl) (by rfl))) (YI Xg (Ze (Zd 4) Zk)))))
 (show VS _ _ [] _ _ _ _ from(ZD 4 (Zi Xf (Zi Xf (Ud (Or.inl rfl) (Zd 4) VU (VV (Zd 5))) (YJ [] (by rfl) (Ze (Zd 1) (Ze (Zi Y7 (Zi Zv (Zd 2) (Zf (d:=(.int 2)) (by rfl) (by rfl))) (Zf (d:=(.int 6)) (by rfl) (by rfl))) Zk)))) (Ud (Or.inl rfl) (Zd 4) (VV (Zi Xf (Zd 5) (Zf (d:=(.int 1)) (by rfl) (by rfl)))) VU))))) Yh))
 (UR (c:="Never") [] (by rfl) (Ze (Zd 0) (Ze (Zd 4) Zk))))))
theorem ZkK(T:Txt K mg t):FnOk P w K mg base (CX1 P w) 5 t.a_Q0 t.d_Q0 ["own", "marks", "cells", "bad"] (spX ⟨t.c,K⟩ 4 (okD Je) (erD Je)):=by
 have GM_Q2:FnOk P w K mg base (CX2 P w) 3 t.a_Q2 t.d_Q2 ["self", "marks", "worths", "low", "high"] (Ys ⟨t.c,K⟩ 5 (okD Up) (erD Up)):=(ZkD T).mono (by decide);have G_Q3:=(ZeC (P:=P) (w:=w) (base:=base) T).mono (k:=4) (by decide);refine US (r:=Zjx) T.p_Q0.f Zkm (by conv=>lhs;whnf) (by conv=>lhs;whnf) (λcdv A outer s H E hr => ?_) rfl rfl;refine⟨_,(Zo (Q2 (i:=4) UY (by rfl) (by rfl) (by rfl) (CompSd.mk1 (tn:=["k"]) (cn:=["cells"]) (js:=[2]) (osc:=defScope Jo) (oN:=["own", "marks", "cells", "bad", "worths", "low", "high", "at"]) (by rfl) (by rfl) (by rfl) (by decide +kernel)) (Uw (by rfl) T.n_range (Zc (ZO (Xe (K:=K)) (by rfl) T.n_len boot_len (Zc (pv 1) Zj)) Zj)) (λC s₂ H₂ fp=>Xo (i:=0) Zlv) (λC s₂ H₂ fp=>X6) (λC s₂ H₂ fp=>(Zr Uy (Zr ZU (Zr Y4 (Zt (Zu (K:=K)) (pv 1) Zh (λ_ _=>rfl)) (Zt (Zu (K:=K)) (Yn (Zc Zh (Zc Zh (Zc Zh (Zc Zh Zj))))) (pv 0) (λ_ _=>rfl))) Zh) Zh)))
 (Zo (ZF (i:=5) UY (by rfl) (by first|exact Or.inl rfl|exact Or.inr rfl) (U6 U7 (Zr ZU (Zt (Zu (K:=K)) (pv 2) Zh (λ_ _=>rfl)) Zh)))
 (Zo (ZF (i:=6) UY (by rfl) (by first|exact Or.inl rfl|exact Or.inr rfl) (Zr ZU (Zt (Zu (K:=K)) (pv 2) Zh (λ_ _=>rfl)) Zh))
 (Zo (Yg (Yp (YL (cA:=⟨t.c,K⟩) (hr.units)) (pv 3) Zh (ZV _)) (Zo (ZF (i:=7) UY (by rfl) (by first|exact Or.inl rfl|exact Or.inr rfl) (Zr ZU (Zr Y4 (Zt (Zu (K:=K)) (pv 2) Zh (λ_ _=>rfl)) Zh) (ZO (Xe (K:=K)) (by rfl) T.n_len boot_len (Zc (pv 4) Zj))))
 (Zx (ZhO (ZL (G_Q3) hr (by rfl) T.p_Q3.g T.p_Q3.k T.p_Q3.b .nil Yq (Zc (Zt (Zu (K:=K)) (pv 2) Zh (λ_ _=>rfl)) (Zc (U6 U7 Zh) (Zc Zh Zj)))) (ZhN (pv 4) (pv 7) ZeM)))) Ye)
 (Zo (Yg (Yp (YL (cA:=⟨t.c,K⟩) (hr.units)) (pv 3) Zh (ZV _)) (Zx (ZF (i:=5) UY (by rfl) (by first|exact Or.inl rfl|exact Or.inr rfl) (ZL (G_Q3) hr (by rfl) T.p_Q3.g T.p_Q3.k T.p_Q3.b .nil Yq (Zc (Zr Y4 (Zt (Zu (K:=K)) (pv 2) Zh (λ_ _=>rfl)) Zh) (Zc (U6 U7 Zh) (Zc Zh Zj)))))) Ye)
 (Zo (Yg (Yp (YL (cA:=⟨t.c,K⟩) (hr.units)) (pv 3) Zh (ZV _)) (Zx (ZF (i:=6) UY (by rfl) (by first|exact Or.inl rfl|exact Or.inr rfl) (ZL (G_Q3) hr (by rfl) T.p_Q3.g T.p_Q3.k T.p_Q3.b .nil Yq (Zc (Zr Y4 (Zt (Zu (K:=K)) (pv 2) Zh (λ_ _=>rfl)) Zh) (Zc Zh (Zc Zh Zj)))))) Ye)
 (Zo (Yg (Yp (YL (cA:=⟨t.c,K⟩) (hr.units)) (pv 3) Zh (ZV _)) (Zx (ZF (i:=4) UY (by rfl) (by first|exact Or.inl rfl|exact Or.inr rfl) (Zt (Zu (K:=K)) (Yn (Zc (Zr (QW (K:=K)) (pv 4) (Yn (Zc Zh Zj))) (Zc (VL (VN (K:=K)) (pv 4) (VD Zh) VC) (Zc (Yn Zj) Zj)))) (Zr ZU (Zt (Zu (K:=K)) (pv 2) Zh (λ_ _=>rfl)) Zh) (λ_ _=>rfl)))) Ye)
 (Zx (Z0 (XM T.mk_Sum (GM_Q2) hr (by rfl) T.g_Sum T.p_Q2.b .nil X1 (Zc (pv 0) (Zc (V7 (JL (K:=K)) (by rfl) T.n_tuple boot_tuple (Zc (pv 4) Zj)) (Zc (pv 5) (Zc (pv 6) Zj)))))))))))))),[],?_⟩
 unfold Zjx;exact(ZH (ZT (show VS _ _ [4] _ _ _ _ from(JW 4 (XY (by rfl) (UI (Ze (YI Xg (Ze (Zd 1) Zk)) Zk) Uc) (XF 0) X7 (Zi UD (Zi ZW (Zi Y7 (Zi Zv (Zd 1) (Zf (d:=(.int 1)) (by rfl) (by rfl))) (Zi Zv (VF.cl (Yo (Ze (Zf (d:=(.int 1)) (by rfl) (by rfl)) (Ze (Zf (d:=(.int 7)) (by rfl) (by rfl)) (Ze (Zf (d:=(.int 49)) (by rfl) (by rfl)) (Ze (Zf (d:=(.int 343)) (by rfl) (by rfl)) Zk)))))) (Zd 0))) (Zf (d:=(.int 7)) (by rfl) (by rfl))) (Zf (d:=(.int 3)) (by rfl) (by rfl)))))))
 (ZH (ZT (show VS _ _ [4] _ _ _ _ from(ZD 5 (Qh (Zi ZW (Zi Zv (Zd 2) (Zf (d:=(.int 2)) (by rfl) (by rfl))) (Zf (d:=(.int 9)) (by rfl) (by rfl)))))))
 (ZH (ZT (show VS _ _ [4] _ _ _ _ from(ZD 6 (Zi ZW (Zi Zv (Zd 2) (Zf (d:=(.int 3)) (by rfl) (by rfl))) (Zf (d:=(.int 9)) (by rfl) (by rfl))))))
 (ZH (ZT (YS (Yr (Zi YM (Zd 3) (Zf (d:=(.int 1)) (by rfl) (by rfl)))) (ZI (show VS _ _ [4] _ _ _ _ from(ZD 7 (Zi ZW (Zi Y7 (Zi Zv (Zd 2) (Zf (d:=(.int 3)) (by rfl) (by rfl))) (Zf (d:=(.int 9)) (by rfl) (by rfl))) (YI Xg (Ze (ZfM 4 (by rfl)) Zk)))))
 (ZgE 4 (by rfl) (YJ [] (by rfl) (Ze (Zi Zv (Zd 2) (Zf (d:=(.int 2)) (by rfl) (by rfl))) (Ze (Qh (Zf (d:=(.int 3)) (by rfl) (by rfl))) (Ze (Zf (d:=(.int 3)) (by rfl) (by rfl)) Zk)))) (Zd 7))) Yh))
 (VR.frz (ow1:=[]) 4 (ZH (ZT (YS (Yr (Zi YM (Zd 3) (Zf (d:=(.int 2)) (by rfl) (by rfl)))) (show VS _ _ [] _ _ _ _ from(ZD 5 (YJ [] (by rfl) (Ze (Zi Y7 (Zi Zv (Zd 2) (Zf (d:=(.int 3)) (by rfl) (by rfl))) (Zf (d:=(.int 9)) (by rfl) (by rfl))) (Ze (Qh (Zf (d:=(.int 8)) (by rfl) (by rfl))) (Ze (Zf (d:=(.int 0)) (by rfl) (by rfl)) Zk)))))) Yh))
 (ZH (ZT (YS (Yr (Zi YM (Zd 3) (Zf (d:=(.int 3)) (by rfl) (by rfl)))) (show VS _ _ [] _ _ _ _ from(ZD 6 (YJ [] (by rfl) (Ze (Zi Y7 (Zi Zv (Zd 2) (Zf (d:=(.int 2)) (by rfl) (by rfl))) (Zf (d:=(.int 9)) (by rfl) (by rfl))) (Ze (Zf (d:=(.int 0)) (by rfl) (by rfl)) (Ze (Zf (d:=(.int 8)) (by rfl) (by rfl)) Zk)))))) Yh))
 (ZH (ZT (YS (Yr (Zi YM (Zd 3) (Zf (d:=(.int 4)) (by rfl) (by rfl)))) (show VS _ _ [] _ _ _ _ from(ZD 4 (Zi Zv (VF.cl (Yo (Ze (VF.cl (Q1 (Zd 4) (VF.cl (Yo (Ze (Zf (d:=(.int 0)) (by rfl) (by rfl)) Zk))))) (Ze (Ud (Or.inl rfl) (Zd 4) (VV (Zf (d:=(.int 1)) (by rfl) (by rfl))) VU) (Ze (VF.cl (Yo Zk)) Zk))))) (Zi ZW (Zi Zv (Zd 2) (Zf (d:=(.int 3)) (by rfl) (by rfl))) (Zf (d:=(.int 3)) (by rfl) (by rfl)))))) Yh))
 (UR (c:="Sum") [] (by rfl) (Ze (Zd 0) (Ze (JT (Ze (Zd 4) Zk)) (Ze (Zd 5) (Ze (Zd 6) Zk)))))))) (by rfl) (by rfl) (by rfl) (by rfl))))))
theorem ZkL(T:Txt K mg t):FnOk P w K mg base (CX1 P w) 5 t.a_QS t.d_QS ["own", "marks", "cells", "bad"] (spX ⟨t.c,K⟩ 4 (okD Jf) (erD Jf)):=by
 have GM_QT:FnOk P w K mg base (CX2 P w) 3 t.a_QT t.d_QT ["self", "marks", "mark", "every", "at"] (Ys ⟨t.c,K⟩ 5 (okD Vc) (erD Vc)):=(ZkE T).mono (by decide);have G_Q3:=(ZeC (P:=P) (w:=w) (base:=base) T).mono (k:=4) (by decide);have G_QD:=(Zgh (P:=P) (w:=w) (base:=base) T).mono (k:=4) (by decide);refine US (r:=Zjy) T.p_QS.f Zkn (by conv=>lhs;whnf) (by conv=>lhs;whnf) (λcdv A outer s H E hr => ?_) rfl rfl
 refine⟨_,(Zo (ZF (i:=4) Us (by rfl) (by first|exact Or.inl rfl|exact Or.inr rfl) (Zt (Zu (K:=K)) (pv 1) (Zr ZU (Zt (Zu (K:=K)) (pv 2) Zh (λ_ _=>rfl)) (ZO (Xe (K:=K)) (by rfl) T.n_len boot_len (Zc (pv 1) Zj))) (λ_ _=>rfl)))
 (Zo (ZF (i:=5) Us (by rfl) (by first|exact Or.inl rfl|exact Or.inr rfl) (Zr Xd Zh (Zr ZU (Zt (Zu (K:=K)) (pv 2) Zh (λ_ _=>rfl)) Zh)))
 (Zo (ZF (i:=6) Us (by rfl) (by first|exact Or.inl rfl|exact Or.inr rfl) (Zr ZU (Zt (Zu (K:=K)) (pv 2) Zh (λ_ _=>rfl)) (pv 5)))
 (Zo (Yg (Yp (YL (cA:=⟨t.c,K⟩) (hr.units)) (pv 3) Zh (ZV _)) (Zo (ZF (i:=7) Us (by rfl) (by first|exact Or.inl rfl|exact Or.inr rfl) (ZL (G_QD) hr (by rfl) T.p_QD.g T.p_QD.k T.p_QD.b .nil Yq (Zc (pv 1) (Zc (Zr Y4 (Zt (Zu (K:=K)) (pv 2) Zh (λ_ _=>rfl)) Zh) Zj))))
 (Zx (ZF (i:=4) Us (by rfl) (by first|exact Or.inl rfl|exact Or.inr rfl) (Zt (Zu (K:=K)) (Yn (Zc (ZB [] (by decide +kernel)) (Zc (VL (VN (K:=K)) (pv 1) VC (VD Zh)) (Zc (pv 7) (Zc (pv 7) (Zc (pv 7) Zj)))))) (Zr ZU (Zt (Zu (K:=K)) (pv 2) Zh (λ_ _=>rfl)) Zh) (λ_ _=>rfl))))) Ye)
 (Zo (Yg (Yp (YL (cA:=⟨t.c,K⟩) (hr.units)) (pv 3) Zh (ZV _)) (Zo (ZF (i:=5) Us (by rfl) (by first|exact Or.inl rfl|exact Or.inr rfl) (ZL (G_Q3) hr (by rfl) T.p_Q3.g T.p_Q3.k T.p_Q3.b .nil Yq (Zc (Zt (Zu (K:=K)) (pv 2) Zh (λ_ _=>rfl)) (Zc Zh (Zc Zh Zj)))))
 (Zx (ZF (i:=6) Us (by rfl) (by first|exact Or.inl rfl|exact Or.inr rfl) Zh))) Ye)
 (Zo (Yg (Yp (YL (cA:=⟨t.c,K⟩) (hr.units)) (pv 3) Zh (ZV _)) (Zx (ZF (i:=6) Us (by rfl) (by first|exact Or.inl rfl|exact Or.inr rfl) (ZL (G_Q3) hr (by rfl) T.p_Q3.g T.p_Q3.k T.p_Q3.b .nil Yq (Zc (Zt (Zu (K:=K)) (pv 2) Zh (λ_ _=>rfl)) (Zc Zh (Zc (Zr Uy (pv 5) Zh) Zj)))))) Ye)
 (Zx (Z0 (XM T.mk_Turn (GM_QT) hr (by rfl) T.g_Turn T.p_QT.b .nil X1 (Zc (pv 0) (Zc (pv 4) (Zc (pv 5) (Zc (pv 6) Zj))))))))))))),[],?_⟩
 unfold Zjy;exact(ZH (ZT (show VS _ _ [] _ _ _ _ from(ZD 4 (Zi Zv (Zd 1) (Zi ZW (Zi Zv (Zd 2) (Zf (d:=(.int 1)) (by rfl) (by rfl))) (YI Xg (Ze (Zd 1) Zk)))))))
 (ZH (ZT (show VS _ _ [] _ _ _ _ from(ZD 5 (Zi Xf (Zf (d:=(.int 1)) (by rfl) (by rfl)) (Zi ZW (Zi Zv (Zd 2) (Zf (d:=(.int 2)) (by rfl) (by rfl))) (Zf (d:=(.int 6)) (by rfl) (by rfl)))))))
 (ZH (ZT (show VS _ _ [] _ _ _ _ from(ZD 6 (Zi ZW (Zi Zv (Zd 2) (Zf (d:=(.int 3)) (by rfl) (by rfl))) (Zd 5)))))
 (ZH (ZT (YS (Yr (Zi YM (Zd 3) (Zf (d:=(.int 1)) (by rfl) (by rfl)))) (ZI (show VS _ _ [] _ _ _ _ from(ZD 7 (YJ [] (by rfl) (Ze (Zd 1) (Ze (Zi Y7 (Zi Zv (Zd 2) (Zf (d:=(.int 1)) (by rfl) (by rfl))) (Zf (d:=(.int 5)) (by rfl) (by rfl))) Zk)))))
 (show VS _ _ [] _ _ _ _ from(ZD 4 (Zi Zv (VF.cl (Yo (Ze (Zf (d:=(.str [])) (by rfl) (by rfl)) (Ze (Ud (Or.inl rfl) (Zd 1) VU (VV (Zf (d:=(.int 2)) (by rfl) (by rfl)))) (Ze (Zd 7) (Ze (Zd 7) (Ze (Zd 7) Zk))))))) (Zi ZW (Zi Zv (Zd 2) (Zf (d:=(.int 1)) (by rfl) (by rfl))) (Zf (d:=(.int 5)) (by rfl) (by rfl))))))) Yh))
 (ZH (ZT (YS (Yr (Zi YM (Zd 3) (Zf (d:=(.int 2)) (by rfl) (by rfl)))) (ZI (show VS _ _ [] _ _ _ _ from(ZD 5 (YJ [] (by rfl) (Ze (Zi Zv (Zd 2) (Zf (d:=(.int 2)) (by rfl) (by rfl))) (Ze (Zf (d:=(.int 1)) (by rfl) (by rfl)) (Ze (Zf (d:=(.int 6)) (by rfl) (by rfl)) Zk))))))
 (show VS _ _ [] _ _ _ _ from(ZD 6 (Zf (d:=(.int 0)) (by rfl) (by rfl))))) Yh))
 (ZH (ZT (YS (Yr (Zi YM (Zd 3) (Zf (d:=(.int 3)) (by rfl) (by rfl)))) (show VS _ _ [] _ _ _ _ from(ZD 6 (YJ [] (by rfl) (Ze (Zi Zv (Zd 2) (Zf (d:=(.int 3)) (by rfl) (by rfl))) (Ze (Zf (d:=(.int 0)) (by rfl) (by rfl)) (Ze (Zi UD (Zd 5) (Zf (d:=(.int 1)) (by rfl) (by rfl))) Zk)))))) Yh))
 (UR (c:="Turn") [] (by rfl) (Ze (Zd 0) (Ze (Zd 4) (Ze (Zd 5) (Ze (Zd 6) Zk)))))))))))
theorem ZkM(T:Txt K mg t):FnOk P w K mg base (CX1 P w) 5 t.a_Q4 t.d_Q4 ["own", "marks", "cells", "bad"] (spX ⟨t.c,K⟩ 4 (okD Jg) (erD Jg)):=by
 have GM_QL:FnOk P w K mg base (CX2 P w) 3 t.a_QL t.d_QL ["self", "marks", "most"] (Ys ⟨t.c,K⟩ 3 (okD XI) (erD XI)):=(Zhy T).mono (by decide);have GM_Q1:FnOk P w K mg base (CX2 P w) 3 t.a_Q1 t.d_Q1 ["self", "marks", "rules"] (Ys ⟨t.c,K⟩ 3 (okD Vn) (erD Vn)):=(ZkF T).mono (by decide);have GM_QZ:FnOk P w K mg base (CX2 P w) 3 t.a_QZ t.d_QZ ["self", "marks", "mark", "least", "most"] (Ys ⟨t.c,K⟩ 5 (okD Xm) (erD Xm)):=(Zhx T).mono (by decide)
 have GM_QQ:FnOk P w K mg base (CX2 P w) 3 t.a_QQ t.d_QQ ["self", "marks"] (Ys ⟨t.c,K⟩ 2 (okD Z2) (erD Z2)):=(Ut T).mono (by decide);refine US (r:=Zjz) T.p_Q4.f Zko (by conv=>lhs;whnf) (by conv=>lhs;whnf) (λcdv A outer s H E hr => ?_) rfl rfl;refine⟨_,(Zo (ZF (i:=4) Jq (by rfl) (by first|exact Or.inl rfl|exact Or.inr rfl) (Yn (Zc (XM T.mk_Alike (GM_QL) hr (by rfl) T.g_Alike T.p_QL.b .nil X1 (Zc (pv 1) (Zc Zh Zj))) (Zc (XM T.mk_Rule (GM_QQ) hr (by rfl) T.g_Rule T.p_QQ.b .nil X1 (Zc (pv 1) Zj)) (Zc (XM T.mk_Gap (GM_QZ) hr (by rfl) T.g_Gap T.b1_Gap_init (.cons (show RelV .non Value.none from rfl) .nil) X1 (Zc (pv 1) (Zc (Zt (Zu (K:=K)) (pv 1) Zh (λ_ _=>rfl)) (Zc Zh Zj)))) Zj)))))
 (Zo (Q2 (i:=5) Jq (by rfl) (by rfl) (by rfl) (CompSd.mk1 (tn:=["k"]) (cn:=["some", "cells"]) (js:=[4,2]) (osc:=defScope QC) (oN:=["own", "marks", "cells", "bad", "some", "rules", "other"]) (by rfl) (by rfl) (by rfl) (by decide +kernel)) (Uw (by rfl) T.n_range (Zc (Zr ZU (Zt (Zu (K:=K)) (pv 2) Zh (λ_ _=>rfl)) Zh) Zj)) (λC s₂ H₂ fp=>Xo (i:=0) Zlw) (λC s₂ H₂ fp=>X6) (λC s₂ H₂ fp=>(Zt (Zu (K:=K)) (pv 1) (Zr ZU (Zr Xd (Zt (Zu (K:=K)) (pv 2) Zh (λ_ _=>rfl)) (pv 0)) Zh) (λ_ _=>rfl))))
 (Zo (Yg (Yp (YL (cA:=⟨t.c,K⟩) (hr.units)) (pv 3) Zh (ZV _)) (Zx (Q2 (i:=5) Jq (by rfl) (by rfl) (by rfl) (CompSd.mk1 (tn:=["k"]) (cn:=["marks"]) (js:=[1]) (osc:=defScope QC) (oN:=["own", "marks", "cells", "bad", "some", "rules", "other"]) (by rfl) (by rfl) (by rfl) (by decide +kernel)) (Uw (by rfl) T.n_range (Zc (Zr Xd Zh (Zr ZU (Zt (Zu (K:=K)) (pv 2) Zh (λ_ _=>rfl)) Zh)) Zj)) (λC s₂ H₂ fp=>Xo (i:=0) Zlx) (λC s₂ H₂ fp=>X6) (λC s₂ H₂ fp=>(XM T.mk_Rule (GM_QQ) hr (by rfl) T.g_Rule T.p_QQ.b .nil Zh9 (Zc (pv 1) Zj))))) Ye)
 (Zo (Yg (Yp U8 (pv 3) Zh (ZV _)) (Zo (ZF (i:=6) Jq (by rfl) (by first|exact Or.inl rfl|exact Or.inr rfl) (Yn (Zc (XM T.mk_All (GM_Q1) hr (by rfl) T.g_All T.p_Q1.b .nil X1 (Zc (pv 1) (Zc (Yn Zj) Zj))) (Zc (XM T.mk_Rule (GM_QQ) hr (by rfl) T.g_Rule T.p_QQ.b .nil X1 (Zc (Qf (K:=K) PySem.F.plainAttrs_str PySem.F.slot_str_join PySem.F.type_str_join (ZbY (K:=K)) (ZB [] (by decide +kernel)) (Zc (ZgO (by rfl) T.n_list (by rfl) T.n_reversed (pv 1)) Zj)) Zj)) (Zc (XM T.mk_Rule (GM_QQ) hr (by rfl) T.g_Rule T.p_QQ.b .nil X1 (Zc (Zt (Zu (K:=K)) (Yn (Zc (ZB [48,49] (by decide +kernel)) (Zc (ZB [120,121,122] (by decide +kernel)) Zj))) (V7 JH (by rfl) T.n_int boot_int (Zc (XC (JI (K:=K)) (ZB [48] (by decide +kernel)) (pv 1) (by rfl)) Zj)) (λ_ _=>rfl)) Zj)) Zj)))))
 (Zo (ZF (i:=5) Jq (by rfl) (by first|exact Or.inl rfl|exact Or.inr rfl) (VL (VN (K:=K)) (pv 5) VC (VD Zh)))
 (Zx (YV (Qf (K:=K) PySem.F.plainAttrs_list PySem.F.slot_list_insert PySem.F.type_list_insert Zer (pv 5) (Zc (Zr ZU (Zr Y4 (Zt (Zu (K:=K)) (pv 2) Zh (λ_ _=>rfl)) Zh) (Zr Xd (ZO (Xe (K:=K)) (by rfl) T.n_len boot_len (Zc (pv 5) Zj)) Zh)) (Zc (Zt (Zu (K:=K)) (pv 6) (Zr ZU (Zt (Zu (K:=K)) (pv 2) Zh (λ_ _=>rfl)) Zh) (λ_ _=>rfl)) Zj))))))) Ye)
 (Zx (Z0 (XM T.mk_All (GM_Q1) hr (by rfl) T.g_All T.p_Q1.b .nil X1 (Zc (pv 0) (Zc (pv 5) Zj))))))))),[],?_⟩
 unfold Zjz;exact(ZH (ZT (show VS _ _ [] _ _ _ _ from(ZD 4 (VF.cl (Yo (Ze (Uf (c:="Alike") [] (by rfl) (Ze (Zd 1) (Ze (Zf (d:=(.int 2)) (by rfl) (by rfl)) Zk))) (Ze (Uf (c:="Rule") [] (by rfl) (Ze (Zd 1) Zk)) (Ze (Uf (c:="Gap") [.non] (by rfl) (Ze (Zd 1) (Ze (Zi Zv (Zd 1) (Zf (d:=(.int 0)) (by rfl) (by rfl))) (Ze (Zf (d:=(.int 1)) (by rfl) (by rfl)) Zk)))) Zk))))))))
 (ZH (ZT (show VS _ _ [5] _ _ _ _ from(JW 5 (XY (by rfl) (UI (Ze (Zi ZW (Zi Zv (Zd 2) (Zf (d:=(.int 2)) (by rfl) (by rfl))) (Zf (d:=(.int 7)) (by rfl) (by rfl))) Zk) Uc) (XF 0) X7 (Zi Zv (Zd 1) (Zi ZW (Zi Xf (Zi Zv (Zd 2) (Zf (d:=(.int 1)) (by rfl) (by rfl))) (Zd 0)) (Zf (d:=(.int 3)) (by rfl) (by rfl))))))))
 (VR.frz (ow1:=[]) 5 (ZH (ZT (YS (Yr (Zi YM (Zd 3) (Zf (d:=(.int 1)) (by rfl) (by rfl)))) (VS.frzN 5 (show VS _ _ [5] _ _ _ _ from(JW 5 (XY (by rfl) (UI (Ze (Zi Xf (Zf (d:=(.int 7)) (by rfl) (by rfl)) (Zi ZW (Zi Zv (Zd 2) (Zf (d:=(.int 3)) (by rfl) (by rfl))) (Zf (d:=(.int 3)) (by rfl) (by rfl)))) Zk) Uc) (XF 0) X7 (Uf (c:="Rule") [] (by rfl) (Ze (Zd 1) Zk))))) (by rfl) (by rfl) (by rfl) (by rfl)) Yh))
 (ZH (ZT (YS (Yr (Zi VP (Zd 3) (Zf (d:=(.int 1)) (by rfl) (by rfl)))) (VS.frzN 5 (ZI (show VS _ _ [] _ _ _ _ from(ZD 6 (VF.cl (Yo (Ze (Uf (c:="All") [] (by rfl) (Ze (Zd 1) (Ze (VF.cl (Yo Zk)) Zk))) (Ze (Uf (c:="Rule") [] (by rfl) (Ze (J0 ZbZ (Zf (d:=(.str [])) (by rfl) (by rfl)) (Ze (VF.cl (ZgN (Zd 1))) Zk)) Zk)) (Ze (Uf (c:="Rule") [] (by rfl) (Ze (Zi Zv (VF.cl (Yo (Ze (Zf (d:=(.str [48,49])) (by rfl) (by rfl)) (Ze (Zf (d:=(.str [120,121,122])) (by rfl) (by rfl)) Zk)))) (YI JS (Ze (Zi QT (Zf (d:=(.str [48])) (by rfl) (by rfl)) (Zd 1)) Zk))) Zk)) Zk)))))))
 (ZI (show VS _ _ [5] _ _ _ _ from(JW 5 (Zic (Or.inl rfl) (Zd 5) VU (VV (Zf (d:=(.int 5)) (by rfl) (by rfl))))))
 (Zid 5 (by rfl) (Zi ZW (Zi Y7 (Zi Zv (Zd 2) (Zf (d:=(.int 3)) (by rfl) (by rfl))) (Zf (d:=(.int 3)) (by rfl) (by rfl))) (Zi Xf (YI Xg (Ze (ZfM 5 (by rfl)) Zk)) (Zf (d:=(.int 1)) (by rfl) (by rfl)))) (Zi Zv (Zd 6) (Zi ZW (Zi Zv (Zd 2) (Zf (d:=(.int 3)) (by rfl) (by rfl))) (Zf (d:=(.int 3)) (by rfl) (by rfl))))))) (by rfl) (by rfl) (by rfl) (by rfl)) Yh))
 (UR (c:="All") [] (by rfl) (Ze (Zd 0) (Ze (Zd 5) Zk))))) (by rfl) (by rfl) (by rfl) (by rfl))))
theorem ZkN(T:Txt K mg t):FnOk P w K mg base (CX1 P w) 6 t.a_QV t.d_QV ["own", "marks", "cells", "bad"] (spX ⟨t.c,K⟩ 4 (okD Xr) (erD Xr)):=by
 have GM_QL:FnOk P w K mg base (CX2 P w) 4 t.a_QL t.d_QL ["self", "marks", "most"] (Ys ⟨t.c,K⟩ 3 (okD XI) (erD XI)):=(Zhy T).mono (by decide);have GM_QQ:FnOk P w K mg base (CX2 P w) 4 t.a_QQ t.d_QQ ["self", "marks"] (Ys ⟨t.c,K⟩ 2 (okD Z2) (erD Z2)):=(Ut T).mono (by decide);have G_Q4:=(ZkM (P:=P) (w:=w) (base:=base) T).mono (k:=5) (by decide);have G_QX:=(ZkI (P:=P) (w:=w) (base:=base) T).mono (k:=5) (by decide)
 have G_Q3:=(ZeC (P:=P) (w:=w) (base:=base) T).mono (k:=5) (by decide);have G_Q0:=(ZkK (P:=P) (w:=w) (base:=base) T).mono (k:=5) (by decide);have G_QS:=(ZkL (P:=P) (w:=w) (base:=base) T).mono (k:=5) (by decide);have G_QW:=(ZkJ (P:=P) (w:=w) (base:=base) T).mono (k:=5) (by decide);refine US (r:=ZjA) T.p_QV.f Zkp (by conv=>lhs;whnf) (by conv=>lhs;whnf) (λcdv A outer s H E hr => ?_) rfl rfl
 refine⟨_,(Zo (ZF (i:=4) Zly (by rfl) (by first|exact Or.inl rfl|exact Or.inr rfl) (Zr ZU (Zr Y4 (Zt (Zu (K:=K)) (pv 2) Zh (λ_ _=>rfl)) Zh) Zh))
 (Zo (Yg (Yp (YL (cA:=⟨t.c,K⟩) (hr.units)) (pv 4) Zh (ZV _)) (Zx (Z0 (XM T.mk_Rule (GM_QQ) hr (by rfl) T.g_Rule T.p_QQ.b .nil X1 (Zc (pv 0) Zj)))) Ye)
 (Zo (Yg (Yp (YL (cA:=⟨t.c,K⟩) (hr.units)) (pv 4) Zh (ZV _)) (Zx (Z0 (ZL (G_QX) hr (by rfl) T.p_QX.g T.p_QX.k T.p_QX.b .nil QV (Zc (pv 0) (Zc (pv 1) (Zc (pv 2) (Zc (pv 3) Zj))))))) Ye)
 (Zo (Yg (Yp (YL (cA:=⟨t.c,K⟩) (hr.units)) (pv 4) Zh (ZV _)) (Zx (Z0 (ZL (G_QW) hr (by rfl) T.p_QW.g T.p_QW.k T.p_QW.b .nil QV (Zc (pv 0) (Zc (pv 1) (Zc (pv 2) (Zc (pv 3) Zj))))))) Ye)
 (Zo (Yg (Yp (YL (cA:=⟨t.c,K⟩) (hr.units)) (pv 4) Zh (ZV _)) (Zx (Z0 (ZL (G_Q0) hr (by rfl) T.p_Q0.g T.p_Q0.k T.p_Q0.b .nil QV (Zc (pv 0) (Zc (pv 1) (Zc (pv 2) (Zc (pv 3) Zj))))))) Ye)
 (Zo (Yg (Yp (YL (cA:=⟨t.c,K⟩) (hr.units)) (pv 4) Zh (ZV _)) (Zx (Z0 (ZL (G_QS) hr (by rfl) T.p_QS.g T.p_QS.k T.p_QS.b .nil QV (Zc (pv 0) (Zc (pv 1) (Zc (pv 2) (Zc (pv 3) Zj))))))) Ye)
 (Zo (Yg (Yp (YL (cA:=⟨t.c,K⟩) (hr.units)) (pv 4) Zh (ZV _)) (Zx (Z0 (XM T.mk_Alike (GM_QL) hr (by rfl) T.g_Alike T.p_QL.b .nil X1 (Zc (pv 0) (Zc (Zt (Zu (K:=K)) (Yn (Zc (Zr Xd Zh (Zr ZU (Zt (Zu (K:=K)) (pv 2) Zh (λ_ _=>rfl)) Zh)) (Zc (ZL (G_Q3) hr (by rfl) T.p_Q3.g T.p_Q3.k T.p_Q3.b .nil Yq (Zc (Zt (Zu (K:=K)) (pv 2) Zh (λ_ _=>rfl)) (Zc Zh (Zc Zh Zj)))) Zj))) (V7 JH (by rfl) T.n_int boot_int (Zc (XC U8 (pv 3) Zh (ZV _)) Zj)) (λ_ _=>rfl)) Zj))))) Ye)
 (Zx (Z0 (ZL (G_Q4) hr (by rfl) T.p_Q4.g T.p_Q4.k T.p_Q4.b .nil QV (Zc (pv 0) (Zc (pv 1) (Zc (pv 2) (Zc (pv 3) Zj)))))))))))))),[],?_⟩
 unfold ZjA;exact(ZH (ZT (show VS _ _ [] _ _ _ _ from(ZD 4 (Zi ZW (Zi Y7 (Zi Zv (Zd 2) (Zf (d:=(.int 0)) (by rfl) (by rfl))) (Zf (d:=(.int 3)) (by rfl) (by rfl))) (Zf (d:=(.int 7)) (by rfl) (by rfl))))))
 (ZH (Uj (Yr (Zi YM (Zd 4) (Zf (d:=(.int 0)) (by rfl) (by rfl)))) (UR (c:="Rule") [] (by rfl) (Ze (Zd 0) Zk)) (ZT Yh))
 (ZH (Uj (Yr (Zi YM (Zd 4) (Zf (d:=(.int 1)) (by rfl) (by rfl)))) (Q5 (Ze (Zd 0) (Ze (Zd 1) (Ze (Zd 2) (Ze (Zd 3) Zk))))) (ZT Yh))
 (ZH (Uj (Yr (Zi YM (Zd 4) (Zf (d:=(.int 2)) (by rfl) (by rfl)))) (Q5 (Ze (Zd 0) (Ze (Zd 1) (Ze (Zd 2) (Ze (Zd 3) Zk))))) (ZT Yh))
 (ZH (Uj (Yr (Zi YM (Zd 4) (Zf (d:=(.int 3)) (by rfl) (by rfl)))) (Q5 (Ze (Zd 0) (Ze (Zd 1) (Ze (Zd 2) (Ze (Zd 3) Zk))))) (ZT Yh))
 (ZH (Uj (Yr (Zi YM (Zd 4) (Zf (d:=(.int 4)) (by rfl) (by rfl)))) (Q5 (Ze (Zd 0) (Ze (Zd 1) (Ze (Zd 2) (Ze (Zd 3) Zk))))) (ZT Yh))
 (ZH (Uj (Yr (Zi YM (Zd 4) (Zf (d:=(.int 5)) (by rfl) (by rfl)))) (UR (c:="Alike") [] (by rfl) (Ze (Zd 0) (Ze (Zi Zv (VF.cl (Yo (Ze (Zi Xf (Zf (d:=(.int 1)) (by rfl) (by rfl)) (Zi ZW (Zi Zv (Zd 2) (Zf (d:=(.int 1)) (by rfl) (by rfl))) (Zf (d:=(.int 6)) (by rfl) (by rfl)))) (Ze (YJ [] (by rfl) (Ze (Zi Zv (Zd 2) (Zf (d:=(.int 1)) (by rfl) (by rfl))) (Ze (Zf (d:=(.int 1)) (by rfl) (by rfl)) (Ze (Zf (d:=(.int 6)) (by rfl) (by rfl)) Zk)))) Zk)))) (YI JS (Ze (Zi VP (Zd 3) (Zf (d:=(.int 0)) (by rfl) (by rfl))) Zk))) Zk))) (ZT Yh))
 (Q5 (Ze (Zd 0) (Ze (Zd 1) (Ze (Zd 2) (Ze (Zd 3) Zk))))))))))))
theorem ZkO(T:Txt K mg t):FnOk P w K mg base CX0 7 t.a_QM t.d_QM ["own", "marks", "cells", "bad"] (spD ⟨t.c,K⟩ 4 UW):=by
 have G_QN:=(ZkB (P:=P) (w:=w) (base:=base) T).mono (k:=6) (by decide);have G_QV:=(ZkN (P:=P) (w:=w) (base:=base) T).mono (k:=6) (by decide);refine Xl (φ:=ZjB) T.p_QM.f Zkq (by conv=>lhs;whnf) (by conv=>lhs;whnf) (λcdv A outer s H E hr => ?_) rfl rfl;refine⟨_,(Zo (ZF (i:=4) Vu (by rfl) (by first|exact Or.inl rfl|exact Or.inr rfl) (ZB [109,97,100,101] (by decide +kernel)))
 (Zo (ZF (i:=5) Vu (by rfl) (by first|exact Or.inl rfl|exact Or.inr rfl) (Yn Zj))
 (Zo (ZgL ⟨rfl,rfl⟩ (λE=>(Zfh (i:=6) Vu (by rfl) (by first|exact Or.inl rfl|exact Or.inr rfl) (Ze4 (G_QV) hr (by rfl) T.p_QV.g T.p_QV.k T.p_QV.b .nil (λ_ _ z=>z) (Zc (pv 0) (Zc (pv 1) (Zc (pv 2) (Zc (pv 3) Zj))))) (Zx (ZF (i:=4) Vu (by rfl) (by first|exact Or.inl rfl|exact Or.inr rfl) (Zt (Zu (K:=K)) (Yn (Zc (ZB [111,116,104,101,114] (by decide +kernel)) (Zc (ZB [109,97,100,101] (by decide +kernel)) Zj))) (V7 JH (by rfl) T.n_int boot_int (Zc (U5 (ZO (JX (K:=K)) (by rfl) T.n_isinstance boot_isinstance (Zc (pv 6) (Zc (Xb (v:=.ref (t.c "Rule")) (by rfl) T.g_Rule (by rfl)) Zj))) (U5 (XC (YL (cA:=⟨t.c,K⟩) (hr.units)) (JK (K:=K) (pv 6)) (pv 0) (ZV _)) (U4 (XC ZeZ (Zct (cA:=⟨t.c,K⟩) (tab:=Zap) (m:="keeps") ⟨⟨t.a_QN,t.d_QN,["self", "row"],T.cl_Rule,T.me_Rule_keeps,G_QN,T.p_QN.b⟩,⟨⟨t.a_QN,t.d_QN,["self", "row"],T.cl_Gap,T.me_Gap_keeps,G_QN,T.p_QN.b⟩,⟨⟨t.a_QN,t.d_QN,["self", "row"],T.cl_Never,T.me_Never_keeps,G_QN,T.p_QN.b⟩,⟨⟨t.a_QN,t.d_QN,["self", "row"],T.cl_Sum,T.me_Sum_keeps,G_QN,T.p_QN.b⟩,⟨⟨t.a_QN,t.d_QN,["self", "row"],T.cl_Turn,T.me_Turn_keeps,G_QN,T.p_QN.b⟩,⟨⟨t.a_QN,t.d_QN,["self", "row"],T.cl_Alike,T.me_Alike_keeps,G_QN,T.p_QN.b⟩,⟨⟨t.a_QN,t.d_QN,["self", "row"],T.cl_All,T.me_All_keeps,G_QN,T.p_QN.b⟩,trivial⟩⟩⟩⟩⟩⟩⟩ hr (pv 6) (Zc (ZB [] (by decide +kernel)) Zj)) X3 (ZV _))))) Zj)) (λ_ _=>rfl)))) (λ_ _ z=>z))) (ZdH (i:=7) (n:="e") Vu (by rfl) (by rfl) (by rfl) T.g_BadMarks (λea=>(Zo (ZF (i:=4) Vu (by rfl) (by first|exact Or.inl rfl|exact Or.inr rfl) (ZB [109,97,114,107,115] (by decide +kernel)))
 (Zx (ZF (i:=5) Vu (by rfl) (by first|exact Or.inl rfl|exact Or.inr rfl) (Yn (Zc (ZO (Xv (K:=K)) (by rfl) T.n_isinstance boot_isinstance (Zc (pv 7) (Zc (Xb (v:=.ref (t.c "GrooveError")) (by rfl) T.g_GrooveError (by rfl)) Zj))) (Zc (ZO (Xv (K:=K)) (by rfl) T.n_isinstance boot_isinstance (Zc (pv 7) (Zc (QI (v:=.ty "ValueError") (by rfl) T.n_ValueError PyProof.Rows.Boot.«ValueError» rfl) Zj))) (Zc (ZO (ZfS (K:=K)) (by rfl) T.n_isinstance boot_isinstance (Zc (pv 7) (Zc (Zc7 (Zc (Xb (v:=.ref (t.c "BadRule")) (by rfl) T.g_BadRule (by rfl)) (Zc (Xb (v:=.ref (t.c "BadMark")) (by rfl) T.g_BadMark (by rfl)) Zj))) Zj))) Zj)))))))) (ZdH (i:=7) (n:="e") Vu (by rfl) (by rfl) (by rfl) T.g_BadRule (λea=>(Zo (ZF (i:=4) Vu (by rfl) (by first|exact Or.inl rfl|exact Or.inr rfl) (ZB [114,117,108,101] (by decide +kernel)))
 (Zx (ZF (i:=5) Vu (by rfl) (by first|exact Or.inl rfl|exact Or.inr rfl) (Yn (Zc (ZO (Xv (K:=K)) (by rfl) T.n_isinstance boot_isinstance (Zc (pv 7) (Zc (Xb (v:=.ref (t.c "GrooveError")) (by rfl) T.g_GrooveError (by rfl)) Zj))) (Zc (ZO (Xv (K:=K)) (by rfl) T.n_isinstance boot_isinstance (Zc (pv 7) (Zc (QI (v:=.ty "ValueError") (by rfl) T.n_ValueError PyProof.Rows.Boot.«ValueError» rfl) Zj))) (Zc (ZO (ZfS (K:=K)) (by rfl) T.n_isinstance boot_isinstance (Zc (pv 7) (Zc (Zc7 (Zc (Xb (v:=.ref (t.c "BadMarks")) (by rfl) T.g_BadMarks (by rfl)) (Zc (Xb (v:=.ref (t.c "BadMark")) (by rfl) T.g_BadMark (by rfl)) Zj))) Zj))) Zj)))))))) Zia)))
 (Zo (Yg (PW.pt (ZhK (Yp (JI (K:=K)) (pv 4) (Yn (Zc (ZB [109,97,114,107,115] (by decide +kernel)) (Zc (ZB [114,117,108,101] (by decide +kernel)) Zj))) (by rfl)) (Zgm (Yp (Zda (cA:=⟨t.c,K⟩) (hr.units)) (pv 5) (Yn (Zc X3 (Zc X3 (Zc X3 Zj)))) (ZV _))))) (Zx (Z0 (ZB [111,116,104,101,114] (by decide +kernel)))) Ye)
 (Zx (Z0 (pv 4))))))),[],?_⟩
 unfold ZjB;exact(ZI (show VS _ _ [] _ _ _ _ from(ZD 4 (Zf (d:=(.str [109,97,100,101])) (by rfl) (by rfl))))
 (ZI (show VS _ _ [] _ _ _ _ from(ZD 5 (VF.cl (Yo Zk))))
 (ZI (ZgM (cl:=["BadMarks", "BadRule"]) T.xc_all (λE=>(ZI (show VS _ _ [] _ _ _ _ from(ZD 6 (Zbf [] (by rfl) (Ze (Zd 0) (Ze (Zd 1) (Ze (Zd 2) (Ze (Zd 3) Zk))))))) (show VS _ _ [] _ _ _ _ from(ZD 4 (Zi Zv (VF.cl (Yo (Ze (Zf (d:=(.str [111,116,104,101,114])) (by rfl) (by rfl)) (Ze (Zf (d:=(.str [109,97,100,101])) (by rfl) (by rfl)) Zk)))) (YI JS (Ze (Qg (JZ (c:=(.ref (t.c "Rule"))) (λ_ h=>h) T.isi_Rule (Zd 6)) (Qg (Zi YM (J4 T.fl_marks (Zd 6)) (Zd 0)) (Zi ZjP (J5 (Zd 6) (Ze (Zf (d:=(.str [])) (by rfl) (by rfl)) Zk)) (Zf (d:=(.bl true)) (by rfl) (by rfl))))) Zk))))))) (λE=>(Zfj (ZgB (Zbg [] (by rfl) (Ze (Zd 0) (Ze (Zd 1) (Ze (Zd 2) (Ze (Zd 3) Zk)))))))) (ZdL (i:=7) (cl:=["BadMarks"]) (no:=["BadRule"]) (by rfl) (by rfl) T.xt_BadMarks T.xf_BadMarks (ZI (show VS _ _ [] _ _ _ _ from(ZD 4 (Zf (d:=(.str [109,97,114,107,115])) (by rfl) (by rfl))))
 (show VS _ _ [] _ _ _ _ from(ZD 5 (VF.cl (Yo (Ze (Xw T.ix_GrooveError (Zd 7)) (Ze (Xw T.ix_ValueError (Zd 7)) (Ze (ZdK T.ix_BadRule (.cons (λc b h=>(T.ix_BadMark c b h).2) .nil) (Nat.le_of_ble_eq_true rfl) (Zd 7)) Zk)))))))) (ZdL (i:=7) (cl:=["BadRule"]) (no:=[]) (by rfl) (by rfl) T.xt_BadRule T.xf_BadRule (ZI (show VS _ _ [] _ _ _ _ from(ZD 4 (Zf (d:=(.str [114,117,108,101])) (by rfl) (by rfl))))
 (show VS _ _ [] _ _ _ _ from(ZD 5 (VF.cl (Yo (Ze (Xw T.ix_GrooveError (Zd 7)) (Ze (Xw T.ix_ValueError (Zd 7)) (Ze (ZdK T.ix_BadMarks (.cons (λc b h=>(T.ix_BadMark c b h).2) .nil) (Nat.le_of_ble_eq_true rfl) (Zd 7)) Zk)))))))) Zib)))
 (ZI (YS (Zh0 (Yr (Zi QT (Zd 4) (VF.cl (Yo (Ze (Zf (d:=(.str [109,97,114,107,115])) (by rfl) (by rfl)) (Ze (Zf (d:=(.str [114,117,108,101])) (by rfl) (by rfl)) Zk)))))) (Yr (Zi Zf6 (Zd 5) (VF.cl (Yo (Ze (Zf (d:=(.bl true)) (by rfl) (by rfl)) (Ze (Zf (d:=(.bl true)) (by rfl) (by rfl)) (Ze (Zf (d:=(.bl false)) (by rfl) (by rfl)) Zk)))))))) (YB (Zf (d:=(.str [111,116,104,101,114])) (by rfl) (by rfl))) Yh)
 (YB (Zd 4))))))
theorem ZkP(T:Txt K mg t):FnOk P w K mg base CX0 1 t.a_QI t.d_QI ["one"] (spD ⟨t.c,K⟩ 1 ZiA):=by
 refine Xl (φ:=ZjC) T.p_QI.f Zkr (by conv=>lhs;whnf) (by conv=>lhs;whnf) (λcdv A outer s H E hr => ?_) rfl rfl;refine⟨_,(Zo (ZF (i:=1) Zlg (by rfl) (by first|exact Or.inl rfl|exact Or.inr rfl) (Yn (Zc (ZO (Xv (K:=K)) (by rfl) T.n_isinstance boot_isinstance (Zc (pv 0) (Zc (Xb (v:=.ref (t.c "BadMarks")) (by rfl) T.g_BadMarks (by rfl)) Zj))) (Zc (ZO (Xv (K:=K)) (by rfl) T.n_isinstance boot_isinstance (Zc (pv 0) (Zc (Xb (v:=.ref (t.c "BadRule")) (by rfl) T.g_BadRule (by rfl)) Zj))) (Zc (ZO (Xv (K:=K)) (by rfl) T.n_isinstance boot_isinstance (Zc (pv 0) (Zc (Xb (v:=.ref (t.c "BadMark")) (by rfl) T.g_BadMark (by rfl)) Zj))) (Zc (ZO (Xv (K:=K)) (by rfl) T.n_isinstance boot_isinstance (Zc (pv 0) (Zc (Xb (v:=.ref (t.c "TooLarge")) (by rfl) T.g_TooLarge (by rfl)) Zj))) Zj))))))
 (Zo (ZF (i:=1) Zlg (by rfl) (by first|exact Or.inl rfl|exact Or.inr rfl) (Zr (QW (K:=K)) (pv 1) (Yn (Zc (ZO (Xv (K:=K)) (by rfl) T.n_isinstance boot_isinstance (Zc (pv 0) (Zc (Xb (v:=.ref (t.c "Nothing")) (by rfl) T.g_Nothing (by rfl)) Zj))) (Zc (ZO (Xv (K:=K)) (by rfl) T.n_isinstance boot_isinstance (Zc (pv 0) (Zc (Xb (v:=.ref (t.c "NoRow")) (by rfl) T.g_NoRow (by rfl)) Zj))) (Zc (ZO (Xv (K:=K)) (by rfl) T.n_isinstance boot_isinstance (Zc (pv 0) (Zc (Xb (v:=.ref (t.c "BadSign")) (by rfl) T.g_BadSign (by rfl)) Zj))) Zj))))))
 (Zx (Z0 (Zr (QW (K:=K)) (pv 1) (Yn (Zc (ZO (Xv (K:=K)) (by rfl) T.n_isinstance boot_isinstance (Zc (pv 0) (Zc (Xb (v:=.ref (t.c "Unread")) (by rfl) T.g_Unread (by rfl)) Zj))) (Zc (ZO (Xv (K:=K)) (by rfl) T.n_isinstance boot_isinstance (Zc (pv 0) (Zc (Xb (v:=.ref (t.c "BadRow")) (by rfl) T.g_BadRow (by rfl)) Zj))) (Zc (ZO (Xv (K:=K)) (by rfl) T.n_isinstance boot_isinstance (Zc (pv 0) (Zc (Xb (v:=.ref (t.c "BadTable")) (by rfl) T.g_BadTable (by rfl)) Zj))) Zj))))))))),[],?_⟩
 unfold ZjC;exact(ZI (show VS _ _ [] _ _ _ _ from(ZD 1 (VF.cl (Yo (Ze (Xw T.ix_BadMarks (Zd 0)) (Ze (Xw T.ix_BadRule (Zd 0)) (Ze (Xw T.ix_BadMark (Zd 0)) (Ze (Xw T.ix_TooLarge (Zd 0)) Zk))))))))
 (ZI (show VS _ _ [] _ _ _ _ from(ZD 1 (VF.cl (Q1 (Zd 1) (VF.cl (Yo (Ze (Xw T.ix_Nothing (Zd 0)) (Ze (Xw T.ix_NoRow (Zd 0)) (Ze (Xw T.ix_BadSign (Zd 0)) Zk)))))))))
 (YB (VF.cl (Q1 (Zd 1) (VF.cl (Yo (Ze (Xw T.ix_Unread (Zd 0)) (Ze (Xw T.ix_BadRow (Zd 0)) (Ze (Xw T.ix_BadTable (Zd 0)) Zk))))))))))
theorem ZkQ(T:Txt K mg t):FnOk P w K mg base CX0 3 t.a_QK t.d_QK [] (spD ⟨t.c,K⟩ 0 ZiB):=by
 have GI_BadRow_init:FnOk P w K mg base CX0 1 t.a_QF t.d_QF ["self", "row"] (Qr t.c_BadRow (Str.ofString "row")):=(Zkw T).mono (by decide);have GI_BadTable_init:FnOk P w K mg base CX0 1 t.a_QC t.d_QC ["self", "row"] (Qr t.c_BadTable (Str.ofString "row")):=(Zkx T).mono (by decide);have G_QI:=(ZkP (P:=P) (w:=w) (base:=base) T).mono (k:=2) (by decide);refine Xl (φ:=ZjD) T.p_QK.f Zks (by conv=>lhs;whnf) (by conv=>lhs;whnf) (λcdv A outer s H E hr => ?_) rfl rfl
 refine⟨_,(Zo (ZF (i:=0) Zi0 (by rfl) (by first|exact Or.inl rfl|exact Or.inr rfl) (Yn (Zc (Ug (by rfl) T.g_BadMarks T.en_BadMarks T.kx_BadMarks (Zc (ZB [111,100,100] (by decide +kernel)) Zj)) (Zc (Ug (by rfl) T.g_BadRule T.en_BadRule T.kx_BadRule (Zc (ZB [111,100,100] (by decide +kernel)) Zj)) (Zc (Ug (by rfl) T.g_BadMark T.en_BadMark T.kx_BadMark (Zc (ZB [111,100,100] (by decide +kernel)) Zj)) (Zc (Ug (by rfl) T.g_TooLarge T.en_TooLarge T.kx_TooLarge (Zc (ZB [111,100,100] (by decide +kernel)) Zj)) (Zc (Ug (by rfl) T.g_Nothing T.en_Nothing T.kx_Nothing (Zc (ZB [111,100,100] (by decide +kernel)) Zj)) (Zc (Ug (by rfl) T.g_NoRow T.en_NoRow T.kx_NoRow (Zc (ZB [111,100,100] (by decide +kernel)) Zj)) Zj))))))))
 (Zo (ZF (i:=0) Zi0 (by rfl) (by first|exact Or.inl rfl|exact Or.inr rfl) (Zr (QW (K:=K)) (pv 0) (Yn (Zc (Ug (by rfl) T.g_BadSign T.en_BadSign T.kx_BadSign (Zc (ZB [111,100,100] (by decide +kernel)) Zj)) (Zc (Ug (by rfl) T.g_Unread T.en_Unread T.kx_Unread (Zc (ZB [111,100,100] (by decide +kernel)) Zj)) (Zc (ZfR T.xi_BadRow GI_BadRow_init hr (by rfl) T.g_BadRow T.p_QF.b (Zc Zh Zj)) (Zc (ZfR T.xi_BadTable GI_BadTable_init hr (by rfl) T.g_BadTable T.p_QC.b (Zc Zh Zj)) Zj)))))))
 (Zo ((Zc6 PassesOwn.never (by rfl) (Uw (by rfl) T.n_range (Zc (ZO (Xe (K:=K)) (by rfl) T.n_len boot_len (Zc (pv 0) Zj)) Zj)) (Xo (i:=1) Zi0) (Zo (ZF (i:=2) Zi0 (by rfl) (by first|exact Or.inl rfl|exact Or.inr rfl) (ZL (G_QI) hr (by rfl) T.p_QI.g T.p_QI.k T.p_QI.b .nil Yq (Zc (Zt (Zu (K:=K)) (pv 0) (pv 1) (λ_ _=>rfl)) Zj)))
 (Zo (Yg (PW.pt (Jy (Yp (Zda (cA:=⟨t.c,K⟩) (hr.units)) (Qf (K:=K) PySem.F.plainAttrs_list PySem.F.slot_list_count PySem.F.type_list_count (Zen (K:=K)) (pv 2) (Zc X3 Zj)) Zh (ZV _)) (Jy (Uu (V4 (Zt (Zu (K:=K)) (pv 2) (pv 1) (λ_ _=>rfl)))) (Zc5 (Uu (V4 (ZO (Xv (K:=K)) (by rfl) T.n_isinstance boot_isinstance (Zc (Zt (Zu (K:=K)) (pv 0) (pv 1) (λ_ _=>rfl)) (Zc (Xb (v:=.ref (t.c "GrooveError")) (by rfl) T.g_GrooveError (by rfl)) Zj))))))))) (Zx (Z0 X3)) Ye)
 (Zx (Yg (Uu (V4 (ZO (Xv (K:=K)) (by rfl) T.n_isinstance boot_isinstance (Zc (Zt (Zu (K:=K)) (pv 0) (pv 1) (λ_ _=>rfl)) (Zc (QI (v:=.ty "ValueError") (by rfl) T.n_ValueError PyProof.Rows.Boot.«ValueError» rfl) Zj))))) (Zx (Z0 X3)) Ye))))))
 (Zx (Z0 (U5 (XC (YL (cA:=⟨t.c,K⟩) (hr.units)) (Zhp (K:=K) (Zt (Zu (K:=K)) (pv 0) Zh (λ_ _=>rfl))) Zh (ZV _)) (U4 (XC (YL (cA:=⟨t.c,K⟩) (hr.units)) (Zhp (K:=K) (Zt (Zu (K:=K)) (pv 0) Zh (λ_ _=>rfl))) Zh (ZV _))))))))),[],?_⟩
 unfold ZjD;exact(ZI (show VS _ _ [] _ _ _ _ from(ZD 0 (VF.cl (Yo (Ze (Uh "BadMarks" (Ze (Zf (d:=(.str [111,100,100])) (by rfl) (by rfl)) Zk)) (Ze (Uh "BadRule" (Ze (Zf (d:=(.str [111,100,100])) (by rfl) (by rfl)) Zk)) (Ze (Uh "BadMark" (Ze (Zf (d:=(.str [111,100,100])) (by rfl) (by rfl)) Zk)) (Ze (Uh "TooLarge" (Ze (Zf (d:=(.str [111,100,100])) (by rfl) (by rfl)) Zk)) (Ze (Uh "Nothing" (Ze (Zf (d:=(.str [111,100,100])) (by rfl) (by rfl)) Zk)) (Ze (Uh "NoRow" (Ze (Zf (d:=(.str [111,100,100])) (by rfl) (by rfl)) Zk)) Zk))))))))))
 (ZI (show VS _ _ [] _ _ _ _ from(ZD 0 (VF.cl (Q1 (Zd 0) (VF.cl (Yo (Ze (Uh "BadSign" (Ze (Zf (d:=(.str [111,100,100])) (by rfl) (by rfl)) Zk)) (Ze (Uh "Unread" (Ze (Zf (d:=(.str [111,100,100])) (by rfl) (by rfl)) Zk)) (Ze (ZfT "BadRow" (Ze (Zf (d:=(.int 7)) (by rfl) (by rfl)) Zk)) (Ze (ZfT "BadTable" (Ze (Zf (d:=(.int 8)) (by rfl) (by rfl)) Zk)) Zk))))))))))
 (ZI (Zdd (UI (Ze (YI Xg (Ze (Zd 0) Zk)) Zk) Uc) (XF 1) (ZI (show VS _ _ [] _ _ _ _ from(ZD 2 (YJ [] (by rfl) (Ze (Zi Zv (Zd 0) (Zd 1)) Zk))))
 (ZI (YS (JQ (Yr (Zi Zf6 (ZjT Ze8 (Zd 2) (Zf (d:=(.bl true)) (by rfl) (by rfl))) (Zf (d:=(.int 1)) (by rfl) (by rfl)))) (JQ (UE (Ub (Zi Zv (Zd 2) (Zd 1)))) (UE (Ub (Xw T.ix_GrooveError (Zi Zv (Zd 0) (Zd 1))))))) (YB (Zf (d:=(.bl false)) (by rfl) (by rfl))) Yh)
 (YS (UE (Ub (Xw T.ix_ValueError (Zi Zv (Zd 0) (Zd 1))))) (YB (Zf (d:=(.bl false)) (by rfl) (by rfl))) Yh))))
 (YB (Qg (Zi YM (Zhr T.xr_all (Zi Zv (Zd 0) (Zf (d:=(.int 8)) (by rfl) (by rfl)))) (Zf (d:=(.int 7)) (by rfl) (by rfl))) (Zi YM (Zhr T.xr_all (Zi Zv (Zd 0) (Zf (d:=(.int 9)) (by rfl) (by rfl)))) (Zf (d:=(.int 8)) (by rfl) (by rfl))))))))
theorem ZkR(T:Txt K mg t):FnOk P w K mg base CX0 8 t.a_Q7 t.d_Q7 ["script"] (spD ⟨t.c,K⟩ 1 ZiC):=by
 have G_QK:=(ZkQ (P:=P) (w:=w) (base:=base) T).mono (k:=7) (by decide);have G_QM:=(ZkO (P:=P) (w:=w) (base:=base) T).mono (k:=7) (by decide);have G_QB:=(ZkH (P:=P) (w:=w) (base:=base) T).mono (k:=7) (by decide);have G_QE:=(ZkG (P:=P) (w:=w) (base:=base) T).mono (k:=7) (by decide);have G_QJ:=(Zhz (P:=P) (w:=w) (base:=base) T).mono (k:=7) (by decide)
 refine Xl (φ:=ZjE) T.p_Q7.f Zkt (by conv=>lhs;whnf) (by conv=>lhs;whnf) (λcdv A outer s H E hr => ?_) rfl rfl;refine⟨_,(Zo (Yg (Uu (V4 (ZeJ (G_QK) hr (by rfl) T.p_QK.g T.p_QK.k T.p_QK.b .nil Yq))) (Zx (Z0 X3)) Ye)
 (Zo (ZF (i:=1) Vv (by rfl) (by first|exact Or.inl rfl|exact Or.inr rfl) (VL (VN (K:=K)) (pv 0) VC (VD Zh)))
 (Zo ((Zc6 PassesOwn.never (by rfl) (Zef (by rfl) T.n_range (Zc Zh (Zc (Zr Xd (ZO (Xe (K:=K)) (by rfl) T.n_len boot_len (Zc (pv 1) Zj)) Zh) (Zc Zh Zj)))) (Xo (i:=2) Vv) (Zo (Q2 (i:=3) Vv (by rfl) (by rfl) (by rfl) (CompSd.mk1 (tn:=["step"]) (cn:=["cut", "k"]) (js:=[1,2]) (osc:=defScope Jp) (oN:=["script", "cut", "k", "cells", "marks", "kind", "bad", "due", "own"]) (by rfl) (by rfl) (by rfl) (by decide +kernel)) (Uw (by rfl) T.n_range (Zc Zh Zj)) (λC s₂ H₂ fp=>Xo (i:=0) Zlz) (λC s₂ H₂ fp=>X6) (λC s₂ H₂ fp=>(ZL (G_QE) hr (by rfl) T.p_QE.g T.p_QE.k T.p_QE.b .nil Yq (Zc (pv 1) (Zc (Zr Xd (pv 2) (pv 0)) Zj)))))
 (Zo (ZF (i:=4) Vv (by rfl) (by first|exact Or.inl rfl|exact Or.inr rfl) (ZL (G_QJ) hr (by rfl) T.p_QJ.g T.p_QJ.k T.p_QJ.b .nil Yq (Zc (Zt (Zu (K:=K)) (pv 3) Zh (λ_ _=>rfl)) Zj)))
 (Zo (ZF (i:=5) Vv (by rfl) (by first|exact Or.inl rfl|exact Or.inr rfl) (Zr ZU (Zr Y4 (Zt (Zu (K:=K)) (pv 3) Zh (λ_ _=>rfl)) Zh) Zh))
 (Zo (ZF (i:=6) Vv (by rfl) (by first|exact Or.inl rfl|exact Or.inr rfl) (Zt (Zu (K:=K)) (Yn (Zc Zh (Zc (Zr Xd Zh (Zr ZU (Zr Y4 (Zt (Zu (K:=K)) (pv 3) Zh (λ_ _=>rfl)) Zh) (Zt (Zu (K:=K)) (Yn (Zc Zh (Zc Zh (Zc Zh (Zc Zh (Zc Zh (Zc Zh (Zc Zh Zj)))))))) (pv 5) (λ_ _=>rfl)))) Zj))) (Zr ZU (Zr Y4 (Zt (Zu (K:=K)) (pv 3) Zh (λ_ _=>rfl)) Zh) Zh) (λ_ _=>rfl)))
 (Zo (ZF (i:=7) Vv (by rfl) (by first|exact Or.inl rfl|exact Or.inr rfl) (Zt (Zu (K:=K)) (Yn (Zc (ZB [109,97,100,101] (by decide +kernel)) (Zc (ZB [114,117,108,101] (by decide +kernel)) Zj))) (V7 JH (by rfl) T.n_int boot_int (Zc (U5 (XC U8 (pv 6) Zh (ZV _)) (U4 (XC U8 (pv 5) Zh (ZV _)))) Zj)) (λ_ _=>rfl)))
 (Zo (ZF (i:=8) Vv (by rfl) (by first|exact Or.inl rfl|exact Or.inr rfl) (pv 4))
 (Zo (Yg (Yp (YL (cA:=⟨t.c,K⟩) (hr.units)) (Zr ZU (Zr Y4 (Zt (Zu (K:=K)) (pv 3) Zh (λ_ _=>rfl)) Zh) Zh) Zh (ZV _)) (Zo (ZF (i:=8) Vv (by rfl) (by first|exact Or.inl rfl|exact Or.inr rfl) (ZL (G_QB) hr (by rfl) T.p_QB.g T.p_QB.k T.p_QB.b .nil Yq (Zc (Zr Y4 (Zt (Zu (K:=K)) (pv 3) Zh (λ_ _=>rfl)) Zh) Zj)))
 (Zx (ZF (i:=7) Vv (by rfl) (by first|exact Or.inl rfl|exact Or.inr rfl) (ZB [109,97,114,107,115] (by decide +kernel))))) Ye)
 (Zx (Yg (Yp (Zda (cA:=⟨t.c,K⟩) (hr.units)) (ZL (G_QM) hr (by rfl) T.p_QM.g T.p_QM.k T.p_QM.b .nil Yq (Zc (pv 8) (Zc (pv 4) (Zc (pv 3) (Zc (pv 6) Zj))))) (pv 7) (ZV _)) (Zx (Z0 X3)) Ye)))))))))))
 (Zx (Z0 X3))))),[],?_⟩
 unfold ZjE;exact(ZI (YS (UE (Ub (YJ (q:=.cl) [] (by rfl) Zk))) (YB (Zf (d:=(.bl false)) (by rfl) (by rfl))) Yh)
 (ZI (show VS _ _ [] _ _ _ _ from(ZD 1 (Ud (Or.inl rfl) (Zd 0) VU (VV (Zf (d:=(.int 200)) (by rfl) (by rfl))))))
 (ZI (Zdd (Zgz (Ze (Zf (d:=(.int 0)) (by rfl) (by rfl)) (Ze (Zi Xf (YI Xg (Ze (Zd 1) Zk)) (Zf (d:=(.int 1)) (by rfl) (by rfl))) (Ze (Zf (d:=(.int 5)) (by rfl) (by rfl)) Zk))) Zlr) (XF 2) (ZI (show VS _ _ [] _ _ _ _ from(ZD 3 (VF.cl (XY (by rfl) (UI (Ze (Zf (d:=(.int 5)) (by rfl) (by rfl)) Zk) Uc) (XF 0) X7 (YJ [] (by rfl) (Ze (Zd 1) (Ze (Zi Xf (Zd 2) (Zd 0)) Zk)))))))
 (ZI (show VS _ _ [] _ _ _ _ from(ZD 4 (YJ [] (by rfl) (Ze (Zi Zv (Zd 3) (Zf (d:=(.int 4)) (by rfl) (by rfl))) Zk))))
 (ZI (show VS _ _ [] _ _ _ _ from(ZD 5 (Zi ZW (Zi Y7 (Zi Zv (Zd 3) (Zf (d:=(.int 0)) (by rfl) (by rfl))) (Zf (d:=(.int 3)) (by rfl) (by rfl))) (Zf (d:=(.int 7)) (by rfl) (by rfl)))))
 (ZI (show VS _ _ [] _ _ _ _ from(ZD 6 (Zi Zv (VF.cl (Yo (Ze (Zf (d:=(.int 0)) (by rfl) (by rfl)) (Ze (Zi Xf (Zf (d:=(.int 1)) (by rfl) (by rfl)) (Zi ZW (Zi Y7 (Zi Zv (Zd 3) (Zf (d:=(.int 0)) (by rfl) (by rfl))) (Zf (d:=(.int 42)) (by rfl) (by rfl))) (Zi Zv (VF.cl (Yo (Ze (Zf (d:=(.int 1)) (by rfl) (by rfl)) (Ze (Zf (d:=(.int 3)) (by rfl) (by rfl)) (Ze (Zf (d:=(.int 3)) (by rfl) (by rfl)) (Ze (Zf (d:=(.int 4)) (by rfl) (by rfl)) (Ze (Zf (d:=(.int 3)) (by rfl) (by rfl)) (Ze (Zf (d:=(.int 1)) (by rfl) (by rfl)) (Ze (Zf (d:=(.int 3)) (by rfl) (by rfl)) Zk))))))))) (Zd 5)))) Zk)))) (Zi ZW (Zi Y7 (Zi Zv (Zd 3) (Zf (d:=(.int 0)) (by rfl) (by rfl))) (Zf (d:=(.int 21)) (by rfl) (by rfl))) (Zf (d:=(.int 2)) (by rfl) (by rfl))))))
 (ZI (show VS _ _ [] _ _ _ _ from(ZD 7 (Zi Zv (VF.cl (Yo (Ze (Zf (d:=(.str [109,97,100,101])) (by rfl) (by rfl)) (Ze (Zf (d:=(.str [114,117,108,101])) (by rfl) (by rfl)) Zk)))) (YI JS (Ze (Qg (Zi VP (Zd 6) (Zf (d:=(.int 0)) (by rfl) (by rfl))) (Zi VP (Zd 5) (Zf (d:=(.int 0)) (by rfl) (by rfl)))) Zk)))))
 (ZI (show VS _ _ [] _ _ _ _ from(ZD 8 (Zd 4)))
 (ZI (YS (Yr (Zi YM (Zi ZW (Zi Y7 (Zi Zv (Zd 3) (Zf (d:=(.int 3)) (by rfl) (by rfl))) (Zf (d:=(.int 5)) (by rfl) (by rfl))) (Zf (d:=(.int 6)) (by rfl) (by rfl))) (Zf (d:=(.int 1)) (by rfl) (by rfl)))) (ZI (show VS _ _ [] _ _ _ _ from(ZD 8 (YJ [] (by rfl) (Ze (Zi Y7 (Zi Zv (Zd 3) (Zf (d:=(.int 4)) (by rfl) (by rfl))) (Zf (d:=(.int 5)) (by rfl) (by rfl))) Zk))))
 (show VS _ _ [] _ _ _ _ from(ZD 7 (Zf (d:=(.str [109,97,114,107,115])) (by rfl) (by rfl))))) Yh)
 (YS (Yr (Zi Zf6 (YJ [] (by rfl) (Ze (Zd 8) (Ze (Zd 4) (Ze (Zd 3) (Ze (Zd 6) Zk))))) (Zd 7))) (YB (Zf (d:=(.bl false)) (by rfl) (by rfl))) Yh)))))))))
 (YB (Zf (d:=(.bl true)) (by rfl) (by rfl))))))
end
end K05
namespace K05
open DL L2
theorem ZgW(ns:List Int)(k:Nat):Uq [.lst (ns.map D.int),.int k]=some (.int (ns.getD k 0)):=by
 by_cases h:k<ns.length
 · have hz : atI (ns.map D.int) (k : Int) = some (.int (ns.getD k 0)) := by
    refine JE ?_;rw [List.getElem?_map,List.getElem?_eq_getElem h,List.getD_eq_getElem?_getD,List.getElem?_eq_getElem h];rfl
   simp [Uq,Jb,h,hz,DL.run,DL.runI,Zq,sIf,Zy,YC,sNext,Zn,Yc,ZM,Yi,sNever,xB,bD,ZN,Z3,xOr,Za,eC,eOp,ZP,eOr,Z7,eIf,Z6,Yy,Z9,Yb,eUn,ZX,eNil,Zb,Zp,Z8,eCB,lenD,Yz,YA,Zs,ZK,ZQ,ZY,eSl,xP,xNoP,addD,subD,mulD,fdivD,modD,ZG,ixD,isD,eBM,ZS,Yd,kind,plainKinds,ZZ,Yk,YD,Yt,Yu,Yv,Yw,Yx,YE,YF,YG,List.lookup,Z1,CMul,PySem.sizeLine_eq,List.replicate]
 · have hz:ns.getD k 0=0:=by rw [List.getD_eq_getElem?_getD,List.getElem?_eq_none (by omega)];rfl
   simp [Uq,Jb,h,hz,DL.run,DL.runI,Zq,sIf,Zy,YC,sNext,Zn,Yc,ZM,Yi,sNever,xB,bD,ZN,Z3,xOr,Za,eC,eOp,ZP,eOr,Z7,eIf,Z6,Yy,Z9,Yb,eUn,ZX,eNil,Zb,Zp,Z8,eCB,lenD,Yz,YA,Zs,ZK,ZQ,ZY,eSl,xP,xNoP,addD,subD,mulD,fdivD,modD,ZG,ixD,isD,eBM,ZS,Yd,kind,plainKinds,ZZ,Yk,YD,Yt,Yu,Yv,Yw,Yx,YE,YF,YG,List.lookup,Z1,CMul,PySem.sizeLine_eq,List.replicate]
theorem Zl{r s:DL.Env->Option RO}{δ δ':DL.Env}(h:r δ=some (.ok (.nx δ'))):Zw r s δ=s δ':=by unfold Zw;rw [h]
theorem Zgi{r s:DL.Env->Option RO}{δ:DL.Env}{c:String}(h:r δ=some (.error c)):Zw r s δ=some (.error c):=by unfold Zw;rw [h]
theorem Zz{φ:DL.Env->Option Out}{δ:DL.Env}{o:Out}(h:φ δ=some o):rOf φ δ=some (.ok o):=by unfold rOf;rw [h];rfl
theorem ZfX{τ:DL.Env->Option Bool}{r s:DL.Env->Option RO}{δ:DL.Env}(h:τ δ=some true):rIf τ r s δ=r δ:=by unfold rIf;rw [h]
theorem ZhA{τ:DL.Env->Option Bool}{r s:DL.Env->Option RO}{δ:DL.Env}(h:τ δ=some false):rIf τ r s δ=s δ:=by unfold rIf;rw [h]
theorem rd_of{c:DL.Env->Option D}{δ:DL.Env}{b:Bool}(h:c δ=some (.bl b)):Yj c δ=if b then some (.ok (.nx δ))else some (.error "BadRule"):=by unfold Yj;rw [h];cases b<;>rfl
theorem Zgj{i n:Nat}{rr:List D->Option RD}{α:DL.Env->Option (List D)}{δ:DL.Env}{d d':D}{ds:List D}(h1:Za i δ=some d)(h2:α δ=some ds)(hn:ds.length+1=n)(h3:rr (d::ds)=some (.ok d')):YW i n rr [] α δ=some (.ok (.nx (δ.set i (some d')))):=by
 unfold YW;rw [h1,h2];dsimp only;rw [List.append_nil,if_pos (show(d::ds).length=n from hn),h3]
theorem ZkS{i n:Nat}{rr:List D->Option RD}{α:DL.Env->Option (List D)}{δ:DL.Env}{d:D}{c:String}{ds:List D}(h1:Za i δ=some d)(h2:α δ=some ds)(hn:ds.length+1=n)(h3:rr (d::ds)=some (.error c)):YW i n rr [] α δ=some (.error c):=by
 unfold YW;rw [h1,h2];dsimp only;rw [List.append_nil,if_pos (show(d::ds).length=n from hn),h3]
theorem ZfY{n:Nat}{f:DL.Env->Option RO}{vs:List D}{δ δ':DL.Env}{d:D}(h1:(vs.map some++List.replicate (n-vs.length) none)=δ)(h2:f δ=some (.ok (.nx δ')))(h3:Za 0 δ'=some d):YK n f vs=some (.ok d):=by unfold YK;rw [h1,h2];dsimp only;rw [h3];rfl
theorem Zdh{n:Nat}{f:DL.Env->Option RO}{vs:List D}{δ:DL.Env}{c:String}(h1:(vs.map some++List.replicate (n-vs.length) none)=δ)(h2:f δ=some (.error c)):YK n f vs=some (.error c):=by unfold YK;rw [h1,h2]
def XA(w:List Nat):Bool:=decide (2<=w.length)&&decide (w.length<=4)&&w.all λc=>decide (c∈cs_MARK_SIGNS)&&decide (w.count c=1)
theorem ZhB(w:List Nat)(hl:w.length<=1000):Um [.str w]=some (.bl (XA w)):=by
 have hc:YZ (ZR 0) (λ_=>some true) (ZP (eOp (inD false) (Za 0) (eC (.str cs_MARK_SIGNS))) (eOp eqD (eBM countD (Za 1) (Zb (Za 0) eNil)) (eC (.int 1)))) [none,some (.str w)] (w.map λc => .str [c])=some (w.map λc => .bl (decide (c∈cs_MARK_SIGNS)&&decide (w.count c=1))):=by
  rw [Zan (λd=>match d with | .str [c] => .bl (decide (c∈cs_MARK_SIGNS)&&decide (w.count c=1))|_ => .non)]
  · rw [List.map_map];rfl
  · intro x hx
    obtain⟨c,hcm,rfl⟩:=List.mem_map.mp hx;refine⟨_,rfl,?_⟩
    by_cases h3:c∈cs_MARK_SIGNS
    · simp [ZR,inD,countD,h3,DL.run,DL.runI,Zq,sIf,Zy,YC,sNext,Zn,Yc,ZM,Yi,sNever,xB,bD,ZN,Z3,xOr,Za,eC,eOp,ZP,eOr,Z7,eIf,Z6,Yy,Z9,Yb,eUn,ZX,eNil,Zb,Zp,Z8,eCB,lenD,Yz,YA,Zs,ZK,ZQ,ZY,eSl,xP,xNoP,addD,subD,mulD,fdivD,modD,ZG,ixD,isD,eBM,ZS,Yd,kind,plainKinds,ZZ,Yk,YD,Yt,Yu,Yv,Yw,Yx,YE,YF,YG,List.lookup,Z1,CMul,PySem.sizeLine_eq,List.replicate]
      omega
    · simp [ZR,inD,countD,h3,DL.run,DL.runI,Zq,sIf,Zy,YC,sNext,Zn,Yc,ZM,Yi,sNever,xB,bD,ZN,Z3,xOr,Za,eC,eOp,ZP,eOr,Z7,eIf,Z6,Yy,Z9,Yb,eUn,ZX,eNil,Zb,Zp,Z8,eCB,lenD,Yz,YA,Zs,ZK,ZQ,ZY,eSl,xP,xNoP,addD,subD,mulD,fdivD,modD,ZG,ixD,isD,eBM,ZS,Yd,kind,plainKinds,ZZ,Yk,YD,Yt,Yu,Yv,Yw,Yx,YE,YF,YG,List.lookup,Z1,CMul,PySem.sizeLine_eq,List.replicate]
 have hb:Vq (w.map λc=>D.bl (decide (c∈cs_MARK_SIGNS)&&decide (w.count c=1)))=some (w.map λc=>(decide (c∈cs_MARK_SIGNS)&&decide (w.count c=1))):=by
  have:=ZbA (w.map λc=>(decide (c∈cs_MARK_SIGNS)&&decide (w.count c=1)));rw [List.map_map]at this;exact this
 have hz:w.length<=16777216:=by omega
 have ha:(w.map λc=>(decide (c∈cs_MARK_SIGNS)&&decide (w.count c=1))).all id=w.all λc=>(decide (c∈cs_MARK_SIGNS)&&decide (w.count c=1)):=by rw [List.all_map];rfl
 unfold XA
 by_cases g1:2<=w.length
 · by_cases g2:w.length<=4
   · have g1':¬(w.length:Int)<2:=by omega
     have g2':¬(4:Int)<w.length:=by omega
     rw [decide_eq_true g1,decide_eq_true g2,Bool.true_and,Bool.true_and,<-ha];generalize (w.map λc=>(decide (c∈cs_MARK_SIGNS)&&decide (w.count c=1)))=bs at hb ⊢;simp [Um,Qy,YN,XX,X8,hc,hb,VQ,hz,g1',g2',DL.run,DL.runI,Zq,sIf,Zy,YC,sNext,Zn,Yc,ZM,Yi,sNever,xB,bD,ZN,Z3,xOr,Za,eC,eOp,ZP,eOr,Z7,eIf,Z6,Yy,Z9,Yb,eUn,ZX,eNil,Zb,Zp,Z8,eCB,lenD,Yz,YA,Zs,ZK,ZQ,ZY,eSl,xP,xNoP,addD,subD,mulD,fdivD,modD,ZG,ixD,isD,eBM,ZS,Yd,kind,plainKinds,ZZ,Yk,YD,Yt,Yu,Yv,Yw,Yx,YE,YF,YG,List.lookup,Z1,CMul,PySem.sizeLine_eq,List.replicate]
   · have g1':¬(w.length:Int)<2:=by omega
     have g2':(4:Int)<w.length:=by omega
     simp [Um,Qy,hz,g1',g2',g2,DL.run,DL.runI,Zq,sIf,Zy,YC,sNext,Zn,Yc,ZM,Yi,sNever,xB,bD,ZN,Z3,xOr,Za,eC,eOp,ZP,eOr,Z7,eIf,Z6,Yy,Z9,Yb,eUn,ZX,eNil,Zb,Zp,Z8,eCB,lenD,Yz,YA,Zs,ZK,ZQ,ZY,eSl,xP,xNoP,addD,subD,mulD,fdivD,modD,ZG,ixD,isD,eBM,ZS,Yd,kind,plainKinds,ZZ,Yk,YD,Yt,Yu,Yv,Yw,Yx,YE,YF,YG,List.lookup,Z1,CMul,PySem.sizeLine_eq,List.replicate]
 · have g1':(w.length:Int)<2:=by omega
   simp [Um,Qy,hz,g1',g1,DL.run,DL.runI,Zq,sIf,Zy,YC,sNext,Zn,Yc,ZM,Yi,sNever,xB,bD,ZN,Z3,xOr,Za,eC,eOp,ZP,eOr,Z7,eIf,Z6,Yy,Z9,Yb,eUn,ZX,eNil,Zb,Zp,Z8,eCB,lenD,Yz,YA,Zs,ZK,ZQ,ZY,eSl,xP,xNoP,addD,subD,mulD,fdivD,modD,ZG,ixD,isD,eBM,ZS,Yd,kind,plainKinds,ZZ,Yk,YD,Yt,Yu,Yv,Yw,Yx,YE,YF,YG,List.lookup,Z1,CMul,PySem.sizeLine_eq,List.replicate]
structure Ms(ms:List Nat):Prop where
 lo:2<=ms.length
 hi:ms.length<=4
 sg:∀x∈ms,x∈cs_MARK_SIGNS
 nd:ms.Nodup
theorem Ms.st{ms:List Nat}(M:Ms ms):XA ms=true:=by
 unfold XA;rw [decide_eq_true M.lo,decide_eq_true M.hi];simp only [Bool.true_and,List.all_eq_true,Bool.and_eq_true,decide_eq_true_eq];exact λx hx=>⟨M.sg x hx,M.nd.count.trans (if_pos hx)⟩
def SG:List Nat:=[97,98,99,100,101,102,103,104,105,106,107,108,109,110,111,112,113,114,115,116,117,118,119,120,121,122,48,49,50,51,52,53,54,55,56,57]
def XS(c:Int):Nat:=2+(c / 396 % 3).toNat
def sgn(c:Int)(k:Nat):Nat:=SG.getD ((c+k*(1+c / 36 % 11)) % 36).toNat 0
def Ve(c:Int):List Nat:=(List.range (XS c)).map (sgn c)
theorem ZkT{i:Int}(h0:0<=i)(h1:i<36):atI SG i=some (SG.getD i.toNat 0):=by
 obtain⟨x,h2,h3⟩:=J9 (xs:=SG) h0 (by simpa [SG]using h1);rw [h2,List.getD_eq_getElem?_getD,h3];rfl
theorem ZfZ:SG.length=36:=rfl
theorem Zcf{f:D->D->Option D}{a b:Env->Option D}{δ:Env}{x y:D}{r:Option D}(ha:a δ=some x)(hb:b δ=some y)(h:f x y=r):eOp f a b δ=r:=by
 unfold eOp;rw [ha,hb];exact h
def mkF(sg:List Nat)(c:Int):D->D
 | .int k => .str [sg.getD ((c+k*(1+c / 36 % 11)) % 36).toNat 0]
 |_ => .non
theorem Zes{sg:List Nat}{c s k x:Int}{z:Nat}(hk:CMul k s)(hs:sg.length<=PySem.sizeLine)(hz:atI sg ((c+k*s) % 36)=some z):eOp ixD (Za 1) (eOp modD (eOp addD (Za 2) (eOp mulD (Za 0) (Za 3))) (eC (.int 36))) [some (.int k),some (.str sg),some (.int c),some (.int s)]=some (.str [z]):=
 Zcf (x:=.str sg) (y:=.int ((c+k*s) % 36)) rfl (Zcf (x:=.int (c+k*s)) (y:=.int 36) (Zcf (x:=.int c) (y:=.int (k*s)) rfl (Zcf (x:=.int k) (y:=.int s) rfl rfl (Zfl hk)) rfl) rfl (ZcD (by omega))) (Za5 hs hz)
theorem Zc1(c:Int):YZ (ZR 0) (λ_=>some true) (eOp ixD (Za 1) (eOp modD (eOp addD (Za 2) (eOp mulD (Za 0) (Za 3))) (eC (.int 36)))) [none,some (.str SG),some (.int c),some (.int (1+c / 36 % 11))] (YT 0 1 (XS c))=some ((List.range (XS c)).map λk => .str [sgn c k]):=by
 rw [Zan (mkF SG c)]
 · unfold YT
   rw [List.map_map]
   congr 1
   refine List.map_congr_left λk _ => ?_
   have e:(0+(k:Int)*1)=k:=by omega
   show mkF SG c (.int (0+(k:Int)*1))=_;rw [e];rfl
 · intro x hx
   obtain⟨i,hi,rfl⟩:=Zbh hx;have hi4:i<5:=by unfold XS at hi;omega
   have e:(0+(i:Int)*1)=i:=by omega
   rw [e];exact⟨_,rfl,Zes (x:=0) (Zc0 (by omega) (by omega)) (by rw [ZfZ,PySem.sizeLine_eq];omega) (ZkT (by omega) (by omega))⟩
theorem ZcE(c:Int):Ur [.int c]=some (.str (Ve c)):=by
 have hm:(2+c / 396 % 3).toNat=XS c:=by unfold XS;omega
 have hb : -(2 ^ 62)<=2+c / 396 % 3/\2+c / 396 % 3<2 ^ 62:=by omega
 have hc:=Zc1 c;have hj:=ZaJ (sgn c) (List.range (XS c)) (by rw [List.length_range,PySem.sizeLine_eq];unfold XS;omega);have hl:(List.range (XS c)).length<=PySem.sizeLine:=by rw [List.length_range,PySem.sizeLine_eq];unfold XS;omega
 have e0:[97,98,99,100,101,102,103,104,105,106,107,108,109,110,111,112,113,114,115,116,117,118,119,120,121,122,48,49,50,51,52,53,54,55,56,57]=SG:=rfl;have d1:Z1 c 36:=⟨by omega,by omega⟩
 have d2:Z1 c 396:=⟨by omega,by omega⟩
 have e1:Ve c=(List.range (XS c)).map (sgn c):=rfl;rw [e1];unfold Ur Ziy;rw [e0];generalize SG=sg at hc ⊢;generalize sgn c=sg2 at hc hj ⊢;simp only [DL.run,Zq,Zn,eC,eOp,addD,modD,fdivD,Za,Zy,eBM,Zb,eNil,YN,YQ,List.map_cons,List.map_nil,List.length_cons,List.length_nil,List.cons_append,List.nil_append,Nat.reduceAdd,Nat.reduceSub,List.replicate,List.set_cons_zero,List.set_cons_succ,List.getElem?_cons_zero,List.getElem?_cons_succ,if_pos d1,if_pos d2,if_pos (show(0:Int)<11 by omega),if_pos (show(0:Int)<3 by omega),if_pos hb,hm,X8,Option.getD_some,hc,List.length_map,if_pos hl,hj]
theorem Zii:∀i j:Fin 36,SG.getD i.val 0=SG.getD j.val 0->i=j:=by decide
theorem ZgX(c:Int){i j:Nat}(hi:i<4)(hj:j<4)(h:sgn c i=sgn c j):i=j:=by
 unfold sgn at h;have h1:((c+i*(1+c / 36 % 11)) % 36).toNat<36:=by omega
 have h2:((c+j*(1+c / 36 % 11)) % 36).toNat<36:=by omega
 have:=Zii ⟨_,h1⟩ ⟨_,h2⟩ h;have e:((c+i*(1+c / 36 % 11)) % 36).toNat=((c+j*(1+c / 36 % 11)) % 36).toNat:=congrArg Fin.val this;have hs:∃t:Int,c / 36 % 11=t/\0<=t/\t<=10:=⟨_,rfl,by omega,by omega⟩
 obtain⟨t,ht,ht0,ht1⟩:=hs;rw [ht]at e;rcases(show i=0\/i=1\/i=2\/i=3 by omega)with rfl|rfl|rfl|rfl<;>rcases(show j=0\/j=1\/j=2\/j=3 by omega)with rfl|rfl|rfl|rfl<;>first|rfl|(exfalso;omega)
theorem ZbH(c:Int):2<=(Ve c).length/\(Ve c).length<=4:=by
 unfold Ve XS;rw [List.length_map,List.length_range];omega
theorem ZbI{α β:Type}{f:α->β}:∀{l:List α},l.Nodup->(∀x∈l,∀y∈l,f x=f y->x=y)->(l.map f).Nodup
 | [],_,_=>List.nodup_nil
 |a::l,h,hf=>by
  rw [List.map_cons,List.nodup_cons];obtain⟨h1,h2⟩:=List.nodup_cons.mp h;refine⟨λhm => ?_,ZbI h2 λx hx y hy=>hf x (List.mem_cons_of_mem _ hx) y (List.mem_cons_of_mem _ hy)⟩;obtain⟨b,hb,e⟩:=List.mem_map.mp hm;have:=hf b (List.mem_cons_of_mem _ hb) a List.mem_cons_self e;exact h1 (this▸hb)
theorem Zcc(c:Int):(Ve c).Nodup:=by
 have hl:XS c<=4:=by unfold XS;omega
 refine ZbI List.nodup_range λx hx y hy h=>ZgX c ?_ ?_ h
 · have:=List.mem_range.mp hx;omega
 · have:=List.mem_range.mp hy;omega
theorem Zfp(c:Int):∀x∈Ve c,x∈cs_MARK_SIGNS:=by
 intro x hx;obtain⟨k,_,rfl⟩:=List.mem_map.mp hx;unfold sgn;have h:((c+k*(1+c / 36 % 11)) % 36).toNat<36:=by omega
 generalize ((c+k*(1+c / 36 % 11)) % 36).toNat=i at h;have:∀i:Fin 36,SG.getD i.val 0∈cs_MARK_SIGNS:=by decide
 exact this ⟨i,h⟩
theorem ZcF(c:Int):Ms (Ve c):=⟨(ZbH c).1,(ZbH c).2,Zfp c,Zcc c⟩
theorem Zfq{α:Type}(r:List α)(j:Nat):cutL r none (some ((j:Int)+1))=r.take (j+1):=by
 unfold cutL YR;have e:¬((j:Int)+1<0):=by omega
 have e2:((j:Int)+1).toNat=j+1:=by omega
 simp only [e,if_false,e2,List.drop_zero,Nat.sub_zero]
 by_cases h:j+1<=r.length
 · rw [Nat.min_eq_left h]
 · rw [Nat.min_eq_right (by omega),List.take_of_length_le (Nat.le_refl _),List.take_of_length_le (by omega)]
theorem Zij{ms:List Nat}(hm:0<ms.length)(i:Int):∃z,atI ms (i % ms.length)=some z/\z∈ms:=by
 obtain⟨x,h1,h2⟩:=J9 (xs:=ms) (i:=i % ms.length) (Int.emod_nonneg _ (by omega)) (Int.emod_lt_of_pos _ (by omega));exact⟨x,h1,List.mem_of_getElem? h2⟩
theorem ZgY{α β:Type}(f:α->β)(xs:List α)(lo hi:Option Int):cutL (xs.map f) lo hi=(cutL xs lo hi).map f:=by
 unfold cutL;rw [List.length_map,List.map_take,List.map_drop]
end K05
namespace K05
open DL L2
def isM(ms:List Nat):List Nat->Bool
 | [c]=>decide (c∈ms)
 |_=>false
theorem is_mark(ms:List Nat):∀w:List Nat,w.length<=1000->VZ [.str ms,.str w]=some (.bl (isM ms w))
 | [],_=>by simp [VZ,Qz,isM,DL.run,DL.runI,Zq,sIf,Zy,YC,sNext,Zn,Yc,ZM,Yi,sNever,xB,bD,ZN,Z3,xOr,Za,eC,eOp,ZP,eOr,Z7,eIf,Z6,Yy,Z9,Yb,eUn,ZX,eNil,Zb,Zp,Z8,eCB,lenD,Yz,YA,Zs,ZK,ZQ,ZY,eSl,xP,xNoP,addD,subD,mulD,fdivD,modD,ZG,ixD,isD,eBM,ZS,Yd,kind,plainKinds,ZZ,Yk,YD,Yt,Yu,Yv,Yw,Yx,YE,YF,YG,List.lookup,Z1,CMul,PySem.sizeLine_eq,List.replicate]
 | [c],_=>by simp [VZ,Qz,inD,isM,DL.run,DL.runI,Zq,sIf,Zy,YC,sNext,Zn,Yc,ZM,Yi,sNever,xB,bD,ZN,Z3,xOr,Za,eC,eOp,ZP,eOr,Z7,eIf,Z6,Yy,Z9,Yb,eUn,ZX,eNil,Zb,Zp,Z8,eCB,lenD,Yz,YA,Zs,ZK,ZQ,ZY,eSl,xP,xNoP,addD,subD,mulD,fdivD,modD,ZG,ixD,isD,eBM,ZS,Yd,kind,plainKinds,ZZ,Yk,YD,Yt,Yu,Yv,Yw,Yx,YE,YF,YG,List.lookup,Z1,CMul,PySem.sizeLine_eq,List.replicate]
 |a::b::r,h=>by
  have e:¬(((a::b::r).length:Int)=1):=by rw [List.length_cons,List.length_cons];omega
  have hz:(a::b::r).length<=16777216:=by omega
  have e2:isM ms (a::b::r)=false:=rfl;rw [e2];generalize (a::b::r)=w at e hz ⊢;simp [VZ,Qz,e,hz,DL.run,DL.runI,Zq,sIf,Zy,YC,sNext,Zn,Yc,ZM,Yi,sNever,xB,bD,ZN,Z3,xOr,Za,eC,eOp,ZP,eOr,Z7,eIf,Z6,Yy,Z9,Yb,eUn,ZX,eNil,Zb,Zp,Z8,eCB,lenD,Yz,YA,Zs,ZK,ZQ,ZY,eSl,xP,xNoP,addD,subD,mulD,fdivD,modD,ZG,ixD,isD,eBM,ZS,Yd,kind,plainKinds,ZZ,Yk,YD,Yt,Yu,Yv,Yw,Yx,YE,YF,YG,List.lookup,Z1,CMul,PySem.sizeLine_eq,List.replicate]
theorem is_whole(i lo hi:Int):X2 [.int i,.int lo,.int hi]=some (.bl (decide (lo<=i/\i<=hi))):=by
 by_cases h:lo<=i<;>simp [X2,Ziu,Zce,Za8,h,DL.run,DL.runI,Zq,sIf,Zy,YC,sNext,Zn,Yc,ZM,Yi,sNever,xB,bD,ZN,Z3,xOr,Za,eC,eOp,ZP,eOr,Z7,eIf,Z6,Yy,Z9,Yb,eUn,ZX,eNil,Zb,Zp,Z8,eCB,lenD,Yz,YA,Zs,ZK,ZQ,ZY,eSl,xP,xNoP,addD,subD,mulD,fdivD,modD,ZG,ixD,isD,eBM,ZS,Yd,kind,plainKinds,ZZ,Yk,YD,Yt,Yu,Yv,Yw,Yx,YE,YF,YG,List.lookup,Z1,CMul,PySem.sizeLine_eq,List.replicate]
def Vw:Option Int->D
 |none => .non
 |some i => .int i
structure Tx(w:List Nat):Prop where
 ln:w.length<=5
 cd:w.all (λc=>decide (c<65536))=true
theorem Ms.tx{ms:List Nat}(M:Ms ms):Tx ms:=by
 refine⟨Nat.le_succ_of_le M.hi,List.all_eq_true.mpr λc hc => ?_⟩;have:∀x∈cs_MARK_SIGNS,x<65536:=by decide
 exact decide_eq_true (this c (M.sg c hc))
theorem ZcG{w:List Nat}(W:Tx w)(h:XA w=false)(d:D):Z2 [d,.str w]=some (.error "BadMarks"):=by
 refine Zdh rfl ?_;have hl:w.length<=1000:=Nat.le_trans W.ln (by decide);have e0:Zs 1 Um [] (Zb (Za 1) eNil) [some d,some (.str w)]=some (.bl false):=by rw [<-h];exact(YY rfl rfl).trans (ZhB w hl)
 refine Zgi ((ZfX (Qw (Y8 e0))).trans ?_);have hrl:=Zcw w W.cd;have hn:=W.ln
 have e1:QY QX (Za 1) [some d,some (.str w)]=some (.str (X9 w)):=by
  show(if w.length<=1000/\w.all (λc=>decide (c<65536))=true then some (D.str (X9 w))else none)=_;rw [if_pos ⟨hl,W.cd⟩]
 generalize X9 w=s at e1 hrl;generalize QY QX (Za 1)=ef at e1;have hs:s.length<=52:=by omega
 unfold Qu Qn
 have e2:∀t:List Nat,t.length<=100->∃u,QZ [(eC (.str t)),ef] [some d,some (.str w)]=some u:=λt ht=>by
  refine⟨.str ([]++t++s),?_⟩;unfold QZ xJs;show(match(if([]++t).length<=PySem.sizeLine then xJs [ef] ([]++t) [some d,some (.str w)]else none)with|some cs=>some (D.str cs)|none=>none)=_;rw [if_pos (by rw [PySem.sizeLine_eq,List.nil_append];omega)];unfold xJs;rw [e1];show(match(if([]++t++s).length<=PySem.sizeLine then xJs [] ([]++t++s) [some d,some (.str w)]else none)with|some cs=>some (D.str cs)|none=>none)=_
  rw [if_pos (by rw [PySem.sizeLine_eq,List.length_append,List.nil_append];omega)];rfl
 obtain⟨u,hu⟩:=e2 [109,97,114,107,115,32,97,114,101,32,50,32,116,111,32,52,32,117,110,108,105,107,101,32,115,109,97,108,108,32,108,101,116,116,101,114,115,32,111,114,32,102,105,103,117,114,101,115,44,32,110,111,116,32] (by decide);rw [Zg hu nil_of];rfl
theorem UZ{ms:List Nat}(M:Ms ms)(c:String)(h:fc_marks.contains c=true):Z2 [.obj c [] [],.str ms]=some (.ok (.obj c ["marks"] [.str ms])):=by
 have hl:ms.length<=1000:=Nat.le_trans M.hi (by decide);have e0:Zs 1 Um [] (Zb (Za 1) eNil) [some (.obj c [] []),some (.str ms)]=some (.bl true):=by rw [<-M.st];exact(YY rfl rfl).trans (ZhB ms hl)
 refine ZfY rfl ((Zl ((ZhA (Qw (Y8 e0))).trans rfl)).trans (Zz (o:=.nx [some (.obj c ["marks"] [.str ms]),some (.str ms)]) ?_)) rfl;have h':c∈fc_marks:=by simpa using h
 simp [ZM,h',DL.run,DL.runI,Zq,sIf,Zy,YC,sNext,Zn,Yc,ZM,Yi,sNever,xB,bD,ZN,Z3,xOr,Za,eC,eOp,ZP,eOr,Z7,eIf,Z6,Yy,Z9,Yb,eUn,ZX,eNil,Zb,Zp,Z8,eCB,lenD,Yz,YA,Zs,ZK,ZQ,ZY,eSl,xP,xNoP,addD,subD,mulD,fdivD,modD,ZG,ixD,isD,eBM,ZS,Yd,kind,plainKinds,ZZ,Yk,YD,Yt,Yu,Yv,Yw,Yx,YE,YF,YG,List.lookup,Z1,CMul,PySem.sizeLine_eq,List.replicate]
theorem QE{w:List Nat}(W:Tx w)(h:XA w=false){n:Nat}{s:DL.Env->Option RO}{vs:List D}{d:D}{r:List D}(hv:vs=d :: .str w::r):YK n (Zw (YW 0 2 Z2 [] (Zb (Za 1) eNil)) s) vs=some (.error "BadMarks"):=by
 subst hv;refine Zdh rfl (Zgi (ZkS (ds:=[.str w]) rfl (Zg rfl nil_of) rfl (ZcG W h d)))
theorem ZgZ{w:List Nat}(W:Tx w)(h:XA w=false)(d:D)(r:List D):Xm (d :: .str w::r)=some (.error "BadMarks"):=QE W h rfl
theorem Zet{w:List Nat}(W:Tx w)(h:XA w=false)(d:D)(r:List D):Uo (d :: .str w::r)=some (.error "BadMarks"):=QE W h rfl
theorem Zg0{w:List Nat}(W:Tx w)(h:XA w=false)(d:D)(r:List D):Up (d :: .str w::r)=some (.error "BadMarks"):=QE W h rfl
theorem Zfr{w:List Nat}(W:Tx w)(h:XA w=false)(d:D)(r:List D):Vc (d :: .str w::r)=some (.error "BadMarks"):=QE W h rfl
theorem Zeu{w:List Nat}(W:Tx w)(h:XA w=false)(d:D)(r:List D):XI (d :: .str w::r)=some (.error "BadMarks"):=QE W h rfl
theorem Zg1{w:List Nat}(W:Tx w)(h:XA w=false)(d:D)(r:List D):Vn (d :: .str w::r)=some (.error "BadMarks"):=QE W h rfl
def errR:Option RD:=some (.error "BadRule")
theorem ZcH{ms mk:List Nat}(M:Ms ms)(hk:mk.length<=1000)(lo:Int)(mo:Option Int) :
 Xm [.obj "Gap" [] [],.str ms,.str mk,.int lo,Vw mo]=if isM ms mk&&decide (0<=lo/\lo<=8)&&(match mo with|none=>true|some m=>decide (lo<=m/\m<=8))then some (.ok (.obj "Gap" ["marks", "mark", "least", "most"] [.str ms,.str mk,.int lo,Vw mo]))else errR:=by
 have hm:=is_mark ms mk hk;have hr:=UZ M "Gap" (by decide);generalize isM ms mk=b at hm ⊢;have w1:=is_whole lo 0 8;have w2:∀m,X2 [.int m,.int lo,.int 8]=some (.bl (decide (lo<=m/\m<=8))):=λm=>is_whole m lo 8
 cases b with
 |false=>simp [Xm,f_QZ,YK,Zw,YW,Yj,hr,hm,errR,DL.run,DL.runI,Zq,sIf,Zy,YC,sNext,Zn,Yc,ZM,Yi,sNever,xB,bD,ZN,Z3,xOr,Za,eC,eOp,ZP,eOr,Z7,eIf,Z6,Yy,Z9,Yb,eUn,ZX,eNil,Zb,Zp,Z8,eCB,lenD,Yz,YA,Zs,ZK,ZQ,ZY,eSl,xP,xNoP,addD,subD,mulD,fdivD,modD,ZG,ixD,isD,eBM,ZS,Yd,kind,plainKinds,ZZ,Yk,YD,Yt,Yu,Yv,Yw,Yx,YE,YF,YG,List.lookup,Z1,CMul,PySem.sizeLine_eq,List.replicate]
 |true=>
  by_cases h1:0<=lo/\lo<=8
  · cases mo with
    |none=>simp [Xm,f_QZ,YK,Zw,YW,Yj,rOf,hr,hm,w1,h1,Vw,Uk,UU,Ul,errR,DL.run,DL.runI,Zq,sIf,Zy,YC,sNext,Zn,Yc,ZM,Yi,sNever,xB,bD,ZN,Z3,xOr,Za,eC,eOp,ZP,eOr,Z7,eIf,Z6,Yy,Z9,Yb,eUn,ZX,eNil,Zb,Zp,Z8,eCB,lenD,Yz,YA,Zs,ZK,ZQ,ZY,eSl,xP,xNoP,addD,subD,mulD,fdivD,modD,ZG,ixD,isD,eBM,ZS,Yd,kind,plainKinds,ZZ,Yk,YD,Yt,Yu,Yv,Yw,Yx,YE,YF,YG,List.lookup,Z1,CMul,PySem.sizeLine_eq,List.replicate]
    |some m=>
     by_cases h2:lo<=m/\m<=8
     · simp [Xm,f_QZ,YK,Zw,YW,Yj,rOf,hr,hm,w1,h1,w2,h2,Vw,Uk,UU,Ul,errR,DL.run,DL.runI,Zq,sIf,Zy,YC,sNext,Zn,Yc,ZM,Yi,sNever,xB,bD,ZN,Z3,xOr,Za,eC,eOp,ZP,eOr,Z7,eIf,Z6,Yy,Z9,Yb,eUn,ZX,eNil,Zb,Zp,Z8,eCB,lenD,Yz,YA,Zs,ZK,ZQ,ZY,eSl,xP,xNoP,addD,subD,mulD,fdivD,modD,ZG,ixD,isD,eBM,ZS,Yd,kind,plainKinds,ZZ,Yk,YD,Yt,Yu,Yv,Yw,Yx,YE,YF,YG,List.lookup,Z1,CMul,PySem.sizeLine_eq,List.replicate]
     · simp [Xm,f_QZ,YK,Zw,YW,Yj,rOf,hr,hm,w1,h1,w2,h2,Vw,Uk,UU,Ul,errR,DL.run,DL.runI,Zq,sIf,Zy,YC,sNext,Zn,Yc,ZM,Yi,sNever,xB,bD,ZN,Z3,xOr,Za,eC,eOp,ZP,eOr,Z7,eIf,Z6,Yy,Z9,Yb,eUn,ZX,eNil,Zb,Zp,Z8,eCB,lenD,Yz,YA,Zs,ZK,ZQ,ZY,eSl,xP,xNoP,addD,subD,mulD,fdivD,modD,ZG,ixD,isD,eBM,ZS,Yd,kind,plainKinds,ZZ,Yk,YD,Yt,Yu,Yv,Yw,Yx,YE,YF,YG,List.lookup,Z1,CMul,PySem.sizeLine_eq,List.replicate]
  · simp [Xm,f_QZ,YK,Zw,YW,Yj,hr,hm,w1,h1,errR,DL.run,DL.runI,Zq,sIf,Zy,YC,sNext,Zn,Yc,ZM,Yi,sNever,xB,bD,ZN,Z3,xOr,Za,eC,eOp,ZP,eOr,Z7,eIf,Z6,Yy,Z9,Yb,eUn,ZX,eNil,Zb,Zp,Z8,eCB,lenD,Yz,YA,Zs,ZK,ZQ,ZY,eSl,xP,xNoP,addD,subD,mulD,fdivD,modD,ZG,ixD,isD,eBM,ZS,Yd,kind,plainKinds,ZZ,Yk,YD,Yt,Yu,Yv,Yw,Yx,YE,YF,YG,List.lookup,Z1,CMul,PySem.sizeLine_eq,List.replicate]
end K05
namespace K05
open DL L2
theorem Zak{α:Type}{ε:DL.Env->Option D}{δ0:DL.Env}(g:α->D)(p:α->Bool)(xs:List α)(h:∀a∈xs,∃δ1,ZR 0 (g a) δ0=some δ1/\ε δ1=some (.bl (p a))):YZ (ZR 0) (λ_=>some true) ε δ0 (xs.map g)=some (xs.map λa => .bl (p a)):=by
 induction xs with
 |nil=>rfl
 |cons a r ih=>
  obtain⟨δ1,h1,h2⟩:=h a List.mem_cons_self;have:=ih λb hb=>h b (List.mem_cons_of_mem _ hb)
  rw [List.map_cons,List.map_cons];show(match ZR 0 (g a) δ0 with|none=>none|some δ1=>match ε δ1 with|none=>none|some d=>match YZ (ZR 0) (λ_=>some true) ε δ0 (r.map g)with|none=>none|some ds=>some (d::ds))=_;rw [h1];dsimp only;rw [h2,this]
theorem Zaq{α:Type}(p:α->Bool)(f:List Bool->Bool)(xs:List α):VQ f [.lst (xs.map λa => .bl (p a))]=some (.bl (f (xs.map p))):=by
 have:=ZbA (xs.map p);rw [List.map_map]at this;show(match Vq (xs.map (D.bl∘p))with|some bs=>some (D.bl (f bs))|none=>none)=_;rw [this]
theorem V2{c:DL.Env->Option D}{s:DL.Env->Option RO}{δ:DL.Env}{b:Bool}{y:Option RO}(h:c δ=some (.bl b))(h2:s δ=y):Zw (Yj c) s δ=if b then y else some (.error "BadRule"):=by
 cases b with
 |true=>rw [Zl (rd_of h),h2];rfl
 |false=>rw [Zgi (rd_of h)];rfl
theorem Zb5 {n:Nat} {f:DL.Env->Option RO} {vs:List D} {δ δ':DL.Env} {d:D} {b:Bool} (h1:(vs.map some++List.replicate (n-vs.length) none)=δ) (h2:f δ=if b then some (.ok (.nx δ'))else some (.error "BadRule")) (h3:Za 0 δ'=some d):YK n f vs=if b then some (.ok d)else errR:=by
 cases b with
 |true=>exact ZfY h1 h2 h3
 |false=>exact Zdh h1 h2
theorem QF{α:Type}(a b:Bool)(x y:α):(if a then(if b then x else y)else y)=if(a&&b)then x else y:=by cases a<;>rfl
theorem Zc2{ms wd:List Nat}(M:Ms ms)(hw:wd.length<=1000) :
 Uo [.obj "Never" [] [],.str ms,.str wd]=if decide (1<=wd.length/\wd.length<=6)&&wd.all (λc=>decide (c∈ms))then some (.ok (.obj "Never" ["marks", "word"] [.str ms,.str wd]))else errR:=by
 have hz:wd.length<=16777216:=by omega
 have hc:=Zak (ε:=Zs 2 VZ [] (Zb (Za 1) (Zb (Za 0) eNil))) (δ0:=[none,some (.str ms)]) (λc=>D.str [c]) (λc=>decide (c∈ms)) wd (λc _=>⟨_,rfl,(YY rfl rfl).trans (is_mark ms [c] (by simp))⟩);have ha:=Zaq (λc=>decide (c∈ms)) (λbs=>bs.all id) wd;rw [List.all_map]at ha;refine Zb5 rfl ((Zl (Zgj (ds:=[.str ms]) rfl (Zg rfl nil_of) rfl (UZ M "Never" (by decide)))).trans ((V2 (b:=decide (1<=wd.length/\wd.length<=6)) ?_ (V2 (b:=wd.all λc=>decide (c∈ms)) ?_ (Zz (o:=.nx [some (.obj "Never" ["marks", "word"] [.str ms,.str wd]),some (.str ms),some (.str wd)]) ?_))).trans (QF _ _ _ _))) rfl
 · by_cases h1:(1:Int)<=wd.length
   · by_cases h2:(wd.length:Int)<=6
     · have e:1<=wd.length/\wd.length<=6:=by omega
       simp [hz,h1,h2,e,DL.run,DL.runI,Zq,sIf,Zy,YC,sNext,Zn,Yc,ZM,Yi,sNever,xB,bD,ZN,Z3,xOr,Za,eC,eOp,ZP,eOr,Z7,eIf,Z6,Yy,Z9,Yb,eUn,ZX,eNil,Zb,Zp,Z8,eCB,lenD,Yz,YA,Zs,ZK,ZQ,ZY,eSl,xP,xNoP,addD,subD,mulD,fdivD,modD,ZG,ixD,isD,eBM,ZS,Yd,kind,plainKinds,ZZ,Yk,YD,Yt,Yu,Yv,Yw,Yx,YE,YF,YG,List.lookup,Z1,CMul,PySem.sizeLine_eq,List.replicate]
     · have e:¬(1<=wd.length/\wd.length<=6):=by omega
       rw [decide_eq_false e];simp [hz,h1,h2,DL.run,DL.runI,Zq,sIf,Zy,YC,sNext,Zn,Yc,ZM,Yi,sNever,xB,bD,ZN,Z3,xOr,Za,eC,eOp,ZP,eOr,Z7,eIf,Z6,Yy,Z9,Yb,eUn,ZX,eNil,Zb,Zp,Z8,eCB,lenD,Yz,YA,Zs,ZK,ZQ,ZY,eSl,xP,xNoP,addD,subD,mulD,fdivD,modD,ZG,ixD,isD,eBM,ZS,Yd,kind,plainKinds,ZZ,Yk,YD,Yt,Yu,Yv,Yw,Yx,YE,YF,YG,List.lookup,Z1,CMul,PySem.sizeLine_eq,List.replicate]
   · have e:¬(1<=wd.length/\wd.length<=6):=by omega
     rw [decide_eq_false e];simp [hz,h1,DL.run,DL.runI,Zq,sIf,Zy,YC,sNext,Zn,Yc,ZM,Yi,sNever,xB,bD,ZN,Z3,xOr,Za,eC,eOp,ZP,eOr,Z7,eIf,Z6,Yy,Z9,Yb,eUn,ZX,eNil,Zb,Zp,Z8,eCB,lenD,Yz,YA,Zs,ZK,ZQ,ZY,eSl,xP,xNoP,addD,subD,mulD,fdivD,modD,ZG,ixD,isD,eBM,ZS,Yd,kind,plainKinds,ZZ,Yk,YD,Yt,Yu,Yv,Yw,Yx,YE,YF,YG,List.lookup,Z1,CMul,PySem.sizeLine_eq,List.replicate]
 · exact(Y9 (Zg (Vl rfl rfl hc (by rw [List.length_map];omega)) nil_of)).trans ha
 · simp [ZM,Za7,DL.run,DL.runI,Zq,sIf,Zy,YC,sNext,Zn,Yc,ZM,Yi,sNever,xB,bD,ZN,Z3,xOr,Za,eC,eOp,ZP,eOr,Z7,eIf,Z6,Yy,Z9,Yb,eUn,ZX,eNil,Zb,Zp,Z8,eCB,lenD,Yz,YA,Zs,ZK,ZQ,ZY,eSl,xP,xNoP,addD,subD,mulD,fdivD,modD,ZG,ixD,isD,eBM,ZS,Yd,kind,plainKinds,ZZ,Yk,YD,Yt,Yu,Yv,Yw,Yx,YE,YF,YG,List.lookup,Z1,CMul,PySem.sizeLine_eq,List.replicate]
theorem Zev{ms mk:List Nat}(M:Ms ms)(hk:mk.length<=1000)(ev at_:Int) :
 Vc [.obj "Turn" [] [],.str ms,.str mk,.int ev,.int at_]=if isM ms mk&&decide (1<=ev/\ev<=6)&&decide (0<=at_/\at_<=ev-1)then some (.ok (.obj "Turn" ["marks", "mark", "every", "at"] [.str ms,.str mk,.int ev,.int at_]))else errR:=by
 have hm:=is_mark ms mk hk;have hr:=UZ M "Turn" (by decide);generalize isM ms mk=b at hm ⊢;have w1:=is_whole ev 1 6;have w2:=is_whole at_ 0 (ev-1);cases b with
 |false=>simp [Vc,UV,YK,Zw,YW,Yj,hr,hm,errR,DL.run,DL.runI,Zq,sIf,Zy,YC,sNext,Zn,Yc,ZM,Yi,sNever,xB,bD,ZN,Z3,xOr,Za,eC,eOp,ZP,eOr,Z7,eIf,Z6,Yy,Z9,Yb,eUn,ZX,eNil,Zb,Zp,Z8,eCB,lenD,Yz,YA,Zs,ZK,ZQ,ZY,eSl,xP,xNoP,addD,subD,mulD,fdivD,modD,ZG,ixD,isD,eBM,ZS,Yd,kind,plainKinds,ZZ,Yk,YD,Yt,Yu,Yv,Yw,Yx,YE,YF,YG,List.lookup,Z1,CMul,PySem.sizeLine_eq,List.replicate]
 |true=>
  by_cases h1:1<=ev/\ev<=6
  · by_cases h2:0<=at_/\at_<=ev-1
    · simp [Vc,UV,YK,Zw,YW,Yj,rOf,hr,hm,w1,h1,w2,h2,Uk,ZaD,ZeA,errR,DL.run,DL.runI,Zq,sIf,Zy,YC,sNext,Zn,Yc,ZM,Yi,sNever,xB,bD,ZN,Z3,xOr,Za,eC,eOp,ZP,eOr,Z7,eIf,Z6,Yy,Z9,Yb,eUn,ZX,eNil,Zb,Zp,Z8,eCB,lenD,Yz,YA,Zs,ZK,ZQ,ZY,eSl,xP,xNoP,addD,subD,mulD,fdivD,modD,ZG,ixD,isD,eBM,ZS,Yd,kind,plainKinds,ZZ,Yk,YD,Yt,Yu,Yv,Yw,Yx,YE,YF,YG,List.lookup,Z1,CMul,PySem.sizeLine_eq,List.replicate]
    · simp [Vc,UV,YK,Zw,YW,Yj,rOf,hr,hm,w1,h1,w2,h2,errR,DL.run,DL.runI,Zq,sIf,Zy,YC,sNext,Zn,Yc,ZM,Yi,sNever,xB,bD,ZN,Z3,xOr,Za,eC,eOp,ZP,eOr,Z7,eIf,Z6,Yy,Z9,Yb,eUn,ZX,eNil,Zb,Zp,Z8,eCB,lenD,Yz,YA,Zs,ZK,ZQ,ZY,eSl,xP,xNoP,addD,subD,mulD,fdivD,modD,ZG,ixD,isD,eBM,ZS,Yd,kind,plainKinds,ZZ,Yk,YD,Yt,Yu,Yv,Yw,Yx,YE,YF,YG,List.lookup,Z1,CMul,PySem.sizeLine_eq,List.replicate]
  · simp [Vc,UV,YK,Zw,YW,Yj,hr,hm,w1,h1,errR,DL.run,DL.runI,Zq,sIf,Zy,YC,sNext,Zn,Yc,ZM,Yi,sNever,xB,bD,ZN,Z3,xOr,Za,eC,eOp,ZP,eOr,Z7,eIf,Z6,Yy,Z9,Yb,eUn,ZX,eNil,Zb,Zp,Z8,eCB,lenD,Yz,YA,Zs,ZK,ZQ,ZY,eSl,xP,xNoP,addD,subD,mulD,fdivD,modD,ZG,ixD,isD,eBM,ZS,Yd,kind,plainKinds,ZZ,Yk,YD,Yt,Yu,Yv,Yw,Yx,YE,YF,YG,List.lookup,Z1,CMul,PySem.sizeLine_eq,List.replicate]
theorem Za4{ms:List Nat}(M:Ms ms)(mo:Int) :
 XI [.obj "Alike" [] [],.str ms,.int mo]=if decide (1<=mo/\mo<=6)then some (.ok (.obj "Alike" ["marks", "most"] [.str ms,.int mo]))else errR:=by
 have hr:=UZ M "Alike" (by decide);have w1:=is_whole mo 1 6
 by_cases h1:1<=mo/\mo<=6
 · simp [XI,Ja,YK,Zw,YW,Yj,rOf,hr,w1,h1,Ul,errR,DL.run,DL.runI,Zq,sIf,Zy,YC,sNext,Zn,Yc,ZM,Yi,sNever,xB,bD,ZN,Z3,xOr,Za,eC,eOp,ZP,eOr,Z7,eIf,Z6,Yy,Z9,Yb,eUn,ZX,eNil,Zb,Zp,Z8,eCB,lenD,Yz,YA,Zs,ZK,ZQ,ZY,eSl,xP,xNoP,addD,subD,mulD,fdivD,modD,ZG,ixD,isD,eBM,ZS,Yd,kind,plainKinds,ZZ,Yk,YD,Yt,Yu,Yv,Yw,Yx,YE,YF,YG,List.lookup,Z1,CMul,PySem.sizeLine_eq,List.replicate]
 · simp [XI,Ja,YK,Zw,YW,Yj,hr,w1,h1,errR,DL.run,DL.runI,Zq,sIf,Zy,YC,sNext,Zn,Yc,ZM,Yi,sNever,xB,bD,ZN,Z3,xOr,Za,eC,eOp,ZP,eOr,Z7,eIf,Z6,Yy,Z9,Yb,eUn,ZX,eNil,Zb,Zp,Z8,eCB,lenD,Yz,YA,Zs,ZK,ZQ,ZY,eSl,xP,xNoP,addD,subD,mulD,fdivD,modD,ZG,ixD,isD,eBM,ZS,Yd,kind,plainKinds,ZZ,Yk,YD,Yt,Yu,Yv,Yw,Yx,YE,YF,YG,List.lookup,Z1,CMul,PySem.sizeLine_eq,List.replicate]
end K05
namespace K05
open DL L2
theorem Zfs{ms:List Nat}{ws:List Int}(M:Ms ms)(hw:ws.length<=1000)(lo hi:Int) :
 Up [.obj "Sum" [] [],.str ms,.tup (ws.map D.int),.int lo,.int hi]=if decide (ws.length=ms.length)&&(ws.all (λv=>decide (-3<=v/\v<=3))&&(decide (-8<=lo/\lo<=0)&&decide (0<=hi/\hi<=8)))then some (.ok (.obj "Sum" ["marks", "worths", "low", "high"] [.str ms,.tup (ws.map D.int),.int lo,.int hi]))else errR:=by
 have hz:ms.length<=16777216:=by have:=M.hi;omega
 have hc:=Zak (ε:=Zs 3 X2 [] (Zb (Za 0) (Zb (eUn ZX (eC (.int 3))) (Zb (eC (.int 3)) eNil)))) (δ0:=[none]) D.int (λv=>decide (-3<=v/\v<=3)) ws (λv _=>⟨_,rfl,(YY rfl rfl).trans (is_whole v (-3) 3)⟩);have ha:=Zaq (λv:Int=>decide (-3<=v/\v<=3)) (λbs=>bs.all id) ws;rw [List.all_map]at ha;refine Zb5 rfl ((Zl (Zgj (ds:=[.str ms]) rfl (Zg rfl nil_of) rfl (UZ M "Sum" (by decide)))).trans ((V2 (b:=decide (ws.length=ms.length)) ?_ ((V2 (b:=ws.all λv=>decide (-3<=v/\v<=3)) ?_ ((V2 (b:=decide (-8<=lo/\lo<=0)) ?_ (V2 (b:=decide (0<=hi/\hi<=8)) ?_ (Zz (o:=.nx [some (.obj "Sum" ["marks", "worths", "low", "high"] [.str ms,.tup (ws.map D.int),.int lo,.int hi]),some (.str ms),some (.tup (ws.map D.int)),some (.int lo),some (.int hi)]) ?_))).trans (QF _ _ _ _))).trans (QF _ _ _ _))).trans (QF _ _ _ _))) rfl
 · have e:decide (((ws.map D.int).length:Int)=ms.length)=decide (ws.length=ms.length):=by rw [List.length_map];exact decide_eq_decide.mpr ⟨by omega,by omega⟩
   refine(ZA (x:=.int (ws.map D.int).length) (y:=.int ms.length) rfl ((Y9 (Zg rfl nil_of)).trans (len_str (by have:=M.hi;omega)))).trans ((ZZ _ _).trans ?_);rw [e]
 · exact(Y9 (Zg (Vl rfl rfl hc (by rw [List.length_map];omega)) nil_of)).trans ha
 · exact(YY rfl rfl).trans (is_whole lo (-8) 0)
 · exact(YY rfl rfl).trans (is_whole hi 0 8)
 · generalize ws.map D.int=wd
   simp [ZM,Zao,Zcd,Za6,Vh,DL.run,DL.runI,Zq,sIf,Zy,YC,sNext,Zn,Yc,ZM,Yi,sNever,xB,bD,ZN,Z3,xOr,Za,eC,eOp,ZP,eOr,Z7,eIf,Z6,Yy,Z9,Yb,eUn,ZX,eNil,Zb,Zp,Z8,eCB,lenD,Yz,YA,Zs,ZK,ZQ,ZY,eSl,xP,xNoP,addD,subD,mulD,fdivD,modD,ZG,ixD,isD,eBM,ZS,Yd,kind,plainKinds,ZZ,Yk,YD,Yt,Yu,Yv,Yw,Yx,YE,YF,YG,List.lookup,Z1,CMul,PySem.sizeLine_eq,List.replicate]
theorem Zf0{e:DL.Env->Option D}{δ:DL.Env}{b:Bool}(h:e δ=some (.bl b)):Z7 e δ=some (.bl (!b)):=by unfold Z7;rw [h]
structure Ru where
 c:String
 ms:List Nat
 ks:List String
 xs:List D
def Ru.d(r:Ru):D := .obj r.c ("marks" :: r.ks) (.str r.ms::r.xs)
theorem ZbJ{a:DL.Env->Option D}{δ:DL.Env}{r:Ru}(hc:fc_marks.contains r.c=true)(h:a δ=some r.d):ZY fc_marks "marks" a δ=some (.str r.ms):=by
 have hc':r.c∈fc_marks:=by simpa using hc
 simp [ZY,h,Ru.d,hc',DL.run,DL.runI,Zq,sIf,Zy,YC,sNext,Zn,Yc,ZM,Yi,sNever,xB,bD,ZN,Z3,xOr,Za,eC,eOp,ZP,eOr,Z7,eIf,Z6,Yy,Z9,Yb,eUn,ZX,eNil,Zb,Zp,Z8,eCB,lenD,Yz,YA,Zs,ZK,ZQ,ZY,eSl,xP,xNoP,addD,subD,mulD,fdivD,modD,ZG,ixD,isD,eBM,ZS,Yd,kind,plainKinds,ZZ,Yk,YD,Yt,Yu,Yv,Yw,Yx,YE,YF,YG,List.lookup,Z1,CMul,PySem.sizeLine_eq,List.replicate]
theorem isi_All{a:DL.Env->Option D}{δ:DL.Env}{r:Ru}(hc:fc_marks.contains r.c=true)(h:a δ=some r.d):ZS Q8 a δ=some (.bl (decide (r.c = "All"))):=by
 refine ZfW h ?_;have hc':r.c∈fc_marks:=by simpa using hc
 obtain⟨c,mk,ks,xs⟩:=r;simp only [fc_marks,List.mem_cons,List.mem_nil_iff,or_false]at hc';rcases hc' with rfl|rfl|rfl|rfl|rfl|rfl|rfl<;>rfl
theorem any_map{α:Type}(p:α->Bool)(xs:List α):(xs.map p).any id=xs.any p:=by rw [List.any_map];rfl
theorem ZcI{ms:List Nat}{rs:List Ru}(M:Ms ms)(hc:∀r∈rs,fc_marks.contains r.c=true)(hl:rs.length<=1000) :
 Vn [.obj "All" [] [],.str ms,.lst (rs.map Ru.d)]=if decide (rs.length<=6)&&(!(rs.any λr=>decide (r.c = "All"))&&rs.all λr=>decide (r.ms=ms))then some (.ok (.obj "All" ["marks", "rules"] [.str ms,.tup (rs.map Ru.d)]))else errR:=by
 have h1:=Zak (ε:=ZS Q8 (Za 0)) (δ0:=[none]) Ru.d (λr=>decide (r.c = "All")) rs (λr hr=>⟨_,rfl,isi_All (hc r hr) rfl⟩);have h2:=Zak (ε:=eOp eqD (ZY fc_marks "marks" (Za 0)) (Za 1)) (δ0:=[none,some (.str ms)]) Ru.d (λr=>decide (r.ms=ms)) rs (λr hr=>⟨_,rfl,(ZA (ZbJ (hc r hr) rfl) rfl).trans (Yk _ _)⟩);have a1:=Zaq (λr:Ru=>decide (r.c = "All")) (λbs=>bs.any id) rs
 have a2:=Zaq (λr:Ru=>decide (r.ms=ms)) (λbs=>bs.all id) rs;rw [any_map]at a1;rw [List.all_map]at a2;refine Zb5 rfl ((Zl (Zgj (ds:=[.str ms]) rfl (Zg rfl nil_of) rfl (UZ M "All" (by decide)))).trans ((V2 (b:=decide (rs.length<=6)) ?_ ((V2 (b:=!(rs.any λr=>decide (r.c = "All"))) ?_ (V2 (b:=rs.all λr=>decide (r.ms=ms)) ?_ (Zz (o:=.nx [some (.obj "All" ["marks", "rules"] [.str ms,.tup (rs.map Ru.d)]),some (.str ms),some (.lst (rs.map Ru.d))]) ?_))).trans (QF _ _ _ _))).trans (QF _ _ _ _))) rfl
 · have e:decide (((rs.map Ru.d).length:Int)<=6)=decide (rs.length<=6):=by rw [List.length_map];exact decide_eq_decide.mpr ⟨by omega,by omega⟩
   refine(ZA (x:=.int (rs.map Ru.d).length) (y:=.int 6) rfl rfl).trans ?_;rw [<-e];rfl
 · exact Zf0 ((Y9 (Zg (Vl rfl rfl h1 (by rw [List.length_map];omega)) nil_of)).trans a1)
 · exact(Y9 (Zg (Vl rfl rfl h2 (by rw [List.length_map];omega)) nil_of)).trans a2
 · have hl2:(rs.map Ru.d).length<=1000:=by rw [List.length_map];exact hl
   generalize rs.map Ru.d=wd at hl2;simp [ZM,Q7,Vh,DL.run,DL.runI,Zq,sIf,Zy,YC,sNext,Zn,Yc,ZM,Yi,sNever,xB,bD,ZN,Z3,xOr,Za,eC,eOp,ZP,eOr,Z7,eIf,Z6,Yy,Z9,Yb,eUn,ZX,eNil,Zb,Zp,Z8,eCB,lenD,Yz,YA,Zs,ZK,ZQ,ZY,eSl,xP,xNoP,addD,subD,mulD,fdivD,modD,ZG,ixD,isD,eBM,ZS,Yd,kind,plainKinds,ZZ,Yk,YD,Yt,Yu,Yv,Yw,Yx,YE,YF,YG,List.lookup,Z1,CMul,PySem.sizeLine_eq,List.replicate]
end K05
namespace K05
open DL L2
theorem XB{a:DL.Env->Option D}{δ:DL.Env}{i j:Int}(h:a δ=some (.int i))(h1:0<j)(h2:j<1000000):eOp fdivD a (eC (.int j)) δ=some (.int (i / j)):=(ZA h rfl).trans (ZaK (Zat h1 h2))
theorem Z4{a b:DL.Env->Option D}{δ:DL.Env}{i j:Int}(h:a δ=some (.int i))(hb:b δ=some (.int j))(h1:0<j):eOp modD a b δ=some (.int (i % j)):=(ZA h hb).trans (ZcD h1)
theorem ZdO{xs:List D}{a b:DL.Env->Option D}{δ:DL.Env}{i m:Int}(ha:a δ=some (.lst xs))(hb:b δ=some (.int (i % m)))(hn:(xs.length:Int)=m)(h0:0<m):∃x∈xs,xs[(i % m).toNat]? = some x/\eOp ixD a b δ=some x:=by
 have h1:=Int.emod_nonneg i (show m≠0 by omega);have h2:=Int.emod_lt_of_pos i h0;obtain⟨x,h3,h4⟩:=J9 (xs:=xs) h1 (by rw [hn];exact h2);exact⟨x,List.mem_of_getElem? h4,h4,(ZA ha hb).trans h3⟩
theorem Vx{P:D->Prop}{xs:List D}{a b:DL.Env->Option D}{δ:DL.Env}{i m:Int}(ha:a δ=some (.lst xs))(hb:b δ=some (.int (i % m)))(hn:(xs.length:Int)=m)(h0:0<m)(hP:∀x∈xs,P x):∃x,eOp ixD a b δ=some x/\P x:=by
 obtain⟨x,h1,_,h2⟩:=ZdO ha hb hn h0;exact⟨x,h2,hP x h1⟩
theorem ZdP:∀{l ms:List Nat},l.Nodup->(∀x∈l,x∈ms)->l.length<=ms.length
 | [],_,_,_=>Nat.zero_le _
 |a::l,ms,hn,h=>by
  have ha:=h a List.mem_cons_self;have h1:=ZdP (l:=l) (ms:=ms.erase a) (List.nodup_cons.mp hn).2 λx hx=>(List.mem_erase_of_ne (λ(e:x=a)=>(List.nodup_cons.mp hn).1 (e▸hx))).mpr (h x (List.mem_cons_of_mem _ hx))
  have h2:=List.length_pos_of_mem ha;rw [List.length_erase_of_mem ha]at h1;rw [List.length_cons];omega
theorem Zlh{δ:DL.Env}:eOp powW (eC (.int 10)) (eC (.int 9)) δ=some (.int 1000000000):=by
 refine(ZA rfl rfl).trans ((ZgS ?_).trans rfl)
 decide
theorem U0(c lo hi:Int)(hlh:lo<=hi+1):∃v,Vd [.int c,.int lo,.int hi]=some (.int v)/\(v<lo\/hi<v):=by
 have hf:∃far,eOp ixD (Zp (Zb (eC (.int 1)) (Zb (eC (.int 2)) (Zb (eOp powW (eC (.int 10)) (eC (.int 9))) eNil)))) (eOp modD (eOp fdivD (Za 0) (eC (.int 2))) (eC (.int 3))) [some (.int c),some (.int lo),some (.int hi),none]=some (.int far)/\0<far:=by
  have:∃x,eOp ixD (Zp (Zb (eC (.int 1)) (Zb (eC (.int 2)) (Zb (eOp powW (eC (.int 10)) (eC (.int 9))) eNil)))) (eOp modD (eOp fdivD (Za 0) (eC (.int 2))) (eC (.int 3))) [some (.int c),some (.int lo),some (.int hi),none]=some x/\∃far,x = .int far/\0<far:=
   Vx (xs:=[.int 1,.int 2,.int 1000000000]) (i:=c / 2) (m:=3) (Yl (Zg rfl (Zg rfl (Zg Zlh nil_of))) (by decide)) (Z4 (XB rfl (by decide) (by decide)) rfl (by decide)) rfl (by decide) (by
    intro x hx;simp only [List.mem_cons,List.mem_nil_iff,or_false]at hx;rcases hx with rfl|rfl|rfl<;>exact⟨_,rfl,by decide⟩)
  obtain⟨_,e,far,rfl,h0⟩:=this;exact⟨far,e,h0⟩
 obtain⟨far,e,h0⟩:=hf;have ht:xB (eOp eqD (eOp modD (Za 0) (eC (.int 2))) (eC (.int 0))) [some (.int c),some (.int lo),some (.int hi),some (.int far)]=some (decide (c % 2=0)):=Y8 ((ZA (Z4 rfl rfl (by decide)) rfl).trans (ZZ _ _))
 by_cases hc:c % 2=0
 · rw [decide_eq_true hc]at ht
   exact⟨lo-far,XH rfl ((ZE (Zm e)).trans (ZfU ((Q6 ht).trans (XR rfl)))),.inl (by omega)⟩
 · rw [decide_eq_false hc]at ht
   exact⟨hi+far,XH rfl ((ZE (Zm e)).trans ((ZE ((Vk ht).trans rfl)).trans (XR rfl))),.inr (by omega)⟩
theorem Zew(ms:List Nat)(xs:List Nat):YZ (ZR 0) (xB (eOp (inD true) (Za 0) (Za 1))) (Za 0) [none,some (.str ms)] (xs.map λc => .str [c])=some ((xs.filter λc=>decide (c∉ms)).map λc => .str [c]):=by
 rw [Zaz (λd=>match d with | .str [c]=>decide (c∉ms)|_=>false) id]
 · rw [List.map_id,List.filter_map]
   rfl
 · intro x hx
   obtain⟨c,hc,rfl⟩:=List.mem_map.mp hx;refine⟨_,rfl,Y8 ((ZA rfl rfl).trans ?_),λ_=>rfl⟩;show some (D.bl (true != decide (c∈ms)))=_
   by_cases h:c∈ms<;>simp [h]
theorem Zc3{ms:List Nat}(M:Ms ms):0<(SG.filter λc=>decide (c∉ms)).length:=by
 have h1:∀(l:List Nat)(p:Nat->Bool),l.length<=(l.filter p).length+(l.filter λc => !p c).length:=λl p=>by
  induction l with
  |nil=>simp
  |cons a l ih=>by_cases h:p a=true<;>simp [List.filter_cons,h]<;>omega
 have h2:=h1 SG λc=>decide (c∉ms)
 have h3:(SG.filter λc => !decide (c∉ms)).length<=ms.length:=by
  refine ZdP (List.Nodup.sublist List.filter_sublist (by decide)) λx hx => ?_
  have:=(List.mem_filter.mp hx).2;simpa using this
 have:=M.hi;rw [ZfZ]at h2;omega
theorem Zau{ms:List Nat}(M:Ms ms)(c:Int):∃z,QA [.str ms,.int c]=some (.str [z])/\z∉ms:=by
 have e1:YN (XX (eC (.str SG))) (ZR 0) (xB (eOp (inD true) (Za 0) (Za 1))) (Za 0) 1 [0] [some (.str ms),some (.int c),some (.str [45,65,32,95,10,33,126,90,91,123]),none]=some (.lst ((SG.filter λc=>decide (c∉ms)).map λc => .str [c])):=
  Vl rfl rfl (Zew ms SG) (by rw [List.length_map];exact Nat.le_trans (List.length_filter_le _ _) (by decide))
 have hp:=Zc3 M;have hmem:∀x∈(SG.filter λc=>decide (c∉ms)),x∉ms:=λx hx=>by have:=(List.mem_filter.mp hx).2;simpa using this
 have hlen:(SG.filter λc=>decide (c∉ms)).length<=36:=List.length_filter_le _ _;show ∃z,DL.run 4 (Zq (Zn 2 (eC (.str [45,65,32,95,10,33,126,90,91,123]))) (Zq (Zn 3 (YN (XX (eC (.str SG))) (ZR 0) (xB (eOp (inD true) (Za 0) (Za 1))) (Za 0) 1 [0])) _)) _=_/\_;generalize (SG.filter λc=>decide (c∉ms))=l at e1 hp hmem hlen;generalize YN (XX (eC (.str SG))) (ZR 0) (xB (eOp (inD true) (Za 0) (Za 1))) (Za 0) 1 [0]=ec at e1
 have ht:xB (eOp eqD (eOp modD (Za 1) (eC (.int 3))) (eC (.int 0))) [some (.str ms),some (.int c),some (.str [45,65,32,95,10,33,126,90,91,123]),some (.lst (l.map λc => .str [c]))]=some (decide (c % 3=0)):=Y8 ((ZA (Z4 rfl rfl (by decide)) rfl).trans (ZZ _ _));have hd:eOp fdivD (Za 1) (eC (.int 3)) [some (.str ms),some (.int c),some (.str [45,65,32,95,10,33,126,90,91,123]),some (.lst (l.map λc => .str [c]))]=some (.int (c / 3)):=XB rfl (by decide) (by decide)
 by_cases hc:c % 3=0
 · rw [decide_eq_true hc]at ht
   obtain⟨z,h1,h2⟩:=J9 (xs:=[45,65,32,95,10,33,126,90,91,123]) (i:=c / 3 % 10) (by omega) (by show _<(10:Int);omega);refine⟨z,XH rfl ((ZE (Zm rfl)).trans ((ZE (Zm e1)).trans (ZfU ((Q6 ht).trans (XR ((ZA rfl (Z4 hd ((Y9 (Zg rfl nil_of)).trans (len_str (by decide))) (by decide))).trans (Za5 (by rw [PySem.sizeLine_eq];decide) h1))))))),λhz => ?_⟩;have h3:=List.mem_of_getElem? h2
   have h4:∀x∈[45,65,32,95,10,33,126,90,91,123],x∉cs_MARK_SIGNS:=by decide
   exact h4 z h3 (M.sg z hz)
 · rw [decide_eq_false hc]at ht
   obtain⟨x,h1,_,h2⟩:=ZdO (xs:=l.map λc=>D.str [c]) (m:=(l.length:Int)) (i:=c / 3) (a:=Za 3) (b:=eOp modD (eOp fdivD (Za 1) (eC (.int 3))) (eCB lenD (Zb (Za 3) eNil))) (δ:=[some (.str ms),some (.int c),some (.str [45,65,32,95,10,33,126,90,91,123]),some (.lst (l.map λc => .str [c]))]) rfl (Z4 hd ((Y9 (Zg rfl nil_of)).trans (by show some (D.int ((l.map λc=>D.str [c]).length:Nat))=_;rw [List.length_map])) (by omega)) (by rw [List.length_map]) (by omega)
   obtain⟨z,hz,rfl⟩:=List.mem_map.mp h1;exact⟨z,XH rfl ((ZE (Zm rfl)).trans ((ZE (Zm e1)).trans ((ZE ((Vk ht).trans rfl)).trans (XR h2)))),hmem z hz⟩
end K05
namespace K05
open DL L2
theorem Za9{α:Type}(r:List α)(j:Nat):cutL r none (some (j:Int))=r.take j:=by
 cases j with
 |zero=>
  unfold cutL YR;simp
 |succ j=>exact Zfq r j
theorem ZdQ{a:DL.Env->Option D}{δ:DL.Env}{w:List Nat}{n:Nat}{k:Int}(h:a δ=some (.str w))(hl:w.length<=1000)(hk:k=(n:Nat)):eSl a xNoP (xP (eC (.int k))) δ=some (.str (w.take n)):=by
 subst hk;unfold eSl;rw [h];show(if w.length<=PySem.sizeLine then some (D.str (cutL w none (some (n:Int))))else none)=_;rw [if_pos (by rw [PySem.sizeLine_eq];omega),Za9]
theorem Zcg{a b:DL.Env->Option D}{δ:DL.Env}{x y:List Nat}(h1:a δ=some (.str x))(h2:b δ=some (.str y))(h:x.length+y.length<=1000):eOp addD a b δ=some (.str (x++y)):=by
 refine(ZA h1 h2).trans ?_;show(if x.length+y.length<=PySem.sizeLine then _ else _)=_;rw [if_pos (by rw [PySem.sizeLine_eq];omega)]
theorem Zgk{a b:DL.Env->Option D}{δ:DL.Env}{ms:List Nat}{i m:Int}(ha:a δ=some (.str ms))(hb:b δ=some (.int (i % m)))(hn:(ms.length:Int)=m)(h0:0<m)(hl:ms.length<=1000):∃z,eOp ixD a b δ=some (.str [z])/\z∈ms:=by
 subst hn;obtain⟨z,h1,h2⟩:=Zij (ms:=ms) (by omega) i;exact⟨z,(ZA ha hb).trans (Za5 (by rw [PySem.sizeLine_eq];omega) h1),h2⟩
theorem Jr{a b:DL.Env->Option D}{δ:DL.Env}{x y:List D}(h1:a δ=some (.lst x))(h2:b δ=some (.lst y))(h:x.length+y.length<=100000):eOp Vj a b δ=some (.lst (x++y)):=(ZA h1 h2).trans (ZgT h)
theorem ZbK(m:Nat)(r s:List Nat):XA (m::r++m::s)=false:=by
 have h:¬(m::r++m::s).count m=1:=by
  rw [List.count_append,List.count_cons_self,List.count_cons_self];omega
 unfold XA
 have:((m::r++m::s).all λc=>decide (c∈cs_MARK_SIGNS)&&decide ((m::r++m::s).count c=1))=false:=by
  rw [List.all_eq_false];exact⟨m,by simp,by simp [h]⟩
 rw [this,Bool.and_false]
def Bd(w:List Nat):Prop:=Tx w/\XA w=false
theorem Bd.of{w:List Nat}(h:(decide (w.length<=5)&&w.all (λc=>decide (c<65536)) && !XA w)=true):Bd w:=by
 simp only [Bool.and_eq_true,decide_eq_true_eq,Bool.not_eq_true']at h;exact⟨⟨h.1.1,h.1.2⟩,h.2⟩
theorem Zex(c:Int):∃w,Ziz [.int c]=some (.str w)/\Bd w:=by
 have M:=ZcF (c / 7);have e1:Zs 1 Ur [] (Zb (eOp fdivD (Za 0) (eC (.int 7))) eNil) [some (.int c),none,none]=some (.str (Ve (c / 7))):=(YY (Zg (XB rfl (by decide) (by decide)) nil_of) rfl).trans (ZcE _);generalize Ve (c / 7)=ms at M e1;have T:=M.tx
 obtain⟨m,r,rfl⟩:∃m r,ms=m::r:=by
  cases ms with
  |nil=>exact absurd M.lo (by decide)
  |cons m r=>exact⟨m,r,rfl⟩
 have hl:(m::r).length<=4:=M.hi;have hm:m<65536:=by have:=T.cd;rw [List.all_cons,Bool.and_eq_true]at this;simpa using this.1
 have e2:Zp (Zb (eC (.str [])) (Zb (eSl (Za 1) xNoP (xP (eC (.int 1)))) (Zb (eC (.str [97,98,99,100,101])) (Zb (eOp addD (Za 1) (eSl (Za 1) xNoP (xP (eC (.int 1))))) (Zb (eC (.str [97,66])) (Zb (eC (.str [97,32,98])) (Zb (eC (.str [97,95])) (Zb (eOp addD (eOp ixD (Za 1) (eC (.int 0))) (eOp ixD (Za 1) (eC (.int 0)))) (Zb (eC (.str [48,45])) (Zb (eC (.str [97,98,10])) eNil)))))))))) [some (.int c),some (.str (m::r)),none]
  = some (.lst ([[],[m],[97,98,99,100,101],m::r++[m],[97,66],[97,32,98],[97,95],[m,m],[48,45],[97,98,10]].map D.str)):=by
  have s1:eSl (Za 1) xNoP (xP (eC (.int 1))) [some (.int c),some (.str (m::r)),none]=some (.str [m]):=ZdQ (w:=m::r) (n:=1) rfl (by omega) rfl;have s2:eOp ixD (Za 1) (eC (.int 0)) [some (.int c),some (.str (m::r)),none]=some (.str [m]):=(ZA rfl rfl).trans (ix_str (cs:=m::r) (a:=0) rfl (by omega));exact Yl (Zg rfl (Zg s1 (Zg rfl (Zg (Zcg rfl s1 (by rw [List.length_singleton];omega)) (Zg rfl (Zg rfl (Zg rfl (Zg (Zcg s2 s2 (show 1+1<=1000 by decide)) (Zg rfl (Zg rfl nil_of)))))))))) (show 10<=1000 by decide)
 have e3:eOp Vj (Za 2) (Zp (Zb (eC (.str [65,49])) eNil)) [some (.int c),some (.str (m::r)),some (.lst ([[],[m],[97,98,99,100,101],m::r++[m],[97,66],[97,32,98],[97,95],[m,m],[48,45],[97,98,10]].map D.str))]
  = some (.lst ([[],[m],[97,98,99,100,101],m::r++[m],[97,66],[97,32,98],[97,95],[m,m],[48,45],[97,98,10],[65,49]].map D.str)):=
  Jr (x:=[[],[m],[97,98,99,100,101],m::r++[m],[97,66],[97,32,98],[97,95],[m,m],[48,45],[97,98,10]].map D.str) (y:=[.str [65,49]]) rfl (Yl (Zg rfl nil_of) (show 1<=1000 by decide)) (show 10+1<=100000 by decide)
 have e4:∃x,eOp ixD (Za 2) (eOp modD (Za 0) (eCB lenD (Zb (Za 2) eNil))) [some (.int c),some (.str (m::r)),some (.lst ([[],[m],[97,98,99,100,101],m::r++[m],[97,66],[97,32,98],[97,95],[m,m],[48,45],[97,98,10],[65,49]].map D.str))]=some x/\∃w,x = .str w/\Bd w:=by
  refine Vx (i:=c) (m:=11) rfl (Z4 rfl rfl (by decide)) rfl (by decide) λx hx => ?_
  obtain⟨w,hw,rfl⟩:=List.mem_map.mp hx;refine⟨w,rfl,?_⟩;simp only [List.mem_cons,List.mem_nil_iff,or_false]at hw;have cm:∀l:List Nat,(l.all λc=>decide (c<65536))=true->((m::l).all λc=>decide (c<65536))=true:=λl h=>by rw [List.all_cons,h,decide_eq_true hm];rfl
  rcases hw with rfl|rfl|rfl|rfl|rfl|rfl|rfl|rfl|rfl|rfl|rfl
  · exact .of (by decide)
  · exact⟨⟨by simp,cm _ rfl⟩,rfl⟩
  · exact .of (by decide)
  · refine⟨⟨by rw [List.length_append,List.length_singleton];omega,?_⟩,ZbK m r []⟩
    rw [List.all_append,T.cd,Bool.true_and];exact cm _ rfl
  · exact .of (by decide)
  · exact .of (by decide)
  · exact .of (by decide)
  · exact⟨⟨by simp,cm _ (cm _ rfl)⟩,ZbK m [] []⟩
  · exact .of (by decide)
  · exact .of (by decide)
  · exact .of (by decide)
 obtain⟨_,e4,w,rfl,hw⟩:=e4;exact⟨w,XH rfl ((ZE (Zm e1)).trans ((ZE (Zm e2)).trans ((ZE (Zm e3)).trans (XR e4)))),hw⟩
end K05
namespace K05
open DL L2
theorem Zft{N n:Nat}{body:DL.Env->Option RO}{vs ds:List D}{δ0 δ:DL.Env}{F:List D->List D}{rr:List D->Option RD}{α:DL.Env->Option (List D)}(h1:(vs.map some++List.replicate (N-vs.length) none)=δ0)(h2:body δ0=YX F n rr α δ)(h3:α δ=some ds)(h4:(F ds).length=n):Xq N body vs=rr (F ds):=by
 unfold Xq;rw [h1,h2];unfold YX;rw [h3];dsimp only;rw [if_pos h4];cases rr (F ds)with
 |none=>rfl
 |some x=>cases x<;>rfl
theorem Xk{N n:Nat}{c:String}{body:DL.Env->Option RO}{vs ds:List D}{δ0 δ:DL.Env}{rr:List D->Option RD}{α:DL.Env->Option (List D)}(h1:(vs.map some++List.replicate (N-vs.length) none)=δ0)(h2:body δ0=YX (λds => .obj c [] []::(ds++[])) n rr α δ)(h3:α δ=some ds)(h4:ds.length+1=n):Xq N body vs=rr (.obj c [] []::ds):=by
 have:=Zft h1 h2 h3 (by rw [List.append_nil];exact h4);rw [List.append_nil]at this;exact this
theorem Z5{k bad:Int}{φ:DL.Env->Option Out}{δ:DL.Env}(h:Za 3 δ=some (.int bad))(hk:bad≠k):rOf (sIf (xB (eOp eqD (Za 3) (eC (.int k)))) φ sNext) δ=some (.ok (.nx δ)):=by
 refine Zz ((Vk ?_).trans rfl);rw [Y8 ((ZA h rfl).trans (ZZ _ _)),decide_eq_false hk]
theorem Vf{k bad:Int}{φ:DL.Env->Option Out}{δ:DL.Env}{o:Out}(h:Za 3 δ=some (.int bad))(hk:bad=k)(h2:φ δ=some o):rOf (sIf (xB (eOp eqD (Za 3) (eC (.int k)))) φ sNext) δ=some (.ok o):=by
 refine Zz ((Q6 ?_).trans h2);rw [Y8 ((ZA h rfl).trans (ZZ _ _)),decide_eq_true hk]
abbrev CL(c0 c1 c2 c3 c4:Int):D := .lst [.int c0,.int c1,.int c2,.int c3,.int c4]
theorem Zb6{ms:List Nat}{z:Nat}(h:z∈ms):isM ms [z]=true:=decide_eq_true h
theorem Zik{ms:List Nat}{z:Nat}(h:z∉ms):isM ms [z]=false:=decide_eq_false h
theorem ZcJ{ms:List Nat}(M:Ms ms){δ:DL.Env}{z:Nat}{a b:DL.Env->Option D}{c:Int}(h1:Za 1 δ=some (.str ms))(h7:a δ=some (.str [z]))(hz:z∉ms)(hb:b δ=some (.int (c % 5))) :
 ∃x,eOp ixD (Zp (Zb (eC (.str [])) (Zb (eSl (Za 1) xNoP (xP (eC (.int 2)))) (Zb a (Zb a (Zb a eNil)))))) b δ=some x/\∃mk,x = .str mk/\mk.length<=4/\isM ms mk=false:=by
 refine Vx (xs:=[.str [],.str (ms.take 2),.str [z],.str [z],.str [z]]) (i:=c) (m:=5) (Yl (Zg rfl (Zg (ZdQ (n:=2) h1 (by have:=M.hi;omega) rfl) (Zg h7 (Zg h7 (Zg h7 nil_of))))) (show 5<=1000 by decide)) hb rfl (by decide) λx hx => ?_
 simp only [List.mem_cons,List.mem_nil_iff,or_false]at hx;rcases hx with rfl|rfl|rfl|rfl|rfl
 · exact⟨_,rfl,by decide,rfl⟩
 · refine⟨_,rfl,by rw [List.length_take];omega,?_⟩
   have:=M.lo
   match ms,this with
   |a::b::r,_=>rfl
 all_goals exact⟨_,rfl,(show 1<=4 by decide),Zik hz⟩
theorem Zg2{own ms:List Nat}(M:Ms ms)(c0 c1 c2 c3 c4 bad:Int)(hb:0<=bad/\bad<=3):∃mk lo mo,mk.length<=4/\Jc [.str own,.str ms,CL c0 c1 c2 c3 c4,.int bad]=Xm [.obj "Gap" [] [],.str own,.str mk,.int lo,Vw mo] /\
 (isM ms mk&&decide (0<=lo/\lo<=8)&&(match mo with|none=>true|some m=>decide (lo<=m/\m<=8)))=decide (bad=0):=by
 have hlo:=M.lo;have hhi:=M.hi;obtain⟨z,e4,hz⟩:=Zgk (a:=Za 1) (b:=eOp modD (eOp ixD (Za 2) (eC (.int 1))) (eCB lenD (Zb (Za 1) eNil))) (δ:=[some (.str own),some (.str ms),some (CL c0 c1 c2 c3 c4),some (.int bad),none,none,none,none]) (ms:=ms) (i:=c1) (m:=ms.length) rfl (Z4 rfl ((Y9 (Zg rfl nil_of)).trans (len_str (by omega))) (by omega)) rfl (by omega) (by omega);have h9:0<=c2 % 9/\c2 % 9<=8:=by omega
 have e5:eOp modD (eOp ixD (Za 2) (eC (.int 2))) (eC (.int 9)) [some (.str own),some (.str ms),some (CL c0 c1 c2 c3 c4),some (.int bad),some (.str [z]),none,none,none]=some (.int (c2 % 9)):=Z4 rfl rfl (by decide);generalize c2 % 9=lo at h9 e5;have hm9:0<=c3 % (9-lo)/\c3 % (9-lo)<9-lo:=⟨Int.emod_nonneg _ (by omega),Int.emod_lt_of_pos _ (by omega)⟩
 have e6:∃x,eOp ixD (Zp (Zb (eC .non) (Zb (eOp addD (Za 5) (eOp modD (eOp ixD (Za 2) (eC (.int 3))) (eOp subD (eC (.int 9)) (Za 5)))) eNil))) (eOp modD (eOp ixD (Za 2) (eC (.int 3))) (eC (.int 2))) [some (.str own),some (.str ms),some (CL c0 c1 c2 c3 c4),some (.int bad),some (.str [z]),some (.int lo),none,none]=some x/\∃mo,x=Vw mo/\(match mo with|none=>true|some m=>decide (lo<=m/\m<=8))=true:=by
  refine Vx (xs:=[.non,.int (lo+c3 % (9-lo))]) (i:=c3) (m:=2) (Yl (Zg rfl (Zg ((ZA rfl (Z4 (j:=9-lo) rfl rfl (by omega))).trans rfl) nil_of)) (show 2<=1000 by decide)) (Z4 rfl rfl (by decide)) rfl (by decide) λx hx => ?_
  simp only [List.mem_cons,List.mem_nil_iff,or_false]at hx;rcases hx with rfl|rfl
  · exact⟨none,rfl,rfl⟩
  · exact⟨some _,rfl,decide_eq_true (by omega)⟩
 obtain⟨_,e6,mo,rfl,hmo⟩:=e6;rcases(show bad=0\/bad=1\/bad=2\/bad=3 by omega)with rfl|rfl|rfl|rfl
 · refine⟨[z],lo,mo,(show 1<=4 by decide),Xk rfl ((Zl (Zz (Zm e4))).trans ((Zl (Zz (Zm e5))).trans ((Zl (Zz (Zm e6))).trans ((Zl (Z5 rfl (by decide))).trans ((Zl (Z5 rfl (by decide))).trans ((Zl (Z5 rfl (by decide))).trans rfl)))))) (Zg rfl (Zg rfl (Zg rfl (Zg rfl nil_of)))) rfl,?_⟩
   rw [Zb6 hz,decide_eq_true h9,hmo];rfl
 · obtain⟨s,e7,hs⟩:=Zau M (c1 / 5)
   obtain⟨_,e8,mk,rfl,hk,hmk⟩:=ZcJ M (δ:=[some (.str own),some (.str ms),some (CL c0 c1 c2 c3 c4),some (.int 1),some (.str [z]),some (.int lo),some (Vw mo),some (.str [s])]) (a:=Za 7) (b:=eOp modD (eOp ixD (Za 2) (eC (.int 1))) (eC (.int 5))) (c:=c1) rfl rfl hs (Z4 rfl rfl (by decide));refine⟨mk,lo,mo,hk,Xk rfl ((Zl (Zz (Zm e4))).trans ((Zl (Zz (Zm e5))).trans ((Zl (Zz (Zm e6))).trans ((Zl (Vf rfl rfl ((ZE (Zm ((YY (Zg rfl (Zg (XB rfl (by decide) (by decide)) nil_of)) rfl).trans e7))).trans (Zm e8)))).trans ((Zl (Z5 rfl (by decide))).trans ((Zl (Z5 rfl (by decide))).trans rfl)))))) (Zg rfl (Zg rfl (Zg rfl (Zg rfl nil_of)))) rfl,?_⟩
   rw [hmk];rfl
 · obtain⟨v,e7,hv⟩:=U0 c2 0 8 (by decide)
   refine⟨[z],v,mo,(show 1<=4 by decide),Xk rfl ((Zl (Zz (Zm e4))).trans ((Zl (Zz (Zm e5))).trans ((Zl (Zz (Zm e6))).trans ((Zl (Z5 rfl (by decide))).trans ((Zl (Vf rfl rfl (Zm ((YY (Zg rfl (Zg rfl (Zg rfl nil_of))) rfl).trans e7)))).trans ((Zl (Z5 rfl (by decide))).trans rfl)))))) (Zg rfl (Zg rfl (Zg rfl (Zg rfl nil_of)))) rfl,?_⟩;rw [decide_eq_false (show ¬(0<=v/\v<=8) by omega),Bool.and_false]
   rfl
 · have e7 : ∃ x, eOp ixD (Zp (Zb (eC (.int 9)) (Zb (eOp addD (eC (.int 9)) (eOp modD (eOp ixD (Za 2) (eC (.int 3))) (eOp powW (eC (.int 10)) (eC (.int 9))))) (Zb (eOp subD (Za 5) (eC (.int 1))) (Zb (eOp subD (eUn ZX (eC (.int 1))) (eOp modD (eOp ixD (Za 2) (eC (.int 3))) (eC (.int 5)))) eNil))))) (eOp modD (eOp ixD (Za 2) (eC (.int 2))) (eC (.int 4))) [some (.str own), some (.str ms), some (CL c0 c1 c2 c3 c4), some (.int 3), some (.str [z]), some (.int lo), some (Vw mo), none] = some x /\ ∃ m, x = .int m /\ ¬ (lo <= m /\ m <= 8) := by
    refine Vx (xs:=[.int 9,.int (9+c3 % 1000000000),.int (lo-1),.int (-1-c3 % 5)]) (i:=c2) (m:=4) (Yl (Zg rfl (Zg ((ZA rfl (Z4 rfl Zlh (by decide))).trans rfl) (Zg rfl (Zg ((ZA rfl (Z4 rfl rfl (by decide))).trans rfl) nil_of)))) (show 4<=1000 by decide)) (Z4 rfl rfl (by decide)) rfl (by decide) λx hx => ?_
    simp only [List.mem_cons,List.mem_nil_iff,or_false]at hx;rcases hx with rfl|rfl|rfl|rfl
    · exact⟨_,rfl,by omega⟩
    · exact⟨_,rfl,by omega⟩
    · exact⟨_,rfl,by omega⟩
    · exact⟨_,rfl,by omega⟩
   obtain⟨_,e7,m,rfl,hm⟩:=e7;refine⟨[z],lo,some m,(show 1<=4 by decide),Xk rfl ((Zl (Zz (Zm e4))).trans ((Zl (Zz (Zm e5))).trans ((Zl (Zz (Zm e6))).trans ((Zl (Z5 rfl (by decide))).trans ((Zl (Z5 rfl (by decide))).trans ((Zl (Vf rfl rfl (Zm e7))).trans rfl)))))) (Zg rfl (Zg rfl (Zg rfl (Zg rfl nil_of)))) rfl,?_⟩;show(_&&decide (lo<=m/\m<=8))=_;rw [decide_eq_false hm,Bool.and_false]
   rfl
end K05
namespace K05
open DL L2
theorem Zfu{own ms:List Nat}(M:Ms ms)(c0 c1 c2 c3 c4 bad:Int)(hb:0<=bad/\bad<=3):∃mk ev at_,mk.length<=4/\Jf [.str own,.str ms,CL c0 c1 c2 c3 c4,.int bad]=Vc [.obj "Turn" [] [],.str own,.str mk,.int ev,.int at_] /\
 (isM ms mk&&decide (1<=ev/\ev<=6)&&decide (0<=at_/\at_<=ev-1))=decide (bad=0):=by
 have hlo:=M.lo;have hhi:=M.hi;obtain⟨z,e4,hz⟩:=Zgk (a:=Za 1) (b:=eOp modD (eOp ixD (Za 2) (eC (.int 1))) (eCB lenD (Zb (Za 1) eNil))) (δ:=[some (.str own),some (.str ms),some (CL c0 c1 c2 c3 c4),some (.int bad),none,none,none,none]) (ms:=ms) (i:=c1) (m:=ms.length) rfl (Z4 rfl ((Y9 (Zg rfl nil_of)).trans (len_str (by omega))) (by omega)) rfl (by omega) (by omega);have h9:1<=1+c2 % 6/\1+c2 % 6<=6:=by omega
 have e5:eOp addD (eC (.int 1)) (eOp modD (eOp ixD (Za 2) (eC (.int 2))) (eC (.int 6))) [some (.str own),some (.str ms),some (CL c0 c1 c2 c3 c4),some (.int bad),some (.str [z]),none,none,none]=some (.int (1+c2 % 6)):=(ZA rfl (Z4 rfl rfl (by decide))).trans rfl;generalize 1+c2 % 6=ev at h9 e5;have hm9:0<=c3 % ev/\c3 % ev<ev:=⟨Int.emod_nonneg _ (by omega),Int.emod_lt_of_pos _ (by omega)⟩
 have e6:eOp modD (eOp ixD (Za 2) (eC (.int 3))) (Za 5) [some (.str own),some (.str ms),some (CL c0 c1 c2 c3 c4),some (.int bad),some (.str [z]),some (.int ev),none,none]=some (.int (c3 % ev)):=Z4 rfl rfl (by omega);generalize c3 % ev=at_ at hm9 e6;rcases(show bad=0\/bad=1\/bad=2\/bad=3 by omega)with rfl|rfl|rfl|rfl
 · refine⟨[z],ev,at_,(show 1<=4 by decide),Xk rfl ((Zl (Zz (Zm e4))).trans ((Zl (Zz (Zm e5))).trans ((Zl (Zz (Zm e6))).trans ((Zl (Z5 rfl (by decide))).trans ((Zl (Z5 rfl (by decide))).trans ((Zl (Z5 rfl (by decide))).trans rfl)))))) (Zg rfl (Zg rfl (Zg rfl (Zg rfl nil_of)))) rfl,?_⟩
   rw [Zb6 hz,decide_eq_true h9,decide_eq_true (show 0<=at_/\at_<=ev-1 by omega)];rfl
 · obtain⟨s,e7,hs⟩:=Zau M (c1 / 5)
   obtain⟨_,e8,mk,rfl,hk,hmk⟩:=ZcJ M (δ:=[some (.str own),some (.str ms),some (CL c0 c1 c2 c3 c4),some (.int 1),some (.str [z]),some (.int ev),some (.int at_),some (.str [s])]) (a:=Za 7) (b:=eOp modD (eOp ixD (Za 2) (eC (.int 1))) (eC (.int 5))) (c:=c1) rfl rfl hs (Z4 rfl rfl (by decide));refine⟨mk,ev,at_,hk,Xk rfl ((Zl (Zz (Zm e4))).trans ((Zl (Zz (Zm e5))).trans ((Zl (Zz (Zm e6))).trans ((Zl (Vf rfl rfl ((ZE (Zm ((YY (Zg rfl (Zg (XB rfl (by decide) (by decide)) nil_of)) rfl).trans e7))).trans (Zm e8)))).trans ((Zl (Z5 rfl (by decide))).trans ((Zl (Z5 rfl (by decide))).trans rfl)))))) (Zg rfl (Zg rfl (Zg rfl (Zg rfl nil_of)))) rfl,?_⟩
   rw [hmk];rfl
 · obtain⟨v,e7,hv⟩:=U0 c2 1 6 (by decide)
   refine⟨[z],v,0,(show 1<=4 by decide),Xk rfl ((Zl (Zz (Zm e4))).trans ((Zl (Zz (Zm e5))).trans ((Zl (Zz (Zm e6))).trans ((Zl (Z5 rfl (by decide))).trans ((Zl (Vf rfl rfl ((ZE (Zm ((YY (Zg rfl (Zg rfl (Zg rfl nil_of))) rfl).trans e7))).trans (Zm rfl)))).trans ((Zl (Z5 rfl (by decide))).trans rfl)))))) (Zg rfl (Zg rfl (Zg rfl (Zg rfl nil_of)))) rfl,?_⟩;rw [decide_eq_false (show ¬(1<=v/\v<=6) by omega),Bool.and_false]
   rfl
 · obtain⟨v,e7,hv⟩:=U0 c3 0 (ev-1) (by omega)
   refine⟨[z],ev,v,(show 1<=4 by decide),Xk rfl ((Zl (Zz (Zm e4))).trans ((Zl (Zz (Zm e5))).trans ((Zl (Zz (Zm e6))).trans ((Zl (Z5 rfl (by decide))).trans ((Zl (Z5 rfl (by decide))).trans ((Zl (Vf rfl rfl (Zm ((YY (Zg rfl (Zg rfl (Zg rfl nil_of))) rfl).trans e7)))).trans rfl)))))) (Zg rfl (Zg rfl (Zg rfl (Zg rfl nil_of)))) rfl,?_⟩;rw [decide_eq_false (show ¬(0<=v/\v<=ev-1) by omega),Bool.and_false]
   rfl
def pw7(k:Nat):Int:=[1,7,49,343].getD k 1
theorem Js{ε:DL.Env->Option D}{δ0:DL.Env}(P:D->Prop):∀(n:Nat)(xs:List Nat),(∀k∈xs,k<n)->(∀k,k<n->∃δ1,ZR 0 (.int (k:Nat)) δ0=some δ1/\∃d,ε δ1=some d/\P d)->∃ds,YZ (ZR 0) (λ_=>some true) ε δ0 (xs.map λk => .int (k:Nat))=some ds/\ds.length=xs.length/\∀d∈ds,P d
 |n,[],_,_=>⟨[],rfl,rfl,λ_ h=>nomatch h⟩
 |n,k::xs,hx,h=>by
  obtain⟨δ1,h1,d,h2,h3⟩:=h k (hx k List.mem_cons_self);obtain⟨ds,h4,h5,h6⟩:=Js P n xs (λj hj=>hx j (List.mem_cons_of_mem _ hj)) h;refine⟨d::ds,?_,by rw [List.length_cons,List.length_cons,h5],λx hx => ?_⟩
  · rw [List.map_cons]
    show(match ZR 0 (D.int (k:Nat)) δ0 with|none=>none|some δ1=>match ε δ1 with|none=>none|some d=>match YZ (ZR 0) (λ_=>some true) ε δ0 (xs.map λk=>D.int (k:Nat))with|none=>none|some ds=>some (d::ds))=_;rw [h1];dsimp only;rw [h2,h4]
  · rcases List.mem_cons.mp hx with rfl|hx
    · exact h3
    · exact h6 x hx
theorem Jt(n:Nat):YT 0 1 n=(List.range n).map λk => .int (k:Nat):=by
 unfold YT;refine List.map_congr_left λk _ => ?_
 congr 1
 omega
theorem ZdR{P:Int->Prop}:∀{ds:List D},(∀d∈ds,∃v,d = .int v/\P v)->∃ws:List Int,ds=ws.map D.int/\∀v∈ws,P v
 | [],_=>⟨[],rfl,λ_ h=>nomatch h⟩
 |d::ds,h=>by
  obtain⟨v,rfl,hv⟩:=h d List.mem_cons_self;obtain⟨ws,rfl,hw⟩:=ZdR λx hx=>h x (List.mem_cons_of_mem _ hx)
  refine⟨v::ws,rfl,λx hx => ?_⟩;rcases List.mem_cons.mp hx with rfl|hx
  · exact hv
  · exact hw x hx
noncomputable def wE:DL.Env->Option D:=YN (YQ (Zb (eCB lenD (Zb (Za 1) eNil)) eNil)) (ZR 0) (λ_=>some true) (eOp subD (eOp modD (eOp fdivD (eOp ixD (Za 1) (eC (.int 1))) (eOp ixD (Zp (Zb (eC (.int 1)) (Zb (eC (.int 7)) (Zb (eC (.int 49)) (Zb (eC (.int 343)) eNil))))) (Za 0))) (eC (.int 7))) (eC (.int 3))) 1 [2]
theorem Zey{own ms:List Nat}(M:Ms ms)(c0 c1 c2 c3 c4 bad:Int):∃ws:List Int,wE [some (.str own),some (.str ms),some (CL c0 c1 c2 c3 c4),some (.int bad),none,none,none,none]=some (.lst (ws.map D.int))/\ws.length=ms.length/\∀v∈ws,-3<=v/\v<=3:=by
 have hlo:=M.lo;have hhi:=M.hi
 obtain⟨ds,h1,h2,h3⟩:=Js (ε:=eOp subD (eOp modD (eOp fdivD (eOp ixD (Za 1) (eC (.int 1))) (eOp ixD (Zp (Zb (eC (.int 1)) (Zb (eC (.int 7)) (Zb (eC (.int 49)) (Zb (eC (.int 343)) eNil))))) (Za 0))) (eC (.int 7))) (eC (.int 3))) (δ0:=[none,some (CL c0 c1 c2 c3 c4)]) (λd=>∃v,d = .int v/\(-3<=v/\v<=3)) 4 (List.range ms.length) (λk hk=>by have:=List.mem_range.mp hk;omega) (λk hk=>by
  refine⟨_,rfl,.int (c1 / pw7 k % 7-3),?_,_,rfl,by omega⟩;rcases(show k=0\/k=1\/k=2\/k=3 by omega)with rfl|rfl|rfl|rfl
  all_goals exact(ZA (Z4 (i:=_) ((ZA rfl ((ZA (Yl (Zg rfl (Zg rfl (Zg rfl (Zg rfl nil_of)))) (show 4<=1000 by decide)) rfl).trans rfl)).trans (ZaK (Zat (by decide) (by decide)))) rfl (by decide)) rfl).trans rfl)
 obtain⟨ws,rfl,hw⟩:=ZdR h3;refine⟨ws,?_,by rw [List.length_map,List.length_range]at h2;exact h2,hw⟩
 have hr:YQ (Zb (eCB lenD (Zb (Za 1) eNil)) eNil) [some (.str own),some (.str ms),some (CL c0 c1 c2 c3 c4),some (.int bad),none,none,none,none]=some ((List.range ms.length).map λk => .int (k:Nat)):=by
  rw [<-Jt];refine(Qx (j:=ms.length) (Zg ((Y9 (Zg rfl nil_of)).trans (len_str (by omega))) nil_of) (by omega) (by omega)).trans ?_;rw [Int.toNat_natCast]
 exact Vl hr rfl h1 (by rw [h2,List.length_range];omega)
end K05
namespace K05
open DL L2
theorem Zg3{i j:Nat}{κ ε:DL.Env->Option D}{δ:DL.Env}{d:D}{xs:List D}{k:Int}(h1:ε δ=some d)(h2:Za i δ=some (.lst xs))(h3:κ δ=some (.int k))(h4:ixN xs.length k=some j):Qp i κ ε δ=some (.nx (δ.set i (some (.lst (xs.set j d))))):=by
 unfold Qp;rw [h1];dsimp only;rw [h2];dsimp only;rw [h3];dsimp only;rw [h4]
theorem Zfv(ws:List Int):Vh [.lst (ws.map D.int)]=some (.tup (ws.map D.int)):=rfl
theorem Zg4{own ms:List Nat}(M:Ms ms)(c0 c1 c2 c3 c4 bad:Int)(hb:0<=bad/\bad<=4):∃(ws:List Int) (lo hi:Int),ws.length<=5/\Je [.str own,.str ms,CL c0 c1 c2 c3 c4,.int bad]=Up [.obj "Sum" [] [],.str own,.tup (ws.map D.int),.int lo,.int hi] /\
 (decide (ws.length=ms.length)&&(ws.all (λv=>decide (-3<=v/\v<=3))&&(decide (-8<=lo/\lo<=0)&&decide (0<=hi/\hi<=8))))=decide (bad=0):=by
 have hlo:=M.lo;have hhi:=M.hi;obtain⟨ws,e4,hl,hw⟩:=Zey (own:=own) M c0 c1 c2 c3 c4 bad;have h5 : -8 <= -(c2 % 9) /\ -(c2 % 9)<=0:=by omega
 have e5:eUn ZX (eOp modD (eOp ixD (Za 2) (eC (.int 2))) (eC (.int 9))) [some (.str own),some (.str ms),some (CL c0 c1 c2 c3 c4),some (.int bad),some (.lst (ws.map D.int)),none,none,none]=some (.int (-(c2 % 9))):=by
  unfold eUn;rw [Z4 (i:=c2) (j:=9) rfl rfl (by decide)];rfl
 generalize -(c2 % 9)=lo at h5 e5;have h6:0<=c3 % 9/\c3 % 9<=8:=by omega
 have e6:eOp modD (eOp ixD (Za 2) (eC (.int 3))) (eC (.int 9)) [some (.str own),some (.str ms),some (CL c0 c1 c2 c3 c4),some (.int bad),some (.lst (ws.map D.int)),some (.int lo),none,none]=some (.int (c3 % 9)):=Z4 rfl rfl (by decide);generalize c3 % 9=hi at h6 e6;have hall:ws.all (λv=>decide (-3<=v/\v<=3))=true:=List.all_eq_true.mpr λv hv=>decide_eq_true (hw v hv)
 have fin:∀{ws:List Int}{lo hi bad:Int}{x7:Option D},Zb (Za 0) (Zb (eCB Vh (Zb (Za 4) eNil)) (Zb (Za 5) (Zb (Za 6) eNil))) [some (.str own),some (.str ms),some (CL c0 c1 c2 c3 c4),some (.int bad),some (.lst (ws.map D.int)),some (.int lo),some (.int hi),x7]=some [.str own,.tup (ws.map D.int),.int lo,.int hi]:=λ{ws lo hi bad x7}=>
  Zg rfl (Zg ((Y9 (Zg rfl nil_of)).trans (Zfv _)) (Zg rfl (Zg rfl nil_of)))
 rcases(show bad=0\/bad=1\/bad=2\/bad=3\/bad=4 by omega)with rfl|rfl|rfl|rfl|rfl
 · refine⟨ws,lo,hi,by omega,Xk rfl ((Zl (Zz (Zm e4))).trans ((Zl (Zz (Zm e5))).trans ((Zl (Zz (Zm e6))).trans ((Zl (Z5 rfl (by decide))).trans ((Zl (Z5 rfl (by decide))).trans ((Zl (Z5 rfl (by decide))).trans ((Zl (Z5 rfl (by decide))).trans rfl))))))) fin rfl,?_⟩
   rw [hall,decide_eq_true hl,decide_eq_true h5,decide_eq_true h6];rfl
 · obtain⟨v,e7,hv⟩:=U0 c2 (-3) 3 (by decide)
   obtain⟨j,hj,hjl⟩:=Zb4 (c3 / 9) (m:=ws.length) (by omega)
   have e8:eOp modD (eOp fdivD (eOp ixD (Za 2) (eC (.int 3))) (eC (.int 9))) (eCB lenD (Zb (Za 4) eNil)) [some (.str own),some (.str ms),some (CL c0 c1 c2 c3 c4),some (.int 1),some (.lst (ws.map D.int)),some (.int lo),some (.int hi),none]=some (.int (j:Nat)):=by
    rw [<-hj];exact Z4 (XB rfl (by decide) (by decide)) ((Y9 (Zg rfl nil_of)).trans (by show some (D.int ((ws.map D.int).length:Nat))=_;rw [List.length_map])) (by omega)
   have e9:Qp 4 (Za 7) (Zs 3 Vd [] (Zb (eOp ixD (Za 2) (eC (.int 2))) (Zb (eUn ZX (eC (.int 3))) (Zb (eC (.int 3)) eNil)))) [some (.str own),some (.str ms),some (CL c0 c1 c2 c3 c4),some (.int 1),some (.lst (ws.map D.int)),some (.int lo),some (.int hi),some (.int (j:Nat))]=some (.nx [some (.str own),some (.str ms),some (CL c0 c1 c2 c3 c4),some (.int 1),some (.lst ((ws.set j v).map D.int)),some (.int lo),some (.int hi),some (.int (j:Nat))]):=by
    rw [List.map_set];exact Zg3 ((YY (Zg rfl (Zg rfl (Zg rfl nil_of))) rfl).trans e7) rfl rfl (ZgU (by rw [List.length_map];exact hjl))
   refine⟨ws.set j v,lo,hi,by rw [List.length_set];omega,Xk rfl ((Zl (Zz (Zm e4))).trans ((Zl (Zz (Zm e5))).trans ((Zl (Zz (Zm e6))).trans ((Zl (Vf rfl rfl ((ZE (Zm e8)).trans e9))).trans ((Zl (Z5 rfl (by decide))).trans ((Zl (Z5 rfl (by decide))).trans ((Zl (Z5 rfl (by decide))).trans rfl))))))) fin rfl,?_⟩
   have:(ws.set j v).all (λv=>decide (-3<=v/\v<=3))=false:=by
    rw [List.all_eq_false];exact⟨v,List.mem_of_getElem? (List.getElem?_set_self hjl),by rw [decide_eq_false (by omega)];decide⟩
   rw [this,Bool.false_and,Bool.and_false];rfl
 · obtain⟨v,e7,hv⟩:=U0 (c3 / 9) (-8) 0 (by decide)
   refine⟨ws,v,hi,by omega,Xk rfl ((Zl (Zz (Zm e4))).trans ((Zl (Zz (Zm e5))).trans ((Zl (Zz (Zm e6))).trans ((Zl (Z5 rfl (by decide))).trans ((Zl (Vf rfl rfl (Zm ((YY (Zg (XB rfl (by decide) (by decide)) (Zg rfl (Zg rfl nil_of))) rfl).trans e7)))).trans ((Zl (Z5 rfl (by decide))).trans ((Zl (Z5 rfl (by decide))).trans rfl))))))) fin rfl,?_⟩;rw [decide_eq_false (show ¬(-8<=v/\v<=0) by omega),Bool.false_and,Bool.and_false,Bool.and_false]
   rfl
 · obtain⟨v,e7,hv⟩:=U0 (c2 / 9) 0 8 (by decide)
   refine⟨ws,lo,v,by omega,Xk rfl ((Zl (Zz (Zm e4))).trans ((Zl (Zz (Zm e5))).trans ((Zl (Zz (Zm e6))).trans ((Zl (Z5 rfl (by decide))).trans ((Zl (Z5 rfl (by decide))).trans ((Zl (Vf rfl rfl (Zm ((YY (Zg (XB rfl (by decide) (by decide)) (Zg rfl (Zg rfl nil_of))) rfl).trans e7)))).trans ((Zl (Z5 rfl (by decide))).trans rfl))))))) fin rfl,?_⟩;rw [decide_eq_false (show ¬(0<=v/\v<=8) by omega),Bool.and_false,Bool.and_false,Bool.and_false]
   rfl
 · have e7 : ∃ x, eOp ixD (Zp (Zb (eOp Vj (Za 4) (Zp (Zb (eC (.int 0)) eNil))) (Zb (eSl (Za 4) (xP (eC (.int 1))) xNoP) (Zb (Zp eNil) eNil)))) (eOp modD (eOp ixD (Za 2) (eC (.int 3))) (eC (.int 3))) [some (.str own), some (.str ms), some (CL c0 c1 c2 c3 c4), some (.int 4), some (.lst (ws.map D.int)), some (.int lo), some (.int hi), none] = some x /\ ∃ us : List Int, x = .lst (us.map D.int) /\ us.length <= 5 /\ us.length ≠ ms.length := by
    have s1:eSl (Za 4) (xP (eC (.int 1))) xNoP [some (.str own),some (.str ms),some (CL c0 c1 c2 c3 c4),some (.int 4),some (.lst (ws.map D.int)),some (.int lo),some (.int hi),none]=some (.lst ((cutL ws (some 1) none).map D.int)):=by
     rw [<-ZgY];rfl
    have s2:(cutL ws (some 1) none).length=ws.length-1:=by
     unfold cutL YR;rw [List.length_take,List.length_drop];simp;omega
    refine Vx (xs:=[.lst (ws.map D.int++[.int 0]),.lst ((cutL ws (some 1) none).map D.int),.lst []]) (i:=c3) (m:=3) (Yl (Zg (Jr rfl (Yl (Zg rfl nil_of) (show 1<=1000 by decide)) (by rw [List.length_map,List.length_singleton];omega)) (Zg s1 (Zg (Yl nil_of (show 0<=1000 by decide)) nil_of))) (show 3<=1000 by decide)) (Z4 rfl rfl (by decide)) rfl (by decide) λx hx => ?_
    simp only [List.mem_cons,List.mem_nil_iff,or_false]at hx;rcases hx with rfl|rfl|rfl
    · exact⟨ws++[0],by rw [List.map_append];rfl,by rw [List.length_append,List.length_singleton];omega,by rw [List.length_append,List.length_singleton];omega⟩
    · exact⟨_,rfl,by omega,by omega⟩
    · exact⟨[],rfl,by decide,by rw [List.length_nil];omega⟩
   obtain⟨_,e7,us,rfl,hu,hne⟩:=e7;refine⟨us,lo,hi,hu,Xk rfl ((Zl (Zz (Zm e4))).trans ((Zl (Zz (Zm e5))).trans ((Zl (Zz (Zm e6))).trans ((Zl (Z5 rfl (by decide))).trans ((Zl (Z5 rfl (by decide))).trans ((Zl (Z5 rfl (by decide))).trans ((Zl (Vf rfl rfl (Zm e7))).trans rfl))))))) fin rfl,?_⟩;rw [decide_eq_false hne,Bool.false_and];rfl
end K05
namespace K05
open DL L2
theorem Zba{bad:Int}{φ:DL.Env->Option Out}{δ:DL.Env}(h:Za 3 δ=some (.int bad))(hk:bad<=1):rOf (sIf (xB (eOp (ZG λi j=>decide (j<i)) (Za 3) (eC (.int 1)))) φ sNext) δ=some (.ok (.nx δ)):=by
 refine Zz ((Vk ?_).trans rfl);rw [Y8 (b:=decide (1<bad)) ((ZA h rfl).trans rfl),decide_eq_false (by omega)]
theorem ZdS{bad:Int}{φ:DL.Env->Option Out}{δ:DL.Env}{o:Out}(h:Za 3 δ=some (.int bad))(hk:1<bad)(h2:φ δ=some o):rOf (sIf (xB (eOp (ZG λi j=>decide (j<i)) (Za 3) (eC (.int 1)))) φ sNext) δ=some (.ok o):=by
 refine Zz ((Q6 ?_).trans h2);rw [Y8 (b:=decide (1<bad)) ((ZA h rfl).trans rfl),decide_eq_true hk]
theorem strs_of{P:Nat->Prop}:∀{ds:List D},(∀d∈ds,∃z,d = .str [z]/\P z)->∃zs:List Nat,ds=zs.map (λz => .str [z])/\∀z∈zs,P z
 | [],_=>⟨[],rfl,λ_ h=>nomatch h⟩
 |d::ds,h=>by
  obtain⟨v,rfl,hv⟩:=h d List.mem_cons_self;obtain⟨ws,rfl,hw⟩:=strs_of λx hx=>h x (List.mem_cons_of_mem _ hx)
  refine⟨v::ws,rfl,λx hx => ?_⟩;rcases List.mem_cons.mp hx with rfl|hx
  · exact hv
  · exact hw x hx
theorem Zfw{α:Type}(r:List α)(j:Nat)(h:j<=r.length):cutL r (some (j:Int)) none=r.drop j:=by
 unfold cutL YR;have e:¬((j:Int)<0):=by omega
 have e2:((j:Int)).toNat=j:=by omega
 simp only [e,if_false,e2,Nat.min_eq_left h];exact List.take_of_length_le (by rw [List.length_drop];omega)
theorem Zil{a b:DL.Env->Option D}{δ:DL.Env}{w:List Nat}{n:Nat}(h:a δ=some (.str w))(hb:b δ=some (.int (n:Nat)))(hl:w.length<=1000):eSl a xNoP (xP b) δ=some (.str (w.take n)):=by
 unfold eSl xP;rw [h,hb];show(if w.length<=PySem.sizeLine then some (D.str (cutL w none (some (n:Int))))else none)=_;rw [if_pos (by rw [PySem.sizeLine_eq];omega),Za9]
theorem Zg5{a b:DL.Env->Option D}{δ:DL.Env}{w:List Nat}{n:Nat}{k:Int}(h:a δ=some (.str w))(hb:b δ=some (.int k))(hk:k=(n:Nat))(hn:n<=w.length)(hl:w.length<=1000):eSl a (xP b) xNoP δ=some (.str (w.drop n)):=by
 subst hk;unfold eSl xP;rw [h,hb];show(if w.length<=PySem.sizeLine then some (D.str (cutL w (some (n:Int)) none))else none)=_;rw [if_pos (by rw [PySem.sizeLine_eq];omega),Zfw w n hn]
noncomputable def vE:DL.Env->Option D:=YN (YQ (Zb (eOp addD (eC (.int 1)) (eOp modD (eOp ixD (Za 2) (eC (.int 2))) (eC (.int 6)))) eNil)) (ZR 0) (λ_=>some true) (eOp ixD (Za 1) (eOp modD (eOp fdivD (eOp ixD (Za 2) (eC (.int 1))) (eOp ixD (Zp (Zb (eC (.int 1)) (Zb (eC (.int 2)) (Zb (eC (.int 5)) (Zb (eC (.int 9)) (Zb (eC (.int 14)) (Zb (eC (.int 22)) eNil))))))) (Za 0))) (eCB lenD (Zb (Za 1) eNil)))) 1 [1,2]
theorem Zg6{own ms:List Nat}(M:Ms ms)(c0 c1 c2 c3 c4 bad:Int):∃wd:List Nat,eBM joinD (eC (.str [])) (Zb vE eNil) [some (.str own),some (.str ms),some (CL c0 c1 c2 c3 c4),some (.int bad),none,none]=some (.str wd)/\(1<=wd.length/\wd.length<=6)/\∀z∈wd,z∈ms:=by
 have hlo:=M.lo;have hhi:=M.hi;have hc:∃n:Nat,1+c2 % 6=(n:Int)/\1<=n/\n<=6:=⟨(1+c2 % 6).toNat,by omega,by omega,by omega⟩
 obtain⟨n,hn,h1n,h6n⟩:=hc
 obtain⟨ds,h1,h2,h3⟩:=Js (ε:=eOp ixD (Za 1) (eOp modD (eOp fdivD (eOp ixD (Za 2) (eC (.int 1))) (eOp ixD (Zp (Zb (eC (.int 1)) (Zb (eC (.int 2)) (Zb (eC (.int 5)) (Zb (eC (.int 9)) (Zb (eC (.int 14)) (Zb (eC (.int 22)) eNil))))))) (Za 0))) (eCB lenD (Zb (Za 1) eNil)))) (δ0:=[none,some (.str ms),some (CL c0 c1 c2 c3 c4)]) (λd=>∃z,d = .str [z]/\z∈ms) 6 (List.range n) (λk hk=>by have:=List.mem_range.mp hk;omega) (λk hk=>by
  refine⟨_,rfl,?_⟩
  have hp:∃p:Int,0<p/\p<1000000/\eOp ixD (Zp (Zb (eC (.int 1)) (Zb (eC (.int 2)) (Zb (eC (.int 5)) (Zb (eC (.int 9)) (Zb (eC (.int 14)) (Zb (eC (.int 22)) eNil))))))) (Za 0) [some (D.int (k:Nat)),some (.str ms),some (CL c0 c1 c2 c3 c4)]=some (.int p):=by
   have hl:Zp (Zb (eC (.int 1)) (Zb (eC (.int 2)) (Zb (eC (.int 5)) (Zb (eC (.int 9)) (Zb (eC (.int 14)) (Zb (eC (.int 22)) eNil)))))) [some (D.int (k:Nat)),some (.str ms),some (CL c0 c1 c2 c3 c4)]=some (.lst ([1,2,5,9,14,22].map D.int)):=Yl (Zg rfl (Zg rfl (Zg rfl (Zg rfl (Zg rfl (Zg rfl nil_of)))))) (show 6<=1000 by decide);refine⟨[1,2,5,9,14,22].getD k 0,?_,?_,(ZA hl rfl).trans (ZgV (cs:=[1,2,5,9,14,22]) hk)⟩
   all_goals rcases(show k=0\/k=1\/k=2\/k=3\/k=4\/k=5 by omega)with rfl|rfl|rfl|rfl|rfl|rfl<;>decide
  obtain⟨p,p0,p1,e⟩:=hp;obtain⟨z,e2,hz⟩:=Zgk (a:=Za 1) (b:=eOp modD (eOp fdivD (eOp ixD (Za 2) (eC (.int 1))) (eOp ixD (Zp (Zb (eC (.int 1)) (Zb (eC (.int 2)) (Zb (eC (.int 5)) (Zb (eC (.int 9)) (Zb (eC (.int 14)) (Zb (eC (.int 22)) eNil))))))) (Za 0))) (eCB lenD (Zb (Za 1) eNil))) (δ:=[some (D.int (k:Nat)),some (.str ms),some (CL c0 c1 c2 c3 c4)]) (ms:=ms) (i:=c1 / p) (m:=ms.length) rfl (Z4 ((ZA rfl e).trans (ZaK (Zat p0 p1))) ((Y9 (Zg rfl nil_of)).trans (len_str (by omega))) (by omega)) rfl (by omega) (by omega)
  exact⟨_,e2,z,rfl,hz⟩)
 obtain⟨zs,rfl,hz⟩:=strs_of h3;rw [List.length_map,List.length_range]at h2
 have hr:YQ (Zb (eOp addD (eC (.int 1)) (eOp modD (eOp ixD (Za 2) (eC (.int 2))) (eC (.int 6)))) eNil) [some (.str own),some (.str ms),some (CL c0 c1 c2 c3 c4),some (.int bad),none,none]=some ((List.range n).map λk => .int (k:Nat)):=by
  rw [<-Jt];refine(Qx (j:=n) (Zg ((ZA rfl (Z4 rfl rfl (by decide))).trans (by rw [<-hn];rfl)) nil_of) (by omega) (by omega)).trans ?_;rw [Int.toNat_natCast]
 refine⟨zs,?_,by omega,hz⟩;have hj:=ZaJ id zs (by rw [PySem.sizeLine_eq];omega);rw [List.map_id]at hj;exact(Zht rfl (Zg (Vl hr rfl h1 (by rw [List.length_map];omega)) nil_of)).trans hj
theorem ZdT{m:Nat}{a b:DL.Env->Option D}{δ:DL.Env}{k:Int}{n:Nat}(h1:a δ=some (.str [m]))(h2:b δ=some (.int k))(hk:k=(n:Nat))(hn:n<=100):∃w,eOp mulD a b δ=some (.str w)/\w.length=n:=by
 have ht:k.toNat=n:=by omega
 refine⟨UC [m] k,(ZA h1 h2).trans (if_pos ⟨by omega,by omega,?_⟩),?_⟩
 · unfold UC
   rw [ht,List.length_flatten,List.map_replicate,List.length_singleton,List.sum_replicate_nat];omega
 · rw [PySem.sizeLine_eq,List.length_singleton]
   omega
theorem Zfx{own ms:List Nat}(M:Ms ms)(c0 c1 c2 c3 c4 bad:Int)(hb:0<=bad/\bad<=3):∃wd:List Nat,wd.length<=40/\Jd [.str own,.str ms,CL c0 c1 c2 c3 c4,.int bad]=Uo [.obj "Never" [] [],.str own,.str wd] /\
 (decide (1<=wd.length/\wd.length<=6)&&wd.all (λc=>decide (c∈ms)))=decide (bad=0):=by
 have hlo:=M.lo;have hhi:=M.hi;obtain⟨wd,e4,hl,hw⟩:=Zg6 (own:=own) M c0 c1 c2 c3 c4 bad;rcases(show bad=0\/bad=1\/1<bad by omega)with rfl|rfl|hb1
 · refine⟨wd,by omega,Xk rfl ((Zl (Zz (Zm e4))).trans ((Zl (Z5 rfl (by decide))).trans ((Zl (Zba rfl (by decide))).trans rfl))) (Zg rfl (Zg rfl nil_of)) rfl,?_⟩
   rw [decide_eq_true hl,List.all_eq_true.mpr λz hz=>decide_eq_true (hw z hz)];rfl
 · obtain ⟨m, r, rfl⟩ : ∃ m r, ms = m :: r := by
    cases ms with
    |nil=>exact absurd hlo (by decide)
    |cons m r=>exact⟨m,r,rfl⟩
   have s0:eOp ixD (Za 1) (eC (.int 0)) [some (.str own),some (.str (m::r)),some (CL c0 c1 c2 c3 c4),some (.int 1),some (.str wd),none]=some (.str [m]):=(ZA rfl rfl).trans (ix_str (cs:=m::r) (a:=0) rfl (by omega));obtain⟨w7,s7,l7⟩:=ZdT (n:=7) (b:=eC (.int 7)) s0 rfl rfl (by decide);obtain⟨w40,s40,l40⟩:=ZdT (n:=40) (b:=eC (.int 40)) s0 rfl rfl (by decide)
   have e7:∃x,eOp ixD (Zp (Zb (eC (.str [])) (Zb (eOp mulD (eOp ixD (Za 1) (eC (.int 0))) (eC (.int 7))) (Zb (eOp mulD (eOp ixD (Za 1) (eC (.int 0))) (eC (.int 40))) eNil)))) (eOp modD (eOp ixD (Za 2) (eC (.int 2))) (eC (.int 3))) [some (.str own),some (.str (m::r)),some (CL c0 c1 c2 c3 c4),some (.int 1),some (.str wd),none]=some x/\∃u:List Nat,x = .str u/\u.length<=40/\¬(1<=u.length/\u.length<=6):=by
    refine Vx (xs:=[.str [],.str w7,.str w40]) (i:=c2) (m:=3) (Yl (Zg rfl (Zg s7 (Zg s40 nil_of))) (show 3<=1000 by decide)) (Z4 rfl rfl (by decide)) rfl (by decide) λx hx => ?_
    simp only [List.mem_cons,List.mem_nil_iff,or_false]at hx;rcases hx with rfl|rfl|rfl
    · exact⟨_,rfl,by decide,by decide⟩
    · exact⟨_,rfl,by omega,by omega⟩
    · exact⟨_,rfl,by omega,by omega⟩
   obtain⟨_,e7,u,rfl,hu,hn⟩:=e7;refine⟨u,hu,Xk rfl ((Zl (Zz (Zm e4))).trans ((Zl (Vf rfl rfl (Zm e7))).trans ((Zl (Zba rfl (by decide))).trans rfl))) (Zg rfl (Zg rfl nil_of)) rfl,?_⟩;rw [decide_eq_false hn,Bool.false_and];rfl
 · obtain⟨s,e7,hs⟩:=Zau M (c2 / 6)
   obtain⟨j,hj,hjl⟩:=Zb4 c3 (m:=wd.length) (by omega)
   have e5:eOp modD (eOp ixD (Za 2) (eC (.int 3))) (eCB lenD (Zb (Za 4) eNil)) [some (.str own),some (.str ms),some (CL c0 c1 c2 c3 c4),some (.int bad),some (.str wd),none]=some (.int (j:Nat)):=by
    rw [<-hj];exact Z4 rfl ((Y9 (Zg rfl nil_of)).trans (len_str (by omega))) (by omega)
   have e6:eOp addD (eOp addD (eSl (Za 4) xNoP (xP (Za 5))) (Zs 2 QA [] (Zb (Za 1) (Zb (eOp fdivD (eOp ixD (Za 2) (eC (.int 2))) (eC (.int 6))) eNil)))) (eSl (Za 4) (xP (eOp addD (Za 5) (eC (.int 1)))) xNoP) [some (.str own),some (.str ms),some (CL c0 c1 c2 c3 c4),some (.int bad),some (.str wd),some (.int (j:Nat))]=some (.str (wd.take j++[s]++wd.drop (j+1))):=by
    refine Zcg (Zcg (Zil rfl rfl (by omega)) ((YY (Zg rfl (Zg (XB rfl (by decide) (by decide)) nil_of)) rfl).trans e7) ?_) (Zg5 (n:=j+1) rfl rfl rfl (by omega) (by omega)) ?_
    · rw [List.length_take,List.length_singleton];omega
    · rw [List.length_append,List.length_take,List.length_singleton,List.length_drop];omega
   refine⟨wd.take j++[s]++wd.drop (j+1),?_,Xk rfl ((Zl (Zz (Zm e4))).trans ((Zl (Z5 rfl (by omega))).trans ((Zl (ZdS rfl hb1 ((ZE (Zm e5)).trans (Zm e6)))).trans rfl))) (Zg rfl (Zg rfl nil_of)) rfl,?_⟩
   · rw [List.length_append,List.length_append,List.length_take,List.length_singleton,List.length_drop];omega
   · have : (wd.take j ++ [s] ++ wd.drop (j + 1)).all (fun c => decide (c ∈ ms)) = false := by
      rw [List.all_eq_false];exact⟨s,by simp,by rw [decide_eq_false hs];decide⟩
     rw [this,Bool.and_false,decide_eq_false (by omega)]
end K05
namespace K05
open DL L2
structure Gd(ms:List Nat)(r:Ru):Prop where
 ms:r.ms=ms
 cl:fc_marks.contains r.c=true
 nk:("marks" :: r.ks).contains "keeps" = false
 kp:Vm [r.d,.str []]=some (.bl true)
theorem Zim{e:DL.Env->Option D}{δ:DL.Env}{d:D}(h:e δ=some d):Z6 e δ=some (.bl (Z9 d)):=by unfold Z6;rw [h]
theorem QG{m:String}{tab:MTab}{a:DL.Env->Option D}{α:DL.Env->Option (List D)}{δ:DL.Env}{c:String}{ks:List String}{xs ds:List D}{n:Nat}{mm:List D->Option D}(h1:a δ=some (.obj c ks xs))(h2:α δ=some ds)(h3:ks.contains m=false)(h4:tab.lookup c=some (n,mm))(h5:ds.length+1=n):ZQ m tab a α δ=mm (.obj c ks xs::ds):=by
 unfold ZQ;rw [h1];dsimp only;rw [if_neg (by rw [h3];decide),h4];dsimp only;rw [h2];exact if_pos h5
theorem ZdU{m:List D->Option D}{n:Nat}{c:String}(hc:fc_marks.contains c=true):([("Rule",n,m),("Gap",n,m),("Never",n,m),("Sum",n,m),("Turn",n,m),("Alike",n,m),("All",n,m)]:MTab).lookup c=some (n,m):=by
 have hc':c∈fc_marks:=by simpa using hc
 simp only [fc_marks,List.mem_cons,List.mem_nil_iff,or_false]at hc';rcases hc' with rfl|rfl|rfl|rfl|rfl|rfl|rfl<;>rfl
theorem U1 {r:Ru} {s:D} (hc:fc_marks.contains r.c=true) (h1:("marks" :: r.ks).contains "broken_at" = false) (hb:ZQ "begin" ZaM (Za 0) eNil [some r.d,some (.str []),none,none,none]=some s):Vm [r.d,.str []]=some (.bl true):=by
 have e1:V0 [r.d,.str []]=some .non:=XH rfl ((ZE (Zm hb)).trans ((ZE (Zdg (o:=.nx _) rfl rfl)).trans (XR rfl)));have e2:ZQ "broken_at" Zaf (Za 0) (Zb (Za 1) eNil) [some r.d,some (.str [])]=some .non:=(QG (n:=2) rfl (Zg rfl nil_of) h1 (ZdU hc) rfl).trans e1;exact XH rfl (XR (Zim e2))
theorem Ju {c:String} {ks:List String} {xs:List D} {a:DL.Env->Option D} {δ:DL.Env} {tab:MTab} (h1:a δ=some (.obj c ks xs)) (h3:ks.contains "begin" = false) (h4:tab.lookup c=some (1,Vt)):ZQ "begin" tab a eNil δ=some (.int 0):=(QG h1 nil_of h3 h4 rfl).trans rfl
structure Bg(r:Ru):Prop where
 cl:fc_marks.contains r.c=true
 bg:∀(a:DL.Env->Option D)(δ:DL.Env),a δ=some r.d->∃s,ZQ "begin" Zaj a eNil δ=some s
abbrev ruR(ms:List Nat):Ru:=⟨"Rule",ms,[],[]⟩
abbrev ruA(ms:List Nat)(m:Int):Ru:=⟨"Alike",ms,["most"],[.int m]⟩
abbrev ruG(ms mk:List Nat)(lo:Int)(mo:Option Int):Ru:=⟨"Gap",ms,["mark", "least", "most"],[.str mk,.int lo,Vw mo]⟩
abbrev ruN(ms wd:List Nat):Ru:=⟨"Never",ms,["word"],[.str wd]⟩
abbrev ruS(ms:List Nat)(ws:List Int)(lo hi:Int):Ru:=⟨"Sum",ms,["worths", "low", "high"],[.tup (ws.map D.int),.int lo,.int hi]⟩
abbrev ruT(ms mk:List Nat)(ev at_:Int):Ru:=⟨"Turn",ms,["mark", "every", "at"],[.str mk,.int ev,.int at_]⟩
abbrev ruL(ms:List Nat)(rs:List Ru):Ru:=⟨"All",ms,["rules"],[.tup (rs.map Ru.d)]⟩
theorem ZbL {a:DL.Env->Option D} {δ:DL.Env} {tab:MTab} {ms mk:List Nat} {lo:Int} {mo:Option Int} (h:a δ=some (ruG ms mk lo mo).d) (h4:tab.lookup "Gap" = some (1,Ziv)):ZQ "begin" tab a eNil δ=some (.int lo):=(QG h nil_of rfl h4 rfl).trans rfl
theorem ZaR {a:DL.Env->Option D} {δ:DL.Env} {tab:MTab} {ms:List Nat} {m:Int} (h:a δ=some (ruA ms m).d) (h4:tab.lookup "Alike" = some (1,Ziw)):ZQ "begin" tab a eNil δ=some (.tup [.int 0,.int 0]):=(QG h nil_of rfl h4 rfl).trans (XH rfl (XR (Zig (Zg rfl (Zg rfl nil_of)) (by decide))))
theorem gdR(ms:List Nat):Gd ms (ruR ms):=⟨rfl,rfl,rfl,U1 rfl rfl (Ju rfl rfl rfl)⟩
theorem gdA(ms:List Nat)(m:Int):Gd ms (ruA ms m):=⟨rfl,rfl,rfl,U1 rfl rfl (ZaR rfl rfl)⟩
theorem gdG(ms mk:List Nat)(lo:Int)(mo:Option Int):Gd ms (ruG ms mk lo mo):=⟨rfl,rfl,rfl,U1 rfl rfl (ZbL rfl rfl)⟩
theorem gdN(ms wd:List Nat):Gd ms (ruN ms wd):=⟨rfl,rfl,rfl,U1 rfl rfl (Ju rfl rfl rfl)⟩
theorem gdS(ms:List Nat)(ws:List Int)(lo hi:Int):Gd ms (ruS ms ws lo hi):=⟨rfl,rfl,rfl,U1 rfl rfl (Ju rfl rfl rfl)⟩
theorem gdT(ms mk:List Nat)(ev at_:Int):Gd ms (ruT ms mk ev at_):=⟨rfl,rfl,rfl,U1 rfl rfl (Ju rfl rfl rfl)⟩
theorem ZcK{α:Type}{ε:DL.Env->Option D}{δ0:DL.Env}(g:α->D):∀(xs:List α),(∀a∈xs,∃δ1,ZR 0 (g a) δ0=some δ1/\∃d,ε δ1=some d)->∃ds,YZ (ZR 0) (λ_=>some true) ε δ0 (xs.map g)=some ds/\ds.length=xs.length
 | [],_=>⟨[],rfl,rfl⟩
 |a::xs,h=>by
  obtain⟨δ1,h1,d,h2⟩:=h a List.mem_cons_self;obtain⟨ds,h4,h5⟩:=ZcK g xs λb hb=>h b (List.mem_cons_of_mem _ hb)
  refine⟨d::ds,?_,by rw [List.length_cons,List.length_cons,h5]⟩;rw [List.map_cons];show(match ZR 0 (g a) δ0 with|none=>none|some δ1=>match ε δ1 with|none=>none|some d=>match YZ (ZR 0) (λ_=>some true) ε δ0 (xs.map g)with|none=>none|some ds=>some (d::ds))=_;rw [h1];dsimp only;rw [h2,h4]
theorem gdL(ms:List Nat){rs:List Ru}(hl:rs.length<=6)(hr:∀r∈rs,Bg r):Gd ms (ruL ms rs):=by
 obtain⟨ds,h1,h2⟩:=ZcK (ε:=ZQ "begin" Zaj (Za 0) eNil) (δ0:=[none]) Ru.d rs (λr h=>⟨_,rfl,(hr r h).bg _ _ rfl⟩);have e:Zix [(ruL ms rs).d]=some (.tup ds):=XH rfl (XR ((Y9 (Zg (Vl rfl rfl h1 (by omega)) nil_of)).trans rfl));exact⟨rfl,rfl,rfl,U1 (s:=.tup ds) rfl rfl ((QG (mm:=Zix) rfl nil_of rfl rfl rfl).trans e)⟩
theorem bgR(ms:List Nat):Bg (ruR ms):=⟨rfl,λa δ h=>⟨_,Ju h rfl rfl⟩⟩
theorem bgA(ms:List Nat)(m:Int):Bg (ruA ms m):=⟨rfl,λa δ h=>⟨_,ZaR h rfl⟩⟩
theorem bgG(ms mk:List Nat)(lo:Int)(mo:Option Int):Bg (ruG ms mk lo mo):=⟨rfl,λa δ h=>⟨_,ZbL h rfl⟩⟩
end K05
namespace K05
open DL L2
theorem U2{c:String}{n:Nat}{q:List D->Option RD}{dds ds:List D}{α:DL.Env->Option (List D)}{δ:DL.Env}{d:D}(h:α δ=some ds)(hn:(ds++dds).length+1=n)(hq:q (.obj c [] []::(ds++dds))=some (.ok d)):ZK c n (okD q) dds α δ=some d:=by
 unfold ZK;rw [h];dsimp only;rw [if_pos (show(D.obj c [] []::(ds++dds)).length=n from hn)];unfold okD;rw [hq]
theorem Zdi{L:List Ru}:∀{ds:List D},(∀d∈ds,∃r,d=Ru.d r/\r∈L)->∃rs:List Ru,ds=rs.map Ru.d/\∀r∈rs,r∈L
 | [],_=>⟨[],rfl,λ_ h=>nomatch h⟩
 |d::ds,h=>by
  obtain⟨v,rfl,hv⟩:=h d List.mem_cons_self;obtain⟨ws,rfl,hw⟩:=Zdi λx hx=>h x (List.mem_cons_of_mem _ hx)
  refine⟨v::ws,rfl,λx hx => ?_⟩;rcases List.mem_cons.mp hx with rfl|hx
  · exact hv
  · exact hw x hx
theorem Ms.rev{ms:List Nat}(M:Ms ms):Ms ms.reverse:=⟨by rw [List.length_reverse];exact M.lo,by rw [List.length_reverse];exact M.hi,λx hx=>M.sg x (List.mem_reverse.mp hx),List.pairwise_reverse.mpr (M.nd.imp Ne.symm)⟩
theorem Ms.revne{ms:List Nat}(M:Ms ms):ms.reverse≠ms:=by
 have h1:=M.lo;have h2:=M.hi;have h3:=M.nd
 match ms,h1,h2,h3 with
 | [a,b],_,_,h=>intro e;simp at e h;exact h e.2
 | [a,b,c],_,_,h=>intro e;simp at e h;exact h.1.2 e.2
 | [a,b,c,d],_,_,h=>intro e;simp at e h;exact h.1.2.2 e.2.2.2
theorem Zin{ms:List Nat}(M:Ms ms):XI [.obj "Alike" [] [],.str ms,.int 2]=some (.ok (ruA ms 2).d):=(Za4 M 2).trans rfl
theorem ZlA{ms:List Nat}(M:Ms ms){m:Nat}(hm:m∈ms):Xm [.obj "Gap" [] [],.str ms,.str [m],.int 1,.non]=some (.ok (ruG ms [m] 1 none).d):=by
 refine(ZcH M (mk:=[m]) (show 1<=1000 by decide) 1 none).trans ?_;rw [Zb6 hm];rfl
theorem ZlB{ms:List Nat}(M:Ms ms):Vn [.obj "All" [] [],.str ms,.lst []]=some (.ok (ruL ms []).d):=(ZcI (rs:=[]) M (λ_ h=>nomatch h) (show 0<=1000 by decide)).trans rfl
theorem Jv{ms:List Nat}(M:Ms ms):Z2 [.obj "Rule" [] [],.str ms]=some (.ok (ruR ms).d):=UZ M "Rule" rfl
theorem Zg7{own ms:List Nat}(M:Ms ms)(c0 c1 c2 c3 c4 bad:Int)(hb:0<=bad/\bad<=3):∃rs:List Ru,(∀r∈rs,fc_marks.contains r.c=true)/\rs.length<=9/\Jg [.str own,.str ms,CL c0 c1 c2 c3 c4,.int bad]=Vn [.obj "All" [] [],.str own,.lst (rs.map Ru.d)] /\
 (decide (rs.length<=6)&&(!(rs.any λr=>decide (r.c = "All"))&&rs.all λr=>decide (r.ms=ms)))=decide (bad=0)/\(bad=0->∀r∈rs,Bg r):=by
 have hlo:=M.lo;have hhi:=M.hi
 obtain⟨m,r,rfl⟩:∃m r,ms=m::r:=by
  cases ms with
  |nil=>exact absurd hlo (by decide)
  |cons m r=>exact⟨m,r,rfl⟩
 have hm:m∈m::r:=List.mem_cons_self;generalize hL:[ruA (m::r) 2,ruR (m::r),ruG (m::r) [m] 1 none]=L
 have hLb:∀x∈L,Bg x/\x.ms=m::r/\x.c ≠ "All" := by
  subst hL;intro x hx;simp only [List.mem_cons,List.mem_nil_iff,or_false]at hx;rcases hx with rfl|rfl|rfl
  · exact⟨bgA _ _,rfl,show "Alike" ≠ "All" by decide⟩
  · exact⟨bgR _,rfl,show "Rule" ≠ "All" by decide⟩
  · exact⟨bgG _ _ _ _,rfl,show "Gap" ≠ "All" by decide⟩
 have s0:eOp ixD (Za 1) (eC (.int 0)) [some (.str own),some (.str (m::r)),some (CL c0 c1 c2 c3 c4),some (.int bad),none,none,none]=some (.str [m]):=(ZA rfl rfl).trans (ix_str (cs:=m::r) (a:=0) rfl (by omega))
 have e4:Zp (Zb (ZK "Alike" 3 (okD XI) [] (Zb (Za 1) (Zb (eC (.int 2)) eNil))) (Zb (ZK "Rule" 2 (okD Z2) [] (Zb (Za 1) eNil)) (Zb (ZK "Gap" 5 (okD Xm) [.non] (Zb (Za 1) (Zb (eOp ixD (Za 1) (eC (.int 0))) (Zb (eC (.int 1)) eNil)))) eNil))) [some (.str own),some (.str (m::r)),some (CL c0 c1 c2 c3 c4),some (.int bad),none,none,none]=some (.lst (L.map Ru.d)):=by
  subst hL;exact Yl (Zg (U2 (Zg rfl (Zg rfl nil_of)) rfl (Zin M)) (Zg (U2 (Zg rfl nil_of) rfl (Jv M)) (Zg (U2 (Zg rfl (Zg s0 (Zg rfl nil_of))) rfl (ZlA M hm)) nil_of))) (show 3<=1000 by decide)
 have hLl:L.length=3:=by subst hL;rfl
 have hc:∃n:Nat,c2 % 7=(n:Int)/\n<=6:=⟨(c2 % 7).toNat,by omega,by omega⟩
 obtain⟨n,hn,h6n⟩:=hc
 obtain⟨ds,h1,h2,h3⟩:=Js (ε:=eOp ixD (Za 1) (eOp modD (eOp addD (eOp ixD (Za 2) (eC (.int 1))) (Za 0)) (eC (.int 3)))) (δ0:=[none,some (.lst (L.map Ru.d)),some (CL c0 c1 c2 c3 c4)]) (λd=>∃x,d=Ru.d x/\x∈L) 6 (List.range n) (λk hk=>by have:=List.mem_range.mp hk;omega) (λk hk=>by
  refine⟨_,rfl,Vx (xs:=L.map Ru.d) (i:=c1+k) (m:=3) rfl (Z4 rfl rfl (by decide)) (by rw [List.length_map,hLl];rfl) (by decide) λx hx => ?_⟩;obtain⟨y,hy,rfl⟩:=List.mem_map.mp hx;exact⟨y,rfl,hy⟩)
 obtain⟨rs,rfl,hrs⟩:=Zdi h3;rw [List.length_map,List.length_range]at h2
 have e5:YN (YQ (Zb (eOp modD (eOp ixD (Za 2) (eC (.int 2))) (eC (.int 7))) eNil)) (ZR 0) (λ_=>some true) (eOp ixD (Za 1) (eOp modD (eOp addD (eOp ixD (Za 2) (eC (.int 1))) (Za 0)) (eC (.int 3)))) 1 [4,2] [some (.str own),some (.str (m::r)),some (CL c0 c1 c2 c3 c4),some (.int bad),some (.lst (L.map Ru.d)),none,none]=some (.lst (rs.map Ru.d)):=by
  refine Vl ?_ rfl h1 (by rw [List.length_map];omega);rw [<-Jt];refine(Qx (j:=n) (Zg (by rw [<-hn];exact Z4 rfl rfl (by decide)) nil_of) (by omega) (by omega)).trans ?_;rw [Int.toNat_natCast]
 have hany:∀l:List Ru,(∀x∈l,x∈L)->(l.any λr=>decide (r.c = "All"))=false/\(l.all λx=>decide (x.ms=m::r))=true:=λl hl=>by
  refine⟨?_,List.all_eq_true.mpr λx hx=>decide_eq_true (hLb x (hl x hx)).2.1⟩;rw [List.any_eq_false];exact λx hx=>by rw [decide_eq_false (hLb x (hl x hx)).2.2];decide
 rcases(show bad=0\/bad=1\/1<bad by omega)with rfl|rfl|hb1
 · refine⟨rs,λx hx=>(hLb x (hrs x hx)).1.cl,by omega,Xk rfl ((Zl (Zz (Zm e4))).trans ((Zl (Zz (Zm e5))).trans ((Zl (Z5 rfl (by decide))).trans ((Zl (Zba rfl (by decide))).trans rfl)))) (Zg rfl (Zg rfl nil_of)) rfl,?_,λ_ x hx=>(hLb x (hrs x hx)).1⟩
   rw [(hany rs hrs).1,(hany rs hrs).2,decide_eq_true (show rs.length<=6 by omega)];rfl
 · have hc:∃k:Nat,7+c3 % 3=(k:Int)/\7<=k/\k<=9:=⟨(7+c3 % 3).toNat,by omega,by omega,by omega⟩
   obtain⟨k,hk,h7,h9⟩:=hc;obtain⟨ds,g1,g2,g3⟩:=Js (ε:=ZK "Rule" 2 (okD Z2) [] (Zb (Za 1) eNil)) (δ0:=[none,some (.str (m::r))]) (λd=>∃x,d=Ru.d x/\x∈[ruR (m::r)]) 9 (List.range k) (λj hj=>by have:=List.mem_range.mp hj;omega) (λj hj=>⟨_,rfl,_,U2 (Zg rfl nil_of) rfl (Jv M),_,rfl,List.mem_cons_self⟩);obtain⟨us,rfl,hus⟩:=Zdi g3;rw [List.length_map,List.length_range]at g2
   have e6:YN (YQ (Zb (eOp addD (eC (.int 7)) (eOp modD (eOp ixD (Za 2) (eC (.int 3))) (eC (.int 3)))) eNil)) (ZR 0) (λ_=>some true) (ZK "Rule" 2 (okD Z2) [] (Zb (Za 1) eNil)) 1 [1] [some (.str own),some (.str (m::r)),some (CL c0 c1 c2 c3 c4),some (.int 1),some (.lst (L.map Ru.d)),some (.lst (rs.map Ru.d)),none]=some (.lst (us.map Ru.d)):=by
    refine Vl ?_ rfl g1 (by rw [List.length_map];omega);rw [<-Jt];refine(Qx (j:=k) (Zg (by rw [<-hk];exact(ZA rfl (Z4 rfl rfl (by decide))).trans rfl) nil_of) (by omega) (by omega)).trans ?_;rw [Int.toNat_natCast]
   refine⟨us,λx hx=>by rw [List.mem_singleton.mp (hus x hx)];rfl,by omega,Xk rfl ((Zl (Zz (Zm e4))).trans ((Zl (Zz (Zm e5))).trans ((Zl (Vf rfl rfl (Zm e6))).trans ((Zl (Zba rfl (by decide))).trans rfl)))) (Zg rfl (Zg rfl nil_of)) rfl,?_,λh=>absurd h (by decide)⟩;rw [decide_eq_false (show ¬us.length<=6 by omega),Bool.false_and];rfl
 · have e6 : ∃ w, Ms w /\ w ≠ m :: r /\ eOp ixD (Zp (Zb (eC (.str [48, 49])) (Zb (eC (.str [120, 121, 122])) eNil))) (eCB intD (Zb (eOp (inD false) (eC (.str [48])) (Za 1)) eNil)) [some (.str own), some (.str (m :: r)), some (CL c0 c1 c2 c3 c4), some (.int bad), some (.lst (L.map Ru.d)), some (.lst (rs.map Ru.d)), none] = some (.str w) := by
    have el:=Yl (α:=Zb (eC (.str [48,49])) (Zb (eC (.str [120,121,122])) eNil)) (δ:=[some (.str own),some (.str (m::r)),some (CL c0 c1 c2 c3 c4),some (.int bad),some (.lst (L.map Ru.d)),some (.lst (rs.map Ru.d)),none]) (Zg rfl (Zg rfl nil_of)) (show 2<=1000 by decide);have ei:eOp (inD false) (eC (.str [48])) (Za 1) [some (.str own),some (.str (m::r)),some (CL c0 c1 c2 c3 c4),some (.int bad),some (.lst (L.map Ru.d)),some (.lst (rs.map Ru.d)),none]=some (.bl (decide (48∈m::r))):=(ZA rfl rfl).trans (by show some (D.bl (false != decide (48∈m::r)))=_;cases decide (48∈m::r)<;>rfl)
    by_cases h0:48∈m::r
    · rw [decide_eq_true h0]at ei
      exact⟨[120,121,122],⟨by decide,by decide,by decide,by decide⟩,λe=>absurd (e▸h0:48∈[120,121,122]) (by decide),(ZA el ((Y9 (Zg ei nil_of)).trans rfl)).trans rfl⟩
    · rw [decide_eq_false h0]at ei
      exact⟨[48,49],⟨by decide,by decide,by decide,by decide⟩,λe=>h0 (e▸List.mem_cons_self),(ZA el ((Y9 (Zg ei nil_of)).trans rfl)).trans rfl⟩
   obtain⟨w,Mw,hw,e6⟩:=e6
   have e7:eBM joinD (eC (.str [])) (Zb (Qs (Za 1)) eNil) [some (.str own),some (.str (m::r)),some (CL c0 c1 c2 c3 c4),some (.int bad),some (.lst (L.map Ru.d)),some (.lst (rs.map Ru.d)),none]=some (.str (m::r).reverse):=by
    have hj:=ZaJ id (m::r).reverse (by rw [List.length_reverse,PySem.sizeLine_eq];omega);rw [List.map_id]at hj;have hv:Qs (Za 1) [some (.str own),some (.str (m::r)),some (CL c0 c1 c2 c3 c4),some (.int bad),some (.lst (L.map Ru.d)),some (.lst (rs.map Ru.d)),none]=some (.lst ((m::r).reverse.map λc => .str [c])):=if_pos (show(m::r).length<=1000 by omega);exact(Zht rfl (Zg hv nil_of)).trans hj
   generalize hO:[ruL (m::r) [],ruR (m::r).reverse,ruR w]=O
   have hOb:∀x∈O,fc_marks.contains x.c=true/\(x.c = "All" \/ x.ms≠m::r):=by
    subst hO;intro x hx;simp only [List.mem_cons,List.mem_nil_iff,or_false]at hx;rcases hx with rfl|rfl|rfl
    · exact⟨rfl,.inl rfl⟩
    · exact⟨rfl,.inr M.revne⟩
    · exact⟨rfl,.inr hw⟩
   have hOl:O.length=3:=by subst hO;rfl
   have e8:Zp (Zb (ZK "All" 3 (okD Vn) [] (Zb (Za 1) (Zb (Zp eNil) eNil))) (Zb (ZK "Rule" 2 (okD Z2) [] (Zb (eBM joinD (eC (.str [])) (Zb (Qs (Za 1)) eNil)) eNil)) (Zb (ZK "Rule" 2 (okD Z2) [] (Zb (eOp ixD (Zp (Zb (eC (.str [48,49])) (Zb (eC (.str [120,121,122])) eNil))) (eCB intD (Zb (eOp (inD false) (eC (.str [48])) (Za 1)) eNil))) eNil)) eNil))) [some (.str own),some (.str (m::r)),some (CL c0 c1 c2 c3 c4),some (.int bad),some (.lst (L.map Ru.d)),some (.lst (rs.map Ru.d)),none]=some (.lst (O.map Ru.d)):=by
    subst hO;exact Yl (Zg (U2 (Zg rfl (Zg (Yl nil_of (show 0<=1000 by decide)) nil_of)) rfl (ZlB M)) (Zg (U2 (Zg e7 nil_of) rfl (Jv M.rev)) (Zg (U2 (Zg e6 nil_of) rfl (Jv Mw)) nil_of))) (show 3<=1000 by decide)
   have e9:Q3 (Za 5) xNoP (xP (eC (.int 5))) [some (.str own),some (.str (m::r)),some (CL c0 c1 c2 c3 c4),some (.int bad),some (.lst (L.map Ru.d)),some (.lst (rs.map Ru.d)),some (.lst (O.map Ru.d))]=some (.lst ((rs.take 5).map Ru.d)):=by
    have:Q3 (Za 5) xNoP (xP (eC (.int 5))) [some (.str own),some (.str (m::r)),some (CL c0 c1 c2 c3 c4),some (.int bad),some (.lst (L.map Ru.d)),some (.lst (rs.map Ru.d)),some (.lst (O.map Ru.d))]=some (.lst (cutL (rs.map Ru.d) none (some ((5:Nat):Int)))):=rfl;rw [this,Za9,List.map_take]
   obtain⟨_,e10,o,rfl,ho⟩:∃x,eOp ixD (Za 6) (eOp modD (eOp ixD (Za 2) (eC (.int 3))) (eC (.int 3))) [some (.str own),some (.str (m::r)),some (CL c0 c1 c2 c3 c4),some (.int bad),some (.lst (L.map Ru.d)),some (.lst ((rs.take 5).map Ru.d)),some (.lst (O.map Ru.d))]=some x/\∃o,x=Ru.d o/\o∈O:=
    Vx (xs:=O.map Ru.d) (i:=c3) (m:=3) rfl (Z4 rfl rfl (by decide)) (by rw [List.length_map,hOl];rfl) (by decide) λx hx=>by
     obtain⟨y,hy,rfl⟩:=List.mem_map.mp hx;exact⟨y,rfl,hy⟩
   have hl5:(rs.take 5).length<=5:=by rw [List.length_take];omega
   have hsub:∀x∈rs.take 5,x∈L:=λx hx=>hrs x (List.mem_of_mem_take hx)
   generalize rs.take 5=ts at e9 e10 hl5 hsub;obtain⟨j,hj,hjl⟩:=Zb4 (c3 / 3) (m:=ts.length+1) (by omega)
   have e11:eOp modD (eOp fdivD (eOp ixD (Za 2) (eC (.int 3))) (eC (.int 3))) (eOp addD (eCB lenD (Zb (Za 5) eNil)) (eC (.int 1))) [some (.str own),some (.str (m::r)),some (CL c0 c1 c2 c3 c4),some (.int bad),some (.lst (L.map Ru.d)),some (.lst (ts.map Ru.d)),some (.lst (O.map Ru.d))]=some (.int (j:Nat)):=by
    rw [<-hj];refine Z4 (XB rfl (by decide) (by decide)) ((ZA (x:=.int (ts.map Ru.d).length) rfl rfl).trans ?_) (by omega);rw [List.length_map];rfl
   have e12:Q4 5 (eOp modD (eOp fdivD (eOp ixD (Za 2) (eC (.int 3))) (eC (.int 3))) (eOp addD (eCB lenD (Zb (Za 5) eNil)) (eC (.int 1)))) (eOp ixD (Za 6) (eOp modD (eOp ixD (Za 2) (eC (.int 3))) (eC (.int 3)))) [some (.str own),some (.str (m::r)),some (CL c0 c1 c2 c3 c4),some (.int bad),some (.lst (L.map Ru.d)),some (.lst (ts.map Ru.d)),some (.lst (O.map Ru.d))]=some (.nx [some (.str own),some (.str (m::r)),some (CL c0 c1 c2 c3 c4),some (.int bad),some (.lst (L.map Ru.d)),some (.lst ((ts.take j++o::ts.drop j).map Ru.d)),some (.lst (O.map Ru.d))]):=by
    unfold Q4;rw [e11,e10];have hz:(0:Int)<=(j:Nat)/\((j:Nat):Int)<=(ts.map Ru.d).length/\(ts.map Ru.d).length<PySem.sizeLine:=⟨by omega,by rw [List.length_map];omega,by rw [List.length_map,PySem.sizeLine_eq];omega⟩
    refine(if_pos hz).trans ?_;rw [Int.toNat_natCast,<-List.map_take,<-List.map_drop,List.map_append,List.map_cons];rfl
   refine⟨ts.take j++o::ts.drop j,λx hx => ?_,?_,Xk rfl ((Zl (Zz (Zm e4))).trans ((Zl (Zz (Zm e5))).trans ((Zl (Z5 rfl (by omega))).trans ((Zl (ZdS rfl hb1 ((ZE (Zm e8)).trans ((ZE (Zm e9)).trans e12)))).trans rfl)))) (Zg rfl (Zg rfl nil_of)) rfl,?_,λh=>absurd h (by omega)⟩
   · rcases List.mem_append.mp hx with hx|hx
     · exact(hLb x (hsub x (List.mem_of_mem_take hx))).1.cl
     · rcases List.mem_cons.mp hx with rfl|hx
       · exact(hOb _ ho).1
       · exact(hLb x (hsub x (List.mem_of_mem_drop hx))).1.cl
   · rw [List.length_append,List.length_cons,List.length_take,List.length_drop];omega
   · rw [decide_eq_false (show ¬bad=0 by omega)]
     have hmem:o∈ts.take j++o::ts.drop j:=by simp
     rcases(hOb o ho).2 with h|h
     · have:((ts.take j++o::ts.drop j).any λr=>decide (r.c = "All"))=true:=List.any_eq_true.mpr ⟨o,hmem,decide_eq_true h⟩
       rw [this,Bool.not_true,Bool.false_and,Bool.and_false]
     · have : ((ts.take j ++ o :: ts.drop j).all fun x => decide (x.ms = m :: r)) = false := by
        rw [List.all_eq_false];exact⟨o,hmem,by rw [decide_eq_false h];decide⟩
       rw [this,Bool.and_false,Bool.and_false]
end K05
namespace K05
open DL L2
theorem Xa{k kind:Int}{A s:DL.Env->Option RO}{δ:DL.Env}(h:Za 4 δ=some (.int kind))(hk:kind≠k):Zw (rIf (xB (eOp eqD (Za 4) (eC (.int k)))) A (rOf sNext)) s δ=s δ:=by
 refine Zl ((ZhA ?_).trans rfl);rw [Y8 ((ZA h rfl).trans (ZZ _ _)),decide_eq_false hk]
theorem ZdV{n:Nat}{δ:DL.Env}{F:List D->List D}{rr:List D->Option RD}{α:DL.Env->Option (List D)}{ds:List D}(h1:α δ=some ds)(h2:(F ds).length=n):YX F n rr α δ=(rr (F ds)).map (Except.map Out.rt):=by
 unfold YX;rw [h1];exact if_pos h2
theorem QH{k kind:Int}{s:DL.Env->Option RO}{δ:DL.Env}{n:Nat}{F:List D->List D}{rr:List D->Option RD}{α:DL.Env->Option (List D)}{ds:List D}(h:Za 4 δ=some (.int kind))(hk:kind=k)(h1:α δ=some ds)(h2:(F ds).length=n):Zw (rIf (xB (eOp eqD (Za 4) (eC (.int k)))) (YX F n rr α) (rOf sNext)) s δ=(rr (F ds)).map (Except.map Out.rt):=by
 have e:rIf (xB (eOp eqD (Za 4) (eC (.int k)))) (YX F n rr α) (rOf sNext) δ=(rr (F ds)).map (Except.map Out.rt):=by
  refine(ZfX ?_).trans (ZdV h1 h2);rw [Y8 ((ZA h rfl).trans (ZZ _ _)),decide_eq_true hk]
 unfold Zw;rw [e];cases rr (F ds)with
 |none=>rfl
 |some x=>cases x<;>rfl
theorem U3{N:Nat}{f:DL.Env->Option RO}{vs:List D}{δ:DL.Env}{x:Option RD}(h1:(vs.map some++List.replicate (N-vs.length) none)=δ)(h2:f δ=x.map (Except.map Out.rt)):Xq N f vs=x:=by
 unfold Xq;rw [h1,h2];cases x with
 |none=>rfl
 |some x=>cases x<;>rfl
structure Res(own ms:List Nat)(wrong:Bool)(x:Option RD):Prop where
 bad:Bd own->x=some (.error "BadMarks")
 rule:own=ms->wrong=true->x=errR
 made:own=ms->wrong=false->∃r,Gd ms r/\x=some (.ok r.d)
theorem Res.of {own ms:List Nat} {wrong b:Bool} {x:Option RD} {r:Ru} (h1:Bd own->x=some (.error "BadMarks")) (hb:b = !wrong) (h2:own=ms->x=if b then some (.ok r.d)else errR) (g:wrong=false->Gd ms r):Res own ms wrong x:=by
 subst hb;refine⟨h1,λe w => ?_,λe w=>⟨r,g w,?_⟩⟩
 · rw [h2 e,w];rfl
 · rw [h2 e,w];rfl
def mx(k:Int):Int:=if k=3 then 4 else if k=0\/k=5 then 1 else 3
theorem Zg8{own ms:List Nat}(M:Ms ms)(c0 c1 c2 c3 c4 bad:Int)(hb:0<=bad/\bad<=mx (c0 / 3 % 7)):Res own ms (decide (0<bad/\0<c0 / 3 % 7)) (Xr [.str own,.str ms,CL c0 c1 c2 c3 c4,.int bad]):=by
 have e4:eOp modD (eOp fdivD (eOp ixD (Za 2) (eC (.int 0))) (eC (.int 3))) (eC (.int 7)) [some (.str own),some (.str ms),some (CL c0 c1 c2 c3 c4),some (.int bad),none]=some (.int (c0 / 3 % 7)):=Z4 (XB rfl (by decide) (by decide)) rfl (by decide);have hk:0<=c0 / 3 % 7/\c0 / 3 % 7<=6:=by omega
 generalize c0 / 3 % 7=kind at e4 hk hb ⊢;have a4:Zb (Za 0) (Zb (Za 1) (Zb (Za 2) (Zb (Za 3) eNil))) [some (.str own),some (.str ms),some (CL c0 c1 c2 c3 c4),some (.int bad),some (.int kind)]=some [.str own,.str ms,CL c0 c1 c2 c3 c4,.int bad]:=Zg rfl (Zg rfl (Zg rfl (Zg rfl nil_of)))
 have wr:0<kind->decide (bad=0) = !decide (0<bad/\0<kind):=λh=>by
  by_cases h0:bad=0
  · rw [decide_eq_true h0,decide_eq_false (by omega)];rfl
  · rw [decide_eq_false h0,decide_eq_true (by omega)];rfl
 rcases(show kind=0\/kind=1\/kind=2\/kind=3\/kind=4\/kind=5\/kind=6 by omega)with rfl|rfl|rfl|rfl|rfl|rfl|rfl
 · have e:Xr [.str own,.str ms,CL c0 c1 c2 c3 c4,.int bad]=Z2 [.obj "Rule" [] [],.str own]:=U3 rfl ((Zl (Zz (Zm e4))).trans (QH rfl rfl (Zg rfl nil_of) rfl))
   rw [e];refine .of (b:=true) (r:=ruR ms) (λW=>ZcG W.1 W.2 _) (by rw [decide_eq_false (by omega)];rfl) (λh => ?_) λ_=>gdR ms
   subst h;exact Jv M
 · obtain⟨mk,lo,mo,hl,e0,hc⟩:=Zg2 (own:=own) M c0 c1 c2 c3 c4 bad (by simpa [mx]using hb)
   have e:Xr [.str own,.str ms,CL c0 c1 c2 c3 c4,.int bad]=Jc [.str own,.str ms,CL c0 c1 c2 c3 c4,.int bad]:=U3 rfl ((Zl (Zz (Zm e4))).trans ((Xa rfl (by decide)).trans (QH rfl rfl a4 rfl)));rw [e,e0];refine .of (r:=ruG ms mk lo mo) (λW=>ZgZ W.1 W.2 _ _) (hc.trans (wr (by decide))) (λh => ?_) λ_=>gdG _ _ _ _
   subst h;exact ZcH M (by omega) lo mo
 · obtain⟨wd,hl,e0,hc⟩:=Zfx (own:=own) M c0 c1 c2 c3 c4 bad (by simpa [mx]using hb)
   have e:Xr [.str own,.str ms,CL c0 c1 c2 c3 c4,.int bad]=Jd [.str own,.str ms,CL c0 c1 c2 c3 c4,.int bad]:=U3 rfl ((Zl (Zz (Zm e4))).trans ((Xa rfl (by decide)).trans ((Xa rfl (by decide)).trans (QH rfl rfl a4 rfl))));rw [e,e0];refine .of (r:=ruN ms wd) (λW=>Zet W.1 W.2 _ _) (hc.trans (wr (by decide))) (λh => ?_) λ_=>gdN _ _
   subst h;exact Zc2 M (by omega)
 · obtain⟨ws,lo,hi,hl,e0,hc⟩:=Zg4 (own:=own) M c0 c1 c2 c3 c4 bad (by simpa [mx]using hb)
   have e:Xr [.str own,.str ms,CL c0 c1 c2 c3 c4,.int bad]=Je [.str own,.str ms,CL c0 c1 c2 c3 c4,.int bad]:=U3 rfl ((Zl (Zz (Zm e4))).trans ((Xa rfl (by decide)).trans ((Xa rfl (by decide)).trans ((Xa rfl (by decide)).trans (QH rfl rfl a4 rfl)))));rw [e,e0];refine .of (r:=ruS ms ws lo hi) (λW=>Zg0 W.1 W.2 _ _) (hc.trans (wr (by decide))) (λh => ?_) λ_=>gdS _ _ _ _
   subst h;exact Zfs M (by omega) lo hi
 · obtain⟨mk,ev,at_,hl,e0,hc⟩:=Zfu (own:=own) M c0 c1 c2 c3 c4 bad (by simpa [mx]using hb)
   have e:Xr [.str own,.str ms,CL c0 c1 c2 c3 c4,.int bad]=Jf [.str own,.str ms,CL c0 c1 c2 c3 c4,.int bad]:=U3 rfl ((Zl (Zz (Zm e4))).trans ((Xa rfl (by decide)).trans ((Xa rfl (by decide)).trans ((Xa rfl (by decide)).trans ((Xa rfl (by decide)).trans (QH rfl rfl a4 rfl))))));rw [e,e0];refine .of (r:=ruT ms mk ev at_) (λW=>Zfr W.1 W.2 _ _) (hc.trans (wr (by decide))) (λh => ?_) λ_=>gdT _ _ _ _
   subst h;exact Zev M (by omega) ev at_
 · have hb1:0<=bad/\bad<=1:=by simpa [mx]using hb
   obtain⟨v,e7,hv⟩:=U0 c1 1 6 (by decide)
   have e8:∃x,eOp ixD (Zp (Zb (eOp addD (eC (.int 1)) (eOp modD (eOp ixD (Za 2) (eC (.int 1))) (eC (.int 6)))) (Zb (Zs 3 Vd [] (Zb (eOp ixD (Za 2) (eC (.int 1))) (Zb (eC (.int 1)) (Zb (eC (.int 6)) eNil)))) eNil))) (eCB intD (Zb (eOp (ZG λi j=>decide (j<i)) (Za 3) (eC (.int 0))) eNil)) [some (.str own),some (.str ms),some (CL c0 c1 c2 c3 c4),some (.int bad),some (.int 5)]=some (.int x)/\decide (1<=x/\x<=6)=decide (bad=0):=by
    have el:=Yl (α:=Zb (eOp addD (eC (.int 1)) (eOp modD (eOp ixD (Za 2) (eC (.int 1))) (eC (.int 6)))) (Zb (Zs 3 Vd [] (Zb (eOp ixD (Za 2) (eC (.int 1))) (Zb (eC (.int 1)) (Zb (eC (.int 6)) eNil)))) eNil)) (δ:=[some (.str own),some (.str ms),some (CL c0 c1 c2 c3 c4),some (.int bad),some (.int 5)]) (Zg ((ZA rfl (Z4 rfl rfl (by decide))).trans rfl) (Zg ((YY (Zg rfl (Zg rfl (Zg rfl nil_of))) rfl).trans e7) nil_of)) (show 2<=1000 by decide)
    rcases(show bad=0\/bad=1 by omega)with rfl|rfl
    · exact⟨_,(ZA el ((Y9 (Zg rfl nil_of)).trans rfl)).trans rfl,by rw [decide_eq_true (by omega)];rfl⟩
    · exact⟨_,(ZA el ((Y9 (Zg rfl nil_of)).trans rfl)).trans rfl,by rw [decide_eq_false (by omega)];rfl⟩
   obtain⟨x,e8,hx⟩:=e8;have e:Xr [.str own,.str ms,CL c0 c1 c2 c3 c4,.int bad]=XI [.obj "Alike" [] [],.str own,.int x]:=U3 rfl ((Zl (Zz (Zm e4))).trans ((Xa rfl (by decide)).trans ((Xa rfl (by decide)).trans ((Xa rfl (by decide)).trans ((Xa rfl (by decide)).trans ((Xa rfl (by decide)).trans (QH rfl rfl (Zg rfl (Zg e8 nil_of)) rfl)))))));rw [e];refine .of (r:=ruA ms x) (λW=>Zeu W.1 W.2 _ _) (hx.trans (wr (by decide))) (λh => ?_) λ_=>gdA _ _
   subst h;exact Za4 M x
 · obtain⟨rs,hc0,hl,e0,hc,hg⟩:=Zg7 (own:=own) M c0 c1 c2 c3 c4 bad (by simpa [mx]using hb)
   have e:Xr [.str own,.str ms,CL c0 c1 c2 c3 c4,.int bad]=Jg [.str own,.str ms,CL c0 c1 c2 c3 c4,.int bad]:=U3 rfl ((Zl (Zz (Zm e4))).trans ((Xa rfl (by decide)).trans ((Xa rfl (by decide)).trans ((Xa rfl (by decide)).trans ((Xa rfl (by decide)).trans ((Xa rfl (by decide)).trans ((Xa rfl (by decide)).trans (ZdV a4 rfl))))))));rw [e,e0];refine .of (r:=ruL ms rs) (λW=>Zg1 W.1 W.2 _ _) (hc.trans (wr (by decide))) (λh => ?_) λw => ?_
   · subst h
     exact ZcI M hc0 (by omega)
   · have h0 : bad = 0 := by
      have:=of_decide_eq_false w;omega
     have hc':=hc;rw [decide_eq_true h0,Bool.and_eq_true]at hc';exact gdL ms (of_decide_eq_true hc'.1) (hg h0)
end K05
namespace K05
open DL L2
theorem Zf1{φb:DL.Env->Option Out}{χb:DL.Env->Option String}{cl:List String}{η:String->DL.Env->Option Out}{δ:DL.Env}{c:String}(h:χb δ=some c)(hc:cl.contains c=true):UQ φb χb cl η δ=η c δ:=by
 unfold UQ;rw [h];exact if_pos hc
theorem Zio{φb:DL.Env->Option Out}{χb:DL.Env->Option String}{cl:List String}{η:String->DL.Env->Option Out}{δ:DL.Env}(h:χb δ=none):UQ φb χb cl η δ=φb δ:=by
 unfold UQ;rw [h]
theorem ZdW{n:Nat}{q:List D->Option RD}{α:DL.Env->Option (List D)}{δ:DL.Env}{ds:List D}(h:α δ=some ds)(hn:ds.length=n):Vs n (erD q) [] α δ=erD q ds:=by
 unfold Vs;rw [h];dsimp only;rw [List.append_nil];exact if_pos hn
theorem ZdX{cl no:List String}{i:Nat}{ψ:DL.Env->Option Out}{η:String->DL.Env->Option Out}{δ δ':DL.Env}{c:String}(h:cl.contains c=true)(h2:ψ (δ.set i (some (.exc c none)))=some (.nx δ')):Ui cl no i ψ η c δ=some (.nx (δ'.set i none)):=by
 unfold Ui;rw [if_pos h,h2]
theorem Zip{cl no:List String}{i:Nat}{ψ:DL.Env->Option Out}{η:String->DL.Env->Option Out}{δ:DL.Env}{c:String}(h:cl.contains c=false)(h2:no.contains c=true):Ui cl no i ψ η c δ=η c δ:=by
 unfold Ui;rw [if_neg (by rw [h];decide),if_pos h2]
def Zch:List Nat:=[109,97,114,107,115]
def Jw:List Nat:=[114,117,108,101]
def Xn:List Nat:=[109,97,100,101]
noncomputable def ZhC:DL.Env->Option Out:=(Zq (sIf (Z3 (xB (eOp (inD false) (Za 4) (Zp (Zb (eC (.str [109,97,114,107,115])) (Zb (eC (.str [114,117,108,101])) eNil))))) (xB (eOp neD (Za 5) (Zp (Zb (eC (.bl true)) (Zb (eC (.bl true)) (Zb (eC (.bl false)) eNil))))))) (Zy (eC (.str [111,116,104,101,114]))) sNext)
 (Zy (Za 4)))
theorem ZcL{a b c d e f:Option D}{t:List Nat}(ht:t=Zch\/t=Jw):ZhC [a,b,c,d,some (.str t),some (.lst [.bl true,.bl true,.bl false]),e,f]=some (.rt (.str t)):=by
 have h1:xB (eOp (inD false) (Za 4) (Zp (Zb (eC (.str [109,97,114,107,115])) (Zb (eC (.str [114,117,108,101])) eNil)))) [a,b,c,d,some (.str t),some (.lst [.bl true,.bl true,.bl false]),e,f]=some true:=by
  refine Y8 ((ZA rfl (Yl (Zg rfl (Zg rfl nil_of)) (show 2<=1000 by decide))).trans ?_);rcases ht with rfl|rfl<;>rfl
 have h2:xB (eOp neD (Za 5) (Zp (Zb (eC (.bl true)) (Zb (eC (.bl true)) (Zb (eC (.bl false)) eNil))))) [a,b,c,d,some (.str t),some (.lst [.bl true,.bl true,.bl false]),e,f]=some false:=Y8 ((ZA rfl (Yl (Zg rfl (Zg rfl (Zg rfl nil_of))) (show 3<=1000 by decide))).trans (Zfo rfl rfl));exact(ZE ((Vk (Zfm h1 h2)).trans rfl)).trans (XR rfl)
theorem Zez{a b c d e f g:Option D}:ZhC [a,b,c,d,some (.str Xn),g,e,f]=some (.rt (.str Xn)):=by
 have h1:xB (eOp (inD false) (Za 4) (Zp (Zb (eC (.str [109,97,114,107,115])) (Zb (eC (.str [114,117,108,101])) eNil)))) [a,b,c,d,some (.str Xn),g,e,f]=some false:=by
  refine Y8 ((ZA rfl (Yl (Zg rfl (Zg rfl nil_of)) (show 2<=1000 by decide))).trans ?_);rfl
 exact(ZE ((Vk (ZgR h1)).trans rfl)).trans (XR rfl)
theorem Zli{α:DL.Env->Option (List D)}{δ:DL.Env}{a b c:D}(h:α δ=some [a,b,c]):Zp α δ=some (.lst [a,b,c]):=Yl h (show 3<=1000 by decide)
theorem ZcM {own ms:List Nat} {c0 c1 c2 c3 c4 bad:Int} {c:String} {t:List Nat} (hc:(c = "BadMarks" /\ t=Zch)\/(c = "BadRule" /\ t=Jw)) (h:Xr [.str own,.str ms,CL c0 c1 c2 c3 c4,.int bad]=some (.error c)):UW [.str own,.str ms,CL c0 c1 c2 c3 c4,.int bad]=some (.str t):=by
 have ex:Vs 4 (erD Xr) [] (Zb (Za 0) (Zb (Za 1) (Zb (Za 2) (Zb (Za 3) eNil)))) [some (.str own),some (.str ms),some (CL c0 c1 c2 c3 c4),some (.int bad),some (.str Xn),some (.lst []),none,none]=some c:=by
  refine(ZdW (Zg rfl (Zg rfl (Zg rfl (Zg rfl nil_of)))) rfl).trans ?_;unfold erD;rw [h]
 rcases hc with⟨rfl,rfl⟩|⟨rfl,rfl⟩
 · exact XH rfl ((ZE (Zm (d:=.str Xn) rfl)).trans ((ZE (Zm (d:=.lst []) (Yl nil_of (show 0<=1000 by decide)))).trans ((ZE ((Zf1 ex rfl).trans (ZdX rfl ((ZE (Zm (d:=.str Zch) rfl)).trans (Zm (Zli (a:=.bl true) (b:=.bl true) (c:=.bl false) (Zg rfl (Zg rfl (Zg rfl nil_of))))))))).trans (ZcL (.inl rfl)))))
 · exact XH rfl ((ZE (Zm (d:=.str Xn) rfl)).trans ((ZE (Zm (d:=.lst []) (Yl nil_of (show 0<=1000 by decide)))).trans ((ZE ((Zf1 ex rfl).trans ((Zip rfl rfl).trans (ZdX rfl ((ZE (Zm (d:=.str Jw) rfl)).trans (Zm (Zli (a:=.bl true) (b:=.bl true) (c:=.bl false) (Zg rfl (Zg rfl (Zg rfl nil_of)))))))))).trans (ZcL (.inr rfl)))))
theorem Zfy{own:List Nat}{c0 c1 c2 c3 c4 bad:Int}{r:Ru}(ms:List Nat)(G:Gd own r)(h:Xr [.str own,.str ms,CL c0 c1 c2 c3 c4,.int bad]=some (.ok r.d)):UW [.str own,.str ms,CL c0 c1 c2 c3 c4,.int bad]=some (.str Xn):=by
 have a4:Zb (Za 0) (Zb (Za 1) (Zb (Za 2) (Zb (Za 3) eNil))) [some (.str own),some (.str ms),some (CL c0 c1 c2 c3 c4),some (.int bad),some (.str Xn),some (.lst []),none,none]=some [.str own,.str ms,CL c0 c1 c2 c3 c4,.int bad]:=Zg rfl (Zg rfl (Zg rfl (Zg rfl nil_of)))
 have ex:Vs 4 (erD Xr) [] (Zb (Za 0) (Zb (Za 1) (Zb (Za 2) (Zb (Za 3) eNil)))) [some (.str own),some (.str ms),some (CL c0 c1 c2 c3 c4),some (.int bad),some (.str Xn),some (.lst []),none,none]=none:=by
  refine(ZdW a4 rfl).trans ?_;unfold erD;rw [h]
 have e6:Zs 4 (okD Xr) [] (Zb (Za 0) (Zb (Za 1) (Zb (Za 2) (Zb (Za 3) eNil)))) [some (.str own),some (.str ms),some (CL c0 c1 c2 c3 c4),some (.int bad),some (.str Xn),some (.lst []),none,none]=some r.d:=by
  refine(YY a4 rfl).trans ?_;unfold okD;rw [h]
 have hc':r.c∈fc_marks:=by simpa using G.cl
 have i1:ZS Q9 (Za 6) [some (.str own),some (.str ms),some (CL c0 c1 c2 c3 c4),some (.int bad),some (.str Xn),some (.lst []),some r.d,none]=some (.bl true):=by
  refine ZfW (d:=r.d) rfl ?_;obtain⟨c,mk,ks,xs⟩:=r;simp only [fc_marks,List.mem_cons,List.mem_nil_iff,or_false]at hc';rcases hc' with rfl|rfl|rfl|rfl|rfl|rfl|rfl<;>rfl
 have i2:eOp eqD (ZY fc_marks "marks" (Za 6)) (Za 0) [some (.str own),some (.str ms),some (CL c0 c1 c2 c3 c4),some (.int bad),some (.str Xn),some (.lst []),some r.d,none]=some (.bl true):=by
  refine(ZA (ZbJ (r:=r) G.cl rfl) rfl).trans ((Yk _ _).trans ?_);rw [decide_eq_true G.ms]
 have i3:eOp isD (ZQ "keeps" Zap (Za 6) (Zb (eC (.str [])) eNil)) (eC (.bl true)) [some (.str own),some (.str ms),some (CL c0 c1 c2 c3 c4),some (.int bad),some (.str Xn),some (.lst []),some r.d,none]=some (.bl true):=
  (ZA ((QG (n:=2) (mm:=Vm) rfl (Zg rfl nil_of) G.nk (ZdU G.cl) rfl).trans G.kp) rfl).trans rfl
 have e4:eOp ixD (Zp (Zb (eC (.str [111,116,104,101,114])) (Zb (eC (.str [109,97,100,101])) eNil))) (eCB intD (Zb (ZP (ZS Q9 (Za 6)) (ZP (eOp eqD (ZY fc_marks "marks" (Za 6)) (Za 0)) (eOp isD (ZQ "keeps" Zap (Za 6) (Zb (eC (.str [])) eNil)) (eC (.bl true))))) eNil)) [some (.str own),some (.str ms),some (CL c0 c1 c2 c3 c4),some (.int bad),some (.str Xn),some (.lst []),some r.d,none]=some (.str Xn):=
  (ZA (Yl (Zg rfl (Zg rfl nil_of)) (show 2<=1000 by decide)) ((Y9 (Zg (Zb3 i1 (Zb3 i2 i3)) nil_of)).trans rfl)).trans rfl
 exact XH rfl ((ZE (Zm (d:=.str Xn) rfl)).trans ((ZE (Zm (d:=.lst []) (Yl nil_of (show 0<=1000 by decide)))).trans ((ZE ((Zio ex).trans ((ZE (Zm e6)).trans (Zm e4)))).trans Zez)))
end K05
namespace K05
open DL L2
theorem Zf2{tab:List (String×Bool)}{a:DL.Env->Option D}{δ:DL.Env}{c:String}{r:Option Int}{b:Bool}(h:a δ=some (.exc c r))(h2:tab.lookup c=some b):YU tab a δ=some (.bl b):=by
 unfold YU;rw [h];show(tab.lookup c).map D.bl=_;rw [h2];rfl
def kb(t:List (String×Bool))(c:String):Bool:=(t.lookup c).getD false
theorem ZhD{t:List (String×Bool)}{bs:List Bool}(ht:t=exN.zip bs)(hl:bs.length=10){c:String}(hc:c∈exN):t.lookup c=some (kb t c):=by
 subst ht
 match bs,hl with
 | [a0,a1,a2,a3,a4,a5,a6,a7,a8,a9],_=>
  simp only [exN,List.mem_cons,List.mem_nil_iff,or_false]at hc;rcases hc with rfl|rfl|rfl|rfl|rfl|rfl|rfl|rfl|rfl|rfl<;>rfl
def kd(c:String):List D:=[.bl (kb ix_BadMarks c),.bl (kb ix_BadRule c),.bl (kb ix_BadMark c),.bl (kb ix_TooLarge c),.bl (kb ix_Nothing c),.bl (kb ix_NoRow c),.bl (kb ix_BadSign c),.bl (kb ix_Unread c),.bl (kb ix_BadRow c),.bl (kb ix_BadTable c)]
theorem Zfz{c:String}(r:Option Int)(hc:c∈exN):ZiA [.exc c r]=some (.lst (kd c)):=by
 have k:∀{t:List (String×Bool)}{bs:List Bool}{x:Option D},t=exN.zip bs->bs.length=10->YU t (Za 0) [some (.exc c r),x]=some (.bl (kb t c)):=λ{t bs x} h hl=>Zf2 rfl (ZhD h hl hc)
 have e1:=Yl (Zg (k (x:=none) (t:=ix_BadMarks) rfl rfl) (Zg (k (t:=ix_BadRule) rfl rfl) (Zg (k (t:=ix_BadMark) rfl rfl) (Zg (k (t:=ix_TooLarge) rfl rfl) nil_of)))) (show 4<=1000 by decide);have e2:=λx=>Yl (Zg (k (x:=x) (t:=ix_Nothing) rfl rfl) (Zg (k (t:=ix_NoRow) rfl rfl) (Zg (k (t:=ix_BadSign) rfl rfl) nil_of))) (show 3<=1000 by decide)
 have e3:=λx=>Yl (Zg (k (x:=x) (t:=ix_Unread) rfl rfl) (Zg (k (t:=ix_BadRow) rfl rfl) (Zg (k (t:=ix_BadTable) rfl rfl) nil_of))) (show 3<=1000 by decide)
 have f2:=λ(l:List D) (hl:l.length=4)=>Jr (a:=Za 1) (x:=l) (δ:=[some (.exc c r),some (.lst l)]) rfl (e2 _) (by rw [hl];exact(show 4+3<=100000 by decide))
 have f3:=λ(l:List D) (hl:l.length=7)=>Jr (a:=Za 1) (x:=l) (δ:=[some (.exc c r),some (.lst l)]) rfl (e3 _) (by rw [hl];exact(show 7+3<=100000 by decide))
 exact XH rfl ((ZE (Zm e1)).trans ((ZE (Zm (f2 _ rfl))).trans (XR (f3 _ rfl))))
def exL:List D:=[.exc "BadMarks" none,.exc "BadRule" none,.exc "BadMark" none,.exc "TooLarge" none,.exc "Nothing" none,.exc "NoRow" none,.exc "BadSign" none,.exc "Unread" none,.exc "BadRow" (some 7),.exc "BadTable" (some 8)]
noncomputable def apB:DL.Env->Option Out:=(Zq (Zn 2 (Zs 1 ZiA [] (Zb (eOp ixD (Za 0) (Za 1)) eNil)))
 (Zq (sIf (xOr (xB (eOp neD (eLM lcountD (Za 2) (eC (.bl true))) (eC (.int 1)))) (xOr (ZN (xB (eOp ixD (Za 2) (Za 1)))) (ZN (xB (YU ix_GrooveError (eOp ixD (Za 0) (Za 1))))))) (Zy (eC (.bl false))) sNext)
 (sIf (ZN (xB (YU ix_ValueError (eOp ixD (Za 0) (Za 1))))) (Zy (eC (.bl false))) sNext)))
theorem Ziq{bs:List Bool}{c:String}(hc:c∈exN)(h:bs=[true,true,true,true,true,true,true,true,true,true]):kb (exN.zip bs) c=true:=by
 subst h;simp only [exN,List.mem_cons,List.mem_nil_iff,or_false]at hc;rcases hc with rfl|rfl|rfl|rfl|rfl|rfl|rfl|rfl|rfl|rfl<;>rfl
theorem ZfA{k:Nat}{c:String}{r:Option Int}{x:Option D}(hc:c∈exN)(h1:exL[k]? = some (.exc c r))(h2:(kd c)[k]? = some (.bl true))(h3:lcountD (kd c) (.bl true)=some (.int 1)):apB [some (.lst exL),some (.int (k:Nat)),x]=some (.nx [some (.lst exL),some (.int (k:Nat)),some (.lst (kd c))]):=by
 have e0:∀{y:Option D},eOp ixD (Za 0) (Za 1) [some (.lst exL),some (.int (k:Nat)),y]=some (.exc c r):=λ{y}=>(ZA rfl rfl).trans (Zgf h1)
 have g:∀{y:Option D}{t:List (String×Bool)},t=exN.zip [true,true,true,true,true,true,true,true,true,true]->YU t (eOp ixD (Za 0) (Za 1)) [some (.lst exL),some (.int (k:Nat)),y]=some (.bl true):=λ{y t} ht=>by
  refine(Zf2 e0 (ZhD ht rfl hc)).trans ?_;rw [ht,Ziq hc rfl]
 have l1:eLM lcountD (Za 2) (eC (.bl true)) [some (.lst exL),some (.int (k:Nat)),some (.lst (kd c))]=some (.int 1):=by
  show(if(kd c).all ZC&&ZC (.bl true)then lcountD (kd c) (.bl true)else none)=_;exact(if_pos (show((kd c).all ZC&&ZC (.bl true))=true from rfl)).trans h3
 have t1:xOr (xB (eOp neD (eLM lcountD (Za 2) (eC (.bl true))) (eC (.int 1)))) (xOr (ZN (xB (eOp ixD (Za 2) (Za 1)))) (ZN (xB (YU ix_GrooveError (eOp ixD (Za 0) (Za 1)))))) [some (.lst exL),some (.int (k:Nat)),some (.lst (kd c))]=some false:=ZfV (Y8 (b:=false) ((ZA l1 rfl).trans (Yw 1 1))) (ZfV (Qw (Y8 (b:=true) ((ZA rfl rfl).trans (Zgf h2)))) (Qw (Y8 (b:=true) (g rfl))));have t2:ZN (xB (YU ix_ValueError (eOp ixD (Za 0) (Za 1)))) [some (.lst exL),some (.int (k:Nat)),some (.lst (kd c))]=some false:=Qw (Y8 (b:=true) (g rfl))
 exact(ZE (Zm ((YY (Zg e0 nil_of) rfl).trans (Zfz r hc)))).trans ((ZE ((Vk t1).trans rfl)).trans ((Vk t2).trans rfl))
theorem Zc4(k:Nat)(hk:k<10)(x:Option D):∃y:D,apB [some (.lst exL),some (.int (k:Nat)),x]=some (.nx [some (.lst exL),some (.int (k:Nat)),some y]):=by
 rcases(show k=0\/k=1\/k=2\/k=3\/k=4\/k=5\/k=6\/k=7\/k=8\/k=9 by omega)with rfl|rfl|rfl|rfl|rfl|rfl|rfl|rfl|rfl|rfl
 all_goals exact⟨_,ZfA (by decide) rfl rfl rfl⟩
theorem ZfB:ZiB []=some (.bl true):=by
 have m2:∀{c:String}{δ:DL.Env}(n:Int),0<=n/\n<10 ^ 10->UP c (Zb (eC (.int n)) eNil) δ=some (.exc c (some n)):=λn h=>by
  show(if 0<=n/\n<10 ^ 10 then _ else _)=_;rw [if_pos h]
 have m1:∀{c:String}{δ:DL.Env},Xj c (Zb (eC (.str [111,100,100])) eNil) δ=some (.exc c none):=rfl;have e1:Zp (Zb (Xj "BadMarks" (Zb (eC (.str [111,100,100])) eNil)) (Zb (Xj "BadRule" (Zb (eC (.str [111,100,100])) eNil)) (Zb (Xj "BadMark" (Zb (eC (.str [111,100,100])) eNil)) (Zb (Xj "TooLarge" (Zb (eC (.str [111,100,100])) eNil)) (Zb (Xj "Nothing" (Zb (eC (.str [111,100,100])) eNil)) (Zb (Xj "NoRow" (Zb (eC (.str [111,100,100])) eNil)) eNil)))))) [none,none,none]=some (.lst (exL.take 6)):=Yl (Zg m1 (Zg m1 (Zg m1 (Zg m1 (Zg m1 (Zg m1 nil_of)))))) (show 6<=1000 by decide)
 have e2:eOp Vj (Za 0) (Zp (Zb (Xj "BadSign" (Zb (eC (.str [111,100,100])) eNil)) (Zb (Xj "Unread" (Zb (eC (.str [111,100,100])) eNil)) (Zb (UP "BadRow" (Zb (eC (.int 7)) eNil)) (Zb (UP "BadTable" (Zb (eC (.int 8)) eNil)) eNil))))) [some (.lst (exL.take 6)),none,none]=some (.lst exL):=Jr (x:=exL.take 6) (y:=exL.drop 6) rfl (Yl (Zg m1 (Zg m1 (Zg (m2 7 (by decide)) (Zg (m2 8 (by decide)) nil_of)))) (show 4<=1000 by decide)) (show 6+4<=100000 by decide)
 obtain⟨δ',h1,x,y,rfl⟩:=ZaL (γ:=ZR 1) (φ:=apB) (λδ=>∃x y,δ=[some (.lst exL),x,y]) (YT 0 1 10) [some (.lst exL),none,none] ⟨_,_,rfl⟩ λd hd δ ⟨x,y,hδ⟩=>by
  subst hδ;obtain⟨i,hi,rfl⟩:=Zbh hd;obtain⟨z,hz⟩:=Zc4 i hi y;have ei:(0:Int)+(i:Nat)*1=(i:Nat):=by omega
  rw [ei];exact⟨_,rfl,_,hz,_,_,rfl⟩
 have hr:YQ (Zb (eCB lenD (Zb (Za 0) eNil)) eNil) [some (.lst exL),none,none]=some (YT 0 1 10):=Qx (j:=10) (Zg rfl nil_of) (by decide) (by decide);exact XH rfl ((ZE (Zm e1)).trans ((ZE (Zm e2)).trans ((ZE (Zdg hr h1)).trans (XR (Zb3 ((ZA (x:=.int 7) rfl rfl).trans (ZZ 7 7)) ((ZA (x:=.int 8) rfl rfl).trans (ZZ 8 8)))))))
end K05
namespace K05
open DL L2
theorem Zir{α:DL.Env->Option (List D)}{δ:DL.Env}{j:Int}(h:α δ=some [.int 0,.int j,.int 5])(h1:0<=j)(h2:j<=1000000):YQ α δ=some (YT 0 5 (PySem.Builtin.Range.rangeSize 0 j 5).toNat):=by
 have hs:PySem.Builtin.Range.small 0 j 5=true:=by
  unfold PySem.Builtin.Range.small PySem.Builtin.Range.rangeSize;simp only [PySem.Builtin.Range.rangeFitsLong,Bool.and_eq_true,Bool.or_eq_true,decide_eq_true_eq,beq_iff_eq,show(5:Int)>0 by decide,if_true]
  split<;>omega
 unfold YQ;rw [h];dsimp only;rw [if_pos ⟨by omega,by omega,hs⟩]
noncomputable def lwB:DL.Env->Option Out:=(Zq (Zn 3 (YN (YQ (Zb (eC (.int 5)) eNil)) (ZR 0) (λ_=>some true) (Zs 2 Uq [] (Zb (Za 1) (Zb (eOp addD (Za 2) (Za 0)) eNil))) 1 [1,2]))
 (Zq (Zn 4 (Zs 1 Ur [] (Zb (eOp ixD (Za 3) (eC (.int 4))) eNil)))
 (Zq (Zn 5 (eOp modD (eOp fdivD (eOp ixD (Za 3) (eC (.int 0))) (eC (.int 3))) (eC (.int 7))))
 (Zq (Zn 6 (eOp ixD (Zp (Zb (eC (.int 0)) (Zb (eOp addD (eC (.int 1)) (eOp modD (eOp fdivD (eOp ixD (Za 3) (eC (.int 0))) (eC (.int 42))) (eOp ixD (Zp (Zb (eC (.int 1)) (Zb (eC (.int 3)) (Zb (eC (.int 3)) (Zb (eC (.int 4)) (Zb (eC (.int 3)) (Zb (eC (.int 1)) (Zb (eC (.int 3)) eNil)))))))) (Za 5)))) eNil))) (eOp modD (eOp fdivD (eOp ixD (Za 3) (eC (.int 0))) (eC (.int 21))) (eC (.int 2)))))
 (Zq (Zn 7 (eOp ixD (Zp (Zb (eC (.str [109,97,100,101])) (Zb (eC (.str [114,117,108,101])) eNil))) (eCB intD (Zb (ZP (eOp (ZG λi j=>decide (j<i)) (Za 6) (eC (.int 0))) (eOp (ZG λi j=>decide (j<i)) (Za 5) (eC (.int 0)))) eNil))))
 (Zq (Zn 8 (Za 4))
 (Zq (sIf (xB (eOp eqD (eOp modD (eOp fdivD (eOp ixD (Za 3) (eC (.int 3))) (eC (.int 5))) (eC (.int 6))) (eC (.int 1)))) (Zq (Zn 8 (Zs 1 Ziz [] (Zb (eOp fdivD (eOp ixD (Za 3) (eC (.int 4))) (eC (.int 5))) eNil)))
 (Zn 7 (eC (.str [109,97,114,107,115])))) sNext)
 (sIf (xB (eOp neD (Zs 4 UW [] (Zb (Za 8) (Zb (Za 4) (Zb (Za 3) (Zb (Za 6) eNil))))) (Za 7))) (Zy (eC (.bl false))) sNext))))))))
theorem Zis{a b:DL.Env->Option D}{δ:DL.Env}{x y:Bool}(h1:a δ=some (.bl x))(h2:b δ=some (.bl y)):ZP a b δ=some (.bl (x&&y)):=by
 unfold ZP;rw [h1];cases x<;>first|exact h2|rfl
theorem ZfC(ns:List Int)(k:Nat)(x3 x4 x5 x6 x7 x8:Option D):∃y3 y4 y5 y6 y7 y8,lwB [some (.lst (ns.map D.int)),some (.lst (ns.map D.int)),some (.int (k:Nat)),x3,x4,x5,x6,x7,x8]=some (.nx [some (.lst (ns.map D.int)),some (.lst (ns.map D.int)),some (.int (k:Nat)),y3,y4,y5,y6,y7,y8]):=by
 generalize hc:(λj=>ns.getD (k+j) 0)=cf
 have e3:YN (YQ (Zb (eC (.int 5)) eNil)) (ZR 0) (λ_=>some true) (Zs 2 Uq [] (Zb (Za 1) (Zb (eOp addD (Za 2) (Za 0)) eNil))) 1 [1,2] [some (.lst (ns.map D.int)),some (.lst (ns.map D.int)),some (.int (k:Nat)),x3,x4,x5,x6,x7,x8]=some (CL (cf 0) (cf 1) (cf 2) (cf 3) (cf 4)):=by
  have hr:YQ (Zb (eC (.int 5)) eNil) [some (.lst (ns.map D.int)),some (.lst (ns.map D.int)),some (.int (k:Nat)),x3,x4,x5,x6,x7,x8]=some ((List.range 5).map λk => .int (k:Nat)):=by
   rw [<-Jt];exact Qx (j:=5) (Zg rfl nil_of) (by decide) (by decide)
  have hcomp:YZ (ZR 0) (λ_=>some true) (Zs 2 Uq [] (Zb (Za 1) (Zb (eOp addD (Za 2) (Za 0)) eNil))) [none,some (.lst (ns.map D.int)),some (.int (k:Nat))] ((List.range 5).map λk => .int (k:Nat))=some ((List.range 5).map λj => .int (cf j)):=by
   rw [Zan (λd=>match d with | .int j => .int (cf j.toNat)|_ => .non)]
   · rw [List.map_map]
     rfl
   · intro x hx
     obtain⟨j,hj,rfl⟩:=List.mem_map.mp hx;refine⟨_,rfl,(YY (ds:=[.lst (ns.map D.int),.int ((k+j:Nat):Int)]) (Zg rfl (Zg ((ZA rfl rfl).trans ?_) nil_of)) rfl).trans ((ZgW ns (k+j)).trans ?_)⟩
     · show some (D.int ((k:Int)+(j:Int)))=_
       rw [Int.natCast_add]
     · rw [<-hc]
       rfl
  exact Vl hr rfl hcomp (show 5<=1000000 by decide)
 generalize cf 0=c0 at e3;generalize cf 1=c1 at e3;generalize cf 2=c2 at e3;generalize cf 3=c3 at e3;generalize cf 4=c4 at e3;clear hc;generalize hS:D.lst (ns.map D.int)=S at e3;have M:=ZcF c4;have e4:Zs 1 Ur [] (Zb (eOp ixD (Za 3) (eC (.int 4))) eNil) [some S,some S,some (.int (k:Nat)),some (CL c0 c1 c2 c3 c4),x4,x5,x6,x7,x8]=some (.str (Ve c4)):=(YY (Zg rfl nil_of) rfl).trans (ZcE c4)
 generalize Ve c4=ms at M e4;have e5:eOp modD (eOp fdivD (eOp ixD (Za 3) (eC (.int 0))) (eC (.int 3))) (eC (.int 7)) [some S,some S,some (.int (k:Nat)),some (CL c0 c1 c2 c3 c4),some (.str ms),x5,x6,x7,x8]=some (.int (c0 / 3 % 7)):=Z4 (XB rfl (by decide) (by decide)) rfl (by decide);have hk7:0<=c0 / 3 % 7/\c0 / 3 % 7<=6:=by omega
 have hmade:=λown bad hb=>Zg8 (own:=own) M c0 c1 c2 c3 c4 bad hb
 generalize c0 / 3 % 7=kind at e5 hk7 hmade
 have ek:eOp ixD (Zp (Zb (eC (.int 1)) (Zb (eC (.int 3)) (Zb (eC (.int 3)) (Zb (eC (.int 4)) (Zb (eC (.int 3)) (Zb (eC (.int 1)) (Zb (eC (.int 3)) eNil)))))))) (Za 5) [some S,some S,some (.int (k:Nat)),some (CL c0 c1 c2 c3 c4),some (.str ms),some (.int kind),x6,x7,x8]=some (.int (mx kind)):=by
  refine(ZA (Yl (Zg rfl (Zg rfl (Zg rfl (Zg rfl (Zg rfl (Zg rfl (Zg rfl nil_of))))))) (show 7<=1000 by decide)) rfl).trans ?_;rcases(show kind=0\/kind=1\/kind=2\/kind=3\/kind=4\/kind=5\/kind=6 by omega)with rfl|rfl|rfl|rfl|rfl|rfl|rfl<;>rfl
 have hmx:0<mx kind:=by unfold mx;split<;>(try split)<;>omega
 have hmod:0<=c0 / 42 % mx kind/\c0 / 42 % mx kind<mx kind:=⟨Int.emod_nonneg _ (by omega),Int.emod_lt_of_pos _ hmx⟩
 obtain⟨_,e6,bad,rfl,hb⟩:∃x,eOp ixD (Zp (Zb (eC (.int 0)) (Zb (eOp addD (eC (.int 1)) (eOp modD (eOp fdivD (eOp ixD (Za 3) (eC (.int 0))) (eC (.int 42))) (eOp ixD (Zp (Zb (eC (.int 1)) (Zb (eC (.int 3)) (Zb (eC (.int 3)) (Zb (eC (.int 4)) (Zb (eC (.int 3)) (Zb (eC (.int 1)) (Zb (eC (.int 3)) eNil)))))))) (Za 5)))) eNil))) (eOp modD (eOp fdivD (eOp ixD (Za 3) (eC (.int 0))) (eC (.int 21))) (eC (.int 2))) [some S,some S,some (.int (k:Nat)),some (CL c0 c1 c2 c3 c4),some (.str ms),some (.int kind),x6,x7,x8]=some x/\∃bad,x = .int bad/\(0<=bad/\bad<=mx kind):=by
  refine Vx (xs:=[.int 0,.int (1+c0 / 42 % mx kind)]) (i:=c0 / 21) (m:=2) (Yl (Zg rfl (Zg ((ZA rfl (Z4 (XB rfl (by decide) (by decide)) ek hmx)).trans rfl) nil_of)) (show 2<=1000 by decide)) (Z4 (XB rfl (by decide) (by decide)) rfl (by decide)) rfl (by decide) λx hx => ?_
  simp only [List.mem_cons,List.mem_nil_iff,or_false]at hx;rcases hx with rfl|rfl
  · exact⟨_,rfl,by omega⟩
  · exact⟨_,rfl,by omega⟩
 have hR:=λown=>hmade own bad hb
 have e7:eOp ixD (Zp (Zb (eC (.str [109,97,100,101])) (Zb (eC (.str [114,117,108,101])) eNil))) (eCB intD (Zb (ZP (eOp (ZG λi j=>decide (j<i)) (Za 6) (eC (.int 0))) (eOp (ZG λi j=>decide (j<i)) (Za 5) (eC (.int 0)))) eNil)) [some S,some S,some (.int (k:Nat)),some (CL c0 c1 c2 c3 c4),some (.str ms),some (.int kind),some (.int bad),x7,x8]=some (.str (if decide (0<bad/\0<kind)then Jw else Xn)):=by
  have ea:=Zis (a:=eOp (ZG λi j=>decide (j<i)) (Za 6) (eC (.int 0))) (b:=eOp (ZG λi j=>decide (j<i)) (Za 5) (eC (.int 0))) (δ:=[some S,some S,some (.int (k:Nat)),some (CL c0 c1 c2 c3 c4),some (.str ms),some (.int kind),some (.int bad),x7,x8]) (x:=decide (0<bad)) (y:=decide (0<kind)) ((ZA rfl rfl).trans rfl) ((ZA rfl rfl).trans rfl);rw [<-Bool.decide_and]at ea
  refine(ZA (Yl (Zg rfl (Zg rfl nil_of)) (show 2<=1000 by decide)) ((Y9 (Zg ea nil_of)).trans rfl)).trans ?_;cases decide (0<bad/\0<kind)<;>rfl
 have ht:xB (eOp eqD (eOp modD (eOp fdivD (eOp ixD (Za 3) (eC (.int 3))) (eC (.int 5))) (eC (.int 6))) (eC (.int 1))) [some S,some S,some (.int (k:Nat)),some (CL c0 c1 c2 c3 c4),some (.str ms),some (.int kind),some (.int bad),some (.str (if decide (0<bad/\0<kind)then Jw else Xn)),some (.str ms)]=some (decide (c3 / 5 % 6=1)):=Y8 ((ZA (Z4 (XB rfl (by decide) (by decide)) rfl (by decide)) rfl).trans (ZZ _ _))
 have fin:∀{own due:List Nat},UW [.str own,.str ms,CL c0 c1 c2 c3 c4,.int bad]=some (.str due)->sIf (xB (eOp neD (Zs 4 UW [] (Zb (Za 8) (Zb (Za 4) (Zb (Za 3) (Zb (Za 6) eNil))))) (Za 7))) (Zy (eC (.bl false))) sNext [some S,some S,some (.int (k:Nat)),some (CL c0 c1 c2 c3 c4),some (.str ms),some (.int kind),some (.int bad),some (.str due),some (.str own)]=some (.nx [some S,some S,some (.int (k:Nat)),some (CL c0 c1 c2 c3 c4),some (.str ms),some (.int kind),some (.int bad),some (.str due),some (.str own)]):=λ{own due} h=>by
  refine(Vk (Y8 ((ZA ((YY (Zg rfl (Zg rfl (Zg rfl (Zg rfl nil_of)))) rfl).trans h) rfl).trans ((Yx _ _).trans ?_)))).trans rfl;rw [decide_eq_true rfl];rfl
 by_cases h6:c3 / 5 % 6=1
 · rw [decide_eq_true h6]at ht
   obtain⟨w,ew,hw⟩:=Zex (c4 / 5);refine⟨_,_,_,_,_,_,(ZE (Zm e3)).trans ((ZE (Zm e4)).trans ((ZE (Zm e5)).trans ((ZE (Zm e6)).trans ((ZE (Zm e7)).trans ((ZE (Zm (d:=.str ms) rfl)).trans ((ZE ((Q6 ht).trans ((ZE (Zm ((YY (Zg (XB rfl (by decide) (by decide)) nil_of) rfl).trans ew))).trans (Zm (d:=.str Zch) rfl)))).trans (fin (ZcM (.inl ⟨rfl,rfl⟩) ((hR w).bad hw)))))))))⟩
 · rw [decide_eq_false h6]at ht
   refine⟨_,_,_,_,_,_,(ZE (Zm e3)).trans ((ZE (Zm e4)).trans ((ZE (Zm e5)).trans ((ZE (Zm e6)).trans ((ZE (Zm e7)).trans ((ZE (Zm (d:=.str ms) rfl)).trans ((ZE ((Vk ht).trans rfl)).trans (fin ?_)))))))⟩;cases hd:decide (0<bad/\0<kind)with
   |true=>exact ZcM (.inr ⟨rfl,rfl⟩) ((hR ms).rule rfl hd)
   |false=>
    obtain⟨r,hg,hr⟩:=(hR ms).made rfl hd;exact Zfy ms hg hr
theorem all_true(ns:List Int)(hn:ns.length<=63):ZiC [.lst (ns.map D.int)]=some (.bl true):=by
 have hcut:eSl (Za 0) xNoP (xP (eC (.int 200))) [some (.lst (ns.map D.int)),none,none,none,none,none,none,none,none]=some (.lst (ns.map D.int)):=by
  show some (D.lst (cutL (ns.map D.int) none (some ((200:Nat):Int))))=_;rw [Za9,List.take_of_length_le (by rw [List.length_map];omega)]
 have hlen:eOp addD (eCB lenD (Zb (Za 1) eNil)) (eC (.int 1)) [some (.lst (ns.map D.int)),some (.lst (ns.map D.int)),none,none,none,none,none,none,none]=some (.int ((ns.map D.int).length+1)):=(ZA (x:=.int (ns.map D.int).length) rfl rfl).trans rfl;have hr:=Zir (α:=Zb (eC (.int 0)) (Zb (eOp addD (eCB lenD (Zb (Za 1) eNil)) (eC (.int 1))) (Zb (eC (.int 5)) eNil))) (Zg rfl (Zg hlen (Zg rfl nil_of))) (by omega) (by rw [List.length_map];omega)
 obtain⟨δ',h1,_⟩:=ZaL (γ:=ZR 2) (φ:=lwB) (λδ=>∃x2 x3 x4 x5 x6 x7 x8,δ=[some (.lst (ns.map D.int)),some (.lst (ns.map D.int)),x2,x3,x4,x5,x6,x7,x8]) (YT 0 5 (PySem.Builtin.Range.rangeSize 0 ((ns.map D.int).length+1) 5).toNat) [some (.lst (ns.map D.int)),some (.lst (ns.map D.int)),none,none,none,none,none,none,none] ⟨_,_,_,_,_,_,_,rfl⟩ λd hd δ ⟨x2,x3,x4,x5,x6,x7,x8,hδ⟩=>by
  subst hδ;obtain⟨i,hi,rfl⟩:=Zbh hd;obtain⟨y3,y4,y5,y6,y7,y8,hz⟩:=ZfC ns (i*5) x3 x4 x5 x6 x7 x8;have ei:(0:Int)+(i:Nat)*5=((i*5:Nat):Int):=by omega
  rw [ei];exact⟨_,rfl,_,hz,_,_,_,_,_,_,_,rfl⟩
 have t0:ZN (xB (Zs 0 ZiB [] eNil)) [some (.lst (ns.map D.int)),none,none,none,none,none,none,none,none]=some false:=Qw (Y8 (b:=true) ((YY nil_of rfl).trans ZfB));exact XH rfl ((ZE ((Vk t0).trans rfl)).trans ((ZE (Zm hcut)).trans ((ZE (Zdg hr h1)).trans (XR rfl))))
end K05
namespace K05
open PySem PySem.Spec L2 DL
def ZeD(K:PySem.W.Frag):Sp:=λvs H Q _=>∃(a:Addr) (ns:List Int),vs=[.ref a]/\SqL K H a (ns.map V.int)/\ns.length<=63/\∀H',Q (.bl true) H'
theorem Zit(hall:∀ns:List Int,ns.length<=63->ZiC [.lst (ns.map D.int)]=some (.bl true)){P:Program}{w:World}{K:PySem.W.Frag}{mg:Str->Option Value}{base:Heap}{t:Adr}(T:Txt K mg t):FnOk P w K mg base CX0 8 t.a_Q7 t.d_Q7 ["script"] (ZeD K):=
 (ZkR T).imp λvs H Q E ⟨a,ns,hv,hr,hl,q⟩=>by
   subst hv;refine⟨λ_=>False,[.lst (ns.map D.int)],.bl true,λ_ z=>z.elim,.cons ?_ .nil,rfl,hall ns hl,λv H' _ r => ?_⟩
   · unfold Rep
     refine⟨a,_,rfl,λz=>z.elim,hr,?_⟩;have:=RepL.of_vals (cA:=⟨t.c,K⟩) (av:=λ_=>False) (H:=H) (xs:=ns.map D.int) (by rw [List.all_map];exact List.all_eq_true.mpr λ_ _=>rfl);rw [List.map_map]at this;exact this
   · cases(show v=_ from r)
     exact q H'
theorem all_mk (hall:∀ns:List Int,ns.length<=63->ZiC [.lst (ns.map D.int)]=some (.bl true)) {l:PySem.W.OpenLaw} {w:World} {K:PySem.W.Frag} {h:Heap} {mg:Str->Option Value} {fa:Addr} (X:K.In h) (G:h.Ns mainGlobals mg) (hfa:mg "law" = some (.ref fa))
 {c_Rule:Addr}
 {c_Gap:Addr}
 {c_Never:Addr}
 {c_Sum:Addr}
 {c_Turn:Addr}
 {c_Alike:Addr}
 {c_All:Addr}
 {c_GrooveError:Addr}
 {c_BadMarks:Addr}
 {c_BadRule:Addr}
 {c_BadMark:Addr}
 {c_TooLarge:Addr}
 {c_Nothing:Addr}
 {c_NoRow:Addr}
 {c_BadSign:Addr}
 {c_Unread:Addr}
 {c_BadRow:Addr}
 {c_BadTable:Addr}
 {f0 f1 f2 f3 f4 f5 f6 f7 f8 f9 f10 f11 f12 f14 f15 f16 f17 f18 f19 f20 f21 f22 f23 f24 f25 f26 f27 f28 f29 f30 f31 f32 f33:Addr} {d0 d1 d2 d3 d4 d5 d6 d7 d8 d9 d10 d11 d12 d14 d15 d16 d17 d18 d19 d20 d21 d22 d23 d24 d25 d26 d27 d28 d29 d30 d31 d32 d33:FuncData}
 {f13:Addr} {od13 an13:Option Addr} {sl13:Array (Option Value)} {oc13 kV13 dc13 pm13 cd13 ct13:Value}
 {dt13:Addr} {do13:Obj} {dn13:Nat}
 {x_MARK_SIGNS:Str} {t_MARK_SIGNS:Tok}
 (Zsk:nsIn K mainGlobals "Rule" = some (some (.ref c_Rule)))
 (Zsf:nsIn K mainGlobals "Gap" = some (some (.ref c_Gap)))
 (Zsh:nsIn K mainGlobals "Never" = some (some (.ref c_Never)))
 (Zsl:nsIn K mainGlobals "Sum" = some (some (.ref c_Sum)))
 (Zsn:nsIn K mainGlobals "Turn" = some (some (.ref c_Turn)))
 (Zr7:nsIn K mainGlobals "Alike" = some (some (.ref c_Alike)))
 (Zr8:nsIn K mainGlobals "All" = some (some (.ref c_All)))
 (Zsg:nsIn K mainGlobals "GrooveError" = some (some (.ref c_GrooveError)))
 (Zsa:nsIn K mainGlobals "BadMarks" = some (some (.ref c_BadMarks)))
 (Zsc:nsIn K mainGlobals "BadRule" = some (some (.ref c_BadRule)))
 (Zr9:nsIn K mainGlobals "BadMark" = some (some (.ref c_BadMark)))
 (Zsm:nsIn K mainGlobals "TooLarge" = some (some (.ref c_TooLarge)))
 (Zsj:nsIn K mainGlobals "Nothing" = some (some (.ref c_Nothing)))
 (Zsi:nsIn K mainGlobals "NoRow" = some (some (.ref c_NoRow)))
 (Zsd:nsIn K mainGlobals "BadSign" = some (some (.ref c_BadSign)))
 (Zso:nsIn K mainGlobals "Unread" = some (some (.ref c_Unread)))
 (Zsb:nsIn K mainGlobals "BadRow" = some (some (.ref c_BadRow)))
 (Zse:nsIn K mainGlobals "BadTable" = some (some (.ref c_BadTable)))
 (a0:PySem.W.findIn K (.ref c_BadRow) "__init__" = some (some (.ref f0)))
 (l0:Fun K "__init__" "BadRow.__init__" ZiD f0 d0)
 (a1:PySem.W.findIn K (.ref c_BadTable) "__init__" = some (some (.ref f1)))
 (l1:Fun K "__init__" "BadTable.__init__" ZiE f1 d1)
 (l2:Fg K "marks_stand" Jh f2 d2)
 (l3:Fg K "is_mark" ZiF f3 d3)
 (l4:Fg K "is_whole" ZiG f4 d4)
 (l5:Fg K "demand" ZiH f5 d5)
 (a6:PySem.W.findIn K (.ref c_Rule) "__init__" = some (some (.ref f6)))
 (l6:Fun K "__init__" "Rule.__init__" ZiI f6 d6)
 (a7:PySem.W.findIn K (.ref c_Rule) "begin" = some (some (.ref f7)))
 (l7:Fun K "begin" "Rule.begin" ZiJ f7 d7)
 (a8:PySem.W.findIn K (.ref c_Gap) "begin" = some (some (.ref f8)))
 (l8:Fun K "begin" "Gap.begin" ZiK f8 d8)
 (a9:PySem.W.findIn K (.ref c_Alike) "begin" = some (some (.ref f9)))
 (l9:Fun K "begin" "Alike.begin" ZiL f9 d9)
 (a10:PySem.W.findIn K (.ref c_All) "begin" = some (some (.ref f10)))
 (l10:Fun K "begin" "All.begin" Ji f10 d10)
 (a11:PySem.W.findIn K (.ref c_Rule) "broken_at" = some (some (.ref f11)))
 (l11:Fun K "broken_at" "Rule.broken_at" ZiM f11 d11)
 (a12:PySem.W.findIn K (.ref c_Rule) "keeps" = some (some (.ref f12)))
 (l12:Fun K "keeps" "Rule.keeps" ZiN f12 d12)
 (a13:PySem.W.findIn K (.ref c_Gap) "__init__" = some (some (.ref f13)))
 (l13:K.lookup f13=some ⟨oc13,od13,.func (fnOf "__init__" "Gap.__init__" (defArgs V1) (defBody V1) (defScope V1) (.ref dt13) kV13 dc13 pm13 an13 cd13 ct13),sl13⟩)
 (c13:codeIn K cd13 "Gap.__init__" = true)
 (k13:PySem.W.keepIn K (.ref f13)=true)
 (y13:K.lookup dt13=some do13)
 (yd13:do13.data = .seq ([.none]:List Value).toArray dn13)
 (a14:PySem.W.findIn K (.ref c_Never) "__init__" = some (some (.ref f14)))
 (l14:Fun K "__init__" "Never.__init__" Jj f14 d14)
 (a15:PySem.W.findIn K (.ref c_Sum) "__init__" = some (some (.ref f15)))
 (l15:Fun K "__init__" "Sum.__init__" Jk f15 d15)
 (a16:PySem.W.findIn K (.ref c_Turn) "__init__" = some (some (.ref f16)))
 (l16:Fun K "__init__" "Turn.__init__" ZiO f16 d16)
 (a17:PySem.W.findIn K (.ref c_Alike) "__init__" = some (some (.ref f17)))
 (l17:Fun K "__init__" "Alike.__init__" ZiP f17 d17)
 (a18:PySem.W.findIn K (.ref c_All) "__init__" = some (some (.ref f18)))
 (l18:Fun K "__init__" "All.__init__" QB f18 d18)
 (l19:Fg K "_law_cell_at" ZiQ f19 d19)
 (l20:Fg K "_law_marks" Jl f20 d20)
 (l21:Fg K "_law_bad_marks" ZiR f21 d21)
 (l22:Fg K "_law_out" ZiS f22 d22)
 (l23:Fg K "_law_strange" Jm f23 d23)
 (l24:Fg K "_law_gap" ZiT f24 d24)
 (l25:Fg K "_law_word" Jn f25 d25)
 (l26:Fg K "_law_sum" Jo f26 d26)
 (l27:Fg K "_law_turn" ZiU f27 d27)
 (l28:Fg K "_law_all" QC f28 d28)
 (l29:Fg K "_law_made" ZiV f29 d29)
 (l30:Fg K "_law_asked" ZiW f30 d30)
 (l31:Fg K "_law_kinds" ZiX f31 d31)
 (l32:Fg K "_law_apart" ZiY f32 d32)
 (l33:Fg K "law" Jp f33 d33)
 (Zss:nsIn K mainGlobals "ValueError" = some none)
 (Zst:nsIn K mainGlobals "all" = some none)
 (Zsu:nsIn K mainGlobals "any" = some none)
 (Zsv:nsIn K mainGlobals "bool" = some none)
 (Zsw:nsIn K mainGlobals "enumerate" = some none)
 (Zsx:nsIn K mainGlobals "int" = some none)
 (Zsy:nsIn K mainGlobals "isinstance" = some none)
 (Zsz:nsIn K mainGlobals "len" = some none)
 (ZsA:nsIn K mainGlobals "list" = some none)
 (ZsB:nsIn K mainGlobals "min" = some none)
 (ZsC:nsIn K mainGlobals "range" = some none)
 (ZsD:nsIn K mainGlobals "reversed" = some none)
 (ZsE:nsIn K mainGlobals "tuple" = some none)
 (ZsF:nsIn K mainGlobals "zip" = some none)
 (ZrH:nsIn K mainGlobals "MARK_SIGNS" = some (some (.str x_MARK_SIGNS t_MARK_SIGNS)))
 (ZrI:x_MARK_SIGNS=tx cs_MARK_SIGNS)
 (Zrp:PySem.W.plainGet K c_Rule Str.empty=true)
 (ZmY:PySem.W.hasDictIn K c_Rule=true)
 (Zrw:PySem.W.plainOver K c_Rule=true)
 (ZrE:PySem.W.findIn K (.ref c_Rule) "__setattr__" = some (some (.builtin "object.__setattr__")))
 (ZmR:PySem.W.findIn K (.ref c_Rule) "__class__" = some (some (.builtin "object.__class__")))
 (Zm5:PySem.W.mroIn K c_Rule (.type "object")=some true)
 (ZqE:PySem.W.makesIn K c_Rule=true)
 (ZpY:PySem.W.keepIn K (.ref c_Rule)=true)
 (Zqx:PySem.W.findIn K (.ref c_Rule) "__init__" = some (some (.ref f6)))
 (Zqq:PySem.W.isFn K (.ref f6)=true)
 (Zrn:PySem.W.plainGet K c_Gap Str.empty=true)
 (ZmW:PySem.W.hasDictIn K c_Gap=true)
 (Zru:PySem.W.plainOver K c_Gap=true)
 (ZrC:PySem.W.findIn K (.ref c_Gap) "__setattr__" = some (some (.builtin "object.__setattr__")))
 (ZmP:PySem.W.findIn K (.ref c_Gap) "__class__" = some (some (.builtin "object.__class__")))
 (Zm3:PySem.W.mroIn K c_Gap (.type "object")=some true)
 (ZqC:PySem.W.makesIn K c_Gap=true)
 (ZpW:PySem.W.keepIn K (.ref c_Gap)=true)
 (Zqv:PySem.W.findIn K (.ref c_Gap) "__init__" = some (some (.ref f13)))
 (Zqo:PySem.W.isFn K (.ref f13)=true)
 (Zro:PySem.W.plainGet K c_Never Str.empty=true)
 (ZmX:PySem.W.hasDictIn K c_Never=true)
 (Zrv:PySem.W.plainOver K c_Never=true)
 (ZrD:PySem.W.findIn K (.ref c_Never) "__setattr__" = some (some (.builtin "object.__setattr__")))
 (ZmQ:PySem.W.findIn K (.ref c_Never) "__class__" = some (some (.builtin "object.__class__")))
 (Zm4:PySem.W.mroIn K c_Never (.type "object")=some true)
 (ZqD:PySem.W.makesIn K c_Never=true)
 (ZpX:PySem.W.keepIn K (.ref c_Never)=true)
 (Zqw:PySem.W.findIn K (.ref c_Never) "__init__" = some (some (.ref f14)))
 (Zqp:PySem.W.isFn K (.ref f14)=true)
 (Zrq:PySem.W.plainGet K c_Sum Str.empty=true)
 (ZmZ:PySem.W.hasDictIn K c_Sum=true)
 (Zrx:PySem.W.plainOver K c_Sum=true)
 (ZrF:PySem.W.findIn K (.ref c_Sum) "__setattr__" = some (some (.builtin "object.__setattr__")))
 (ZmS:PySem.W.findIn K (.ref c_Sum) "__class__" = some (some (.builtin "object.__class__")))
 (Zm6:PySem.W.mroIn K c_Sum (.type "object")=some true)
 (ZqF:PySem.W.makesIn K c_Sum=true)
 (ZpZ:PySem.W.keepIn K (.ref c_Sum)=true)
 (Zqy:PySem.W.findIn K (.ref c_Sum) "__init__" = some (some (.ref f15)))
 (Zqr:PySem.W.isFn K (.ref f15)=true)
 (Zrr:PySem.W.plainGet K c_Turn Str.empty=true)
 (Zm0:PySem.W.hasDictIn K c_Turn=true)
 (Zry:PySem.W.plainOver K c_Turn=true)
 (ZrG:PySem.W.findIn K (.ref c_Turn) "__setattr__" = some (some (.builtin "object.__setattr__")))
 (ZmT:PySem.W.findIn K (.ref c_Turn) "__class__" = some (some (.builtin "object.__class__")))
 (Zm7:PySem.W.mroIn K c_Turn (.type "object")=some true)
 (ZqG:PySem.W.makesIn K c_Turn=true)
 (Zp0:PySem.W.keepIn K (.ref c_Turn)=true)
 (Zqz:PySem.W.findIn K (.ref c_Turn) "__init__" = some (some (.ref f16)))
 (Zqs:PySem.W.isFn K (.ref f16)=true)
 (Zrl:PySem.W.plainGet K c_Alike Str.empty=true)
 (ZmU:PySem.W.hasDictIn K c_Alike=true)
 (Zrs:PySem.W.plainOver K c_Alike=true)
 (ZrA:PySem.W.findIn K (.ref c_Alike) "__setattr__" = some (some (.builtin "object.__setattr__")))
 (ZmN:PySem.W.findIn K (.ref c_Alike) "__class__" = some (some (.builtin "object.__class__")))
 (Zm1:PySem.W.mroIn K c_Alike (.type "object")=some true)
 (ZqA:PySem.W.makesIn K c_Alike=true)
 (ZpU:PySem.W.keepIn K (.ref c_Alike)=true)
 (Zqt:PySem.W.findIn K (.ref c_Alike) "__init__" = some (some (.ref f17)))
 (Zqm:PySem.W.isFn K (.ref f17)=true)
 (Zrm:PySem.W.plainGet K c_All Str.empty=true)
 (ZmV:PySem.W.hasDictIn K c_All=true)
 (Zrt:PySem.W.plainOver K c_All=true)
 (ZrB:PySem.W.findIn K (.ref c_All) "__setattr__" = some (some (.builtin "object.__setattr__")))
 (ZmO:PySem.W.findIn K (.ref c_All) "__class__" = some (some (.builtin "object.__class__")))
 (Zm2:PySem.W.mroIn K c_All (.type "object")=some true)
 (ZqB:PySem.W.makesIn K c_All=true)
 (ZpV:PySem.W.keepIn K (.ref c_All)=true)
 (Zqu:PySem.W.findIn K (.ref c_All) "__init__" = some (some (.ref f18)))
 (Zqn:PySem.W.isFn K (.ref f18)=true)
 (hn_:PySem.W.specialIn K (.builtin "object.__class__") "__get__" = some (some (.builtin "getset_descriptor.__get__")))
 (htk_:PySem.W.takesIn K (.builtin "object.__class__")=some true)
 (ZlD:PySem.W.excIn K c_BadMarks bmV "ValueError.__new__" = true)
 (ZrQ:PySem.W.keepIn K (.ref c_BadMarks)=true)
 (ZlL:PySem.W.findIn K (.ref c_BadMarks) "__getattribute__" = some (some (.builtin "BaseException.__getattribute__")))
 (Zmp:PySem.W.mroIn K c_BadMarks (.type "BaseException")=some true)
 (ZlV:PySem.W.findIn K (.ref c_BadMarks) "__getattr__" = some none)
 (Zl5:PySem.W.findIn K (.ref c_BadMarks) "__class__" = some (some (.builtin "object.__class__")))
 (Zmf:PySem.W.mroIn K c_BadMarks (.type "object")=some true)
 (Zmz:(PySem.W.clsIn K c_BadMarks).isSome=true)
 (Zny:PySem.W.kitOne K (.ref c_BadMarks) (.ref c_GrooveError)=some true)
 (ZnD:PySem.W.kitOne K (.ref c_BadMarks) (.type "ValueError")=some true)
 (Znv:PySem.W.kitOne K (.ref c_BadMarks) (.ref c_BadRule)=some false)
 (Zns:PySem.W.kitOne K (.ref c_BadMarks) (.ref c_BadMark)=some false)
 (Znt:PySem.W.kitOne K (.ref c_BadMarks) (.ref c_BadMarks)=some true)
 (ZnB:PySem.W.kitOne K (.ref c_BadMarks) (.ref c_TooLarge)=some false)
 (ZnA:PySem.W.kitOne K (.ref c_BadMarks) (.ref c_Nothing)=some false)
 (Znz:PySem.W.kitOne K (.ref c_BadMarks) (.ref c_NoRow)=some false)
 (Znw:PySem.W.kitOne K (.ref c_BadMarks) (.ref c_BadSign)=some false)
 (ZnC:PySem.W.kitOne K (.ref c_BadMarks) (.ref c_Unread)=some false)
 (Znu:PySem.W.kitOne K (.ref c_BadMarks) (.ref c_BadRow)=some false)
 (Znx:PySem.W.kitOne K (.ref c_BadMarks) (.ref c_BadTable)=some false)
 (ZlE:PySem.W.excIn K c_BadRule bmV "ValueError.__new__" = true)
 (ZrS:PySem.W.keepIn K (.ref c_BadRule)=true)
 (ZlN:PySem.W.findIn K (.ref c_BadRule) "__getattribute__" = some (some (.builtin "BaseException.__getattribute__")))
 (Zmr:PySem.W.mroIn K c_BadRule (.type "BaseException")=some true)
 (ZlX:PySem.W.findIn K (.ref c_BadRule) "__getattr__" = some none)
 (Zl7:PySem.W.findIn K (.ref c_BadRule) "__class__" = some (some (.builtin "object.__class__")))
 (Zmh:PySem.W.mroIn K c_BadRule (.type "object")=some true)
 (ZmB:(PySem.W.clsIn K c_BadRule).isSome=true)
 (ZnW:PySem.W.kitOne K (.ref c_BadRule) (.ref c_GrooveError)=some true)
 (Zn1:PySem.W.kitOne K (.ref c_BadRule) (.type "ValueError")=some true)
 (ZnT:PySem.W.kitOne K (.ref c_BadRule) (.ref c_BadRule)=some true)
 (ZnQ:PySem.W.kitOne K (.ref c_BadRule) (.ref c_BadMark)=some false)
 (ZnR:PySem.W.kitOne K (.ref c_BadRule) (.ref c_BadMarks)=some false)
 (ZnZ:PySem.W.kitOne K (.ref c_BadRule) (.ref c_TooLarge)=some false)
 (ZnY:PySem.W.kitOne K (.ref c_BadRule) (.ref c_Nothing)=some false)
 (ZnX:PySem.W.kitOne K (.ref c_BadRule) (.ref c_NoRow)=some false)
 (ZnU:PySem.W.kitOne K (.ref c_BadRule) (.ref c_BadSign)=some false)
 (Zn0:PySem.W.kitOne K (.ref c_BadRule) (.ref c_Unread)=some false)
 (ZnS:PySem.W.kitOne K (.ref c_BadRule) (.ref c_BadRow)=some false)
 (ZnV:PySem.W.kitOne K (.ref c_BadRule) (.ref c_BadTable)=some false)
 (ZlC:PySem.W.excIn K c_BadMark bmV "ValueError.__new__" = true)
 (ZrP:PySem.W.keepIn K (.ref c_BadMark)=true)
 (ZlK:PySem.W.findIn K (.ref c_BadMark) "__getattribute__" = some (some (.builtin "BaseException.__getattribute__")))
 (Zmo:PySem.W.mroIn K c_BadMark (.type "BaseException")=some true)
 (ZlU:PySem.W.findIn K (.ref c_BadMark) "__getattr__" = some none)
 (Zl4:PySem.W.findIn K (.ref c_BadMark) "__class__" = some (some (.builtin "object.__class__")))
 (Zme:PySem.W.mroIn K c_BadMark (.type "object")=some true)
 (Zmy:(PySem.W.clsIn K c_BadMark).isSome=true)
 (Znm:PySem.W.kitOne K (.ref c_BadMark) (.ref c_GrooveError)=some true)
 (Znr:PySem.W.kitOne K (.ref c_BadMark) (.type "ValueError")=some true)
 (Znj:PySem.W.kitOne K (.ref c_BadMark) (.ref c_BadRule)=some false)
 (Zng:PySem.W.kitOne K (.ref c_BadMark) (.ref c_BadMark)=some true)
 (Znh:PySem.W.kitOne K (.ref c_BadMark) (.ref c_BadMarks)=some false)
 (Znp:PySem.W.kitOne K (.ref c_BadMark) (.ref c_TooLarge)=some false)
 (Zno:PySem.W.kitOne K (.ref c_BadMark) (.ref c_Nothing)=some false)
 (Znn:PySem.W.kitOne K (.ref c_BadMark) (.ref c_NoRow)=some false)
 (Znk:PySem.W.kitOne K (.ref c_BadMark) (.ref c_BadSign)=some false)
 (Znq:PySem.W.kitOne K (.ref c_BadMark) (.ref c_Unread)=some false)
 (Zni:PySem.W.kitOne K (.ref c_BadMark) (.ref c_BadRow)=some false)
 (Znl:PySem.W.kitOne K (.ref c_BadMark) (.ref c_BadTable)=some false)
 (ZlI:PySem.W.excIn K c_TooLarge bmV "ValueError.__new__" = true)
 (ZrX:PySem.W.keepIn K (.ref c_TooLarge)=true)
 (ZlS:PySem.W.findIn K (.ref c_TooLarge) "__getattribute__" = some (some (.builtin "BaseException.__getattribute__")))
 (Zmw:PySem.W.mroIn K c_TooLarge (.type "BaseException")=some true)
 (Zl2:PySem.W.findIn K (.ref c_TooLarge) "__getattr__" = some none)
 (Zmc:PySem.W.findIn K (.ref c_TooLarge) "__class__" = some (some (.builtin "object.__class__")))
 (Zmm:PySem.W.mroIn K c_TooLarge (.type "object")=some true)
 (ZmG:(PySem.W.clsIn K c_TooLarge).isSome=true)
 (Zpe:PySem.W.kitOne K (.ref c_TooLarge) (.ref c_GrooveError)=some true)
 (Zpj:PySem.W.kitOne K (.ref c_TooLarge) (.type "ValueError")=some true)
 (Zpb:PySem.W.kitOne K (.ref c_TooLarge) (.ref c_BadRule)=some false)
 (Zo8:PySem.W.kitOne K (.ref c_TooLarge) (.ref c_BadMark)=some false)
 (Zo9:PySem.W.kitOne K (.ref c_TooLarge) (.ref c_BadMarks)=some false)
 (Zph:PySem.W.kitOne K (.ref c_TooLarge) (.ref c_TooLarge)=some true)
 (Zpg:PySem.W.kitOne K (.ref c_TooLarge) (.ref c_Nothing)=some false)
 (Zpf:PySem.W.kitOne K (.ref c_TooLarge) (.ref c_NoRow)=some false)
 (Zpc:PySem.W.kitOne K (.ref c_TooLarge) (.ref c_BadSign)=some false)
 (Zpi:PySem.W.kitOne K (.ref c_TooLarge) (.ref c_Unread)=some false)
 (Zpa:PySem.W.kitOne K (.ref c_TooLarge) (.ref c_BadRow)=some false)
 (Zpd:PySem.W.kitOne K (.ref c_TooLarge) (.ref c_BadTable)=some false)
 (ZlH:PySem.W.excIn K c_Nothing bmV "ValueError.__new__" = true)
 (ZrW:PySem.W.keepIn K (.ref c_Nothing)=true)
 (ZlR:PySem.W.findIn K (.ref c_Nothing) "__getattribute__" = some (some (.builtin "BaseException.__getattribute__")))
 (Zmv:PySem.W.mroIn K c_Nothing (.type "BaseException")=some true)
 (Zl1:PySem.W.findIn K (.ref c_Nothing) "__getattr__" = some none)
 (Zmb:PySem.W.findIn K (.ref c_Nothing) "__class__" = some (some (.builtin "object.__class__")))
 (Zml:PySem.W.mroIn K c_Nothing (.type "object")=some true)
 (ZmF:(PySem.W.clsIn K c_Nothing).isSome=true)
 (ZoU:PySem.W.kitOne K (.ref c_Nothing) (.ref c_GrooveError)=some true)
 (ZoZ:PySem.W.kitOne K (.ref c_Nothing) (.type "ValueError")=some true)
 (ZoR:PySem.W.kitOne K (.ref c_Nothing) (.ref c_BadRule)=some false)
 (ZoO:PySem.W.kitOne K (.ref c_Nothing) (.ref c_BadMark)=some false)
 (ZoP:PySem.W.kitOne K (.ref c_Nothing) (.ref c_BadMarks)=some false)
 (ZoX:PySem.W.kitOne K (.ref c_Nothing) (.ref c_TooLarge)=some false)
 (ZoW:PySem.W.kitOne K (.ref c_Nothing) (.ref c_Nothing)=some true)
 (ZoV:PySem.W.kitOne K (.ref c_Nothing) (.ref c_NoRow)=some false)
 (ZoS:PySem.W.kitOne K (.ref c_Nothing) (.ref c_BadSign)=some false)
 (ZoY:PySem.W.kitOne K (.ref c_Nothing) (.ref c_Unread)=some false)
 (ZoQ:PySem.W.kitOne K (.ref c_Nothing) (.ref c_BadRow)=some false)
 (ZoT:PySem.W.kitOne K (.ref c_Nothing) (.ref c_BadTable)=some false)
 (ZlG:PySem.W.excIn K c_NoRow bmV "ValueError.__new__" = true)
 (ZrV:PySem.W.keepIn K (.ref c_NoRow)=true)
 (ZlQ:PySem.W.findIn K (.ref c_NoRow) "__getattribute__" = some (some (.builtin "BaseException.__getattribute__")))
 (Zmu:PySem.W.mroIn K c_NoRow (.type "BaseException")=some true)
 (Zl0:PySem.W.findIn K (.ref c_NoRow) "__getattr__" = some none)
 (Zma:PySem.W.findIn K (.ref c_NoRow) "__class__" = some (some (.builtin "object.__class__")))
 (Zmk:PySem.W.mroIn K c_NoRow (.type "object")=some true)
 (ZmE:(PySem.W.clsIn K c_NoRow).isSome=true)
 (ZoE:PySem.W.kitOne K (.ref c_NoRow) (.ref c_GrooveError)=some true)
 (ZoJ:PySem.W.kitOne K (.ref c_NoRow) (.type "ValueError")=some true)
 (ZoB:PySem.W.kitOne K (.ref c_NoRow) (.ref c_BadRule)=some false)
 (Zoy:PySem.W.kitOne K (.ref c_NoRow) (.ref c_BadMark)=some false)
 (Zoz:PySem.W.kitOne K (.ref c_NoRow) (.ref c_BadMarks)=some false)
 (ZoH:PySem.W.kitOne K (.ref c_NoRow) (.ref c_TooLarge)=some false)
 (ZoG:PySem.W.kitOne K (.ref c_NoRow) (.ref c_Nothing)=some false)
 (ZoF:PySem.W.kitOne K (.ref c_NoRow) (.ref c_NoRow)=some true)
 (ZoC:PySem.W.kitOne K (.ref c_NoRow) (.ref c_BadSign)=some false)
 (ZoI:PySem.W.kitOne K (.ref c_NoRow) (.ref c_Unread)=some false)
 (ZoA:PySem.W.kitOne K (.ref c_NoRow) (.ref c_BadRow)=some false)
 (ZoD:PySem.W.kitOne K (.ref c_NoRow) (.ref c_BadTable)=some false)
 (ZlF:PySem.W.excIn K c_BadSign bmV "ValueError.__new__" = true)
 (ZrT:PySem.W.keepIn K (.ref c_BadSign)=true)
 (ZlO:PySem.W.findIn K (.ref c_BadSign) "__getattribute__" = some (some (.builtin "BaseException.__getattribute__")))
 (Zms:PySem.W.mroIn K c_BadSign (.type "BaseException")=some true)
 (ZlY:PySem.W.findIn K (.ref c_BadSign) "__getattr__" = some none)
 (Zl8:PySem.W.findIn K (.ref c_BadSign) "__class__" = some (some (.builtin "object.__class__")))
 (Zmi:PySem.W.mroIn K c_BadSign (.type "object")=some true)
 (ZmC:(PySem.W.clsIn K c_BadSign).isSome=true)
 (Zn8:PySem.W.kitOne K (.ref c_BadSign) (.ref c_GrooveError)=some true)
 (Zod:PySem.W.kitOne K (.ref c_BadSign) (.type "ValueError")=some true)
 (Zn5:PySem.W.kitOne K (.ref c_BadSign) (.ref c_BadRule)=some false)
 (Zn2:PySem.W.kitOne K (.ref c_BadSign) (.ref c_BadMark)=some false)
 (Zn3:PySem.W.kitOne K (.ref c_BadSign) (.ref c_BadMarks)=some false)
 (Zob:PySem.W.kitOne K (.ref c_BadSign) (.ref c_TooLarge)=some false)
 (Zoa:PySem.W.kitOne K (.ref c_BadSign) (.ref c_Nothing)=some false)
 (Zn9:PySem.W.kitOne K (.ref c_BadSign) (.ref c_NoRow)=some false)
 (Zn6:PySem.W.kitOne K (.ref c_BadSign) (.ref c_BadSign)=some true)
 (Zoc:PySem.W.kitOne K (.ref c_BadSign) (.ref c_Unread)=some false)
 (Zn4:PySem.W.kitOne K (.ref c_BadSign) (.ref c_BadRow)=some false)
 (Zn7:PySem.W.kitOne K (.ref c_BadSign) (.ref c_BadTable)=some false)
 (ZlJ:PySem.W.excIn K c_Unread bmV "ValueError.__new__" = true)
 (ZrY:PySem.W.keepIn K (.ref c_Unread)=true)
 (ZlT:PySem.W.findIn K (.ref c_Unread) "__getattribute__" = some (some (.builtin "BaseException.__getattribute__")))
 (Zmx:PySem.W.mroIn K c_Unread (.type "BaseException")=some true)
 (Zl3:PySem.W.findIn K (.ref c_Unread) "__getattr__" = some none)
 (Zmd:PySem.W.findIn K (.ref c_Unread) "__class__" = some (some (.builtin "object.__class__")))
 (Zmn:PySem.W.mroIn K c_Unread (.type "object")=some true)
 (ZmH:(PySem.W.clsIn K c_Unread).isSome=true)
 (Zpu:PySem.W.kitOne K (.ref c_Unread) (.ref c_GrooveError)=some true)
 (Zpz:PySem.W.kitOne K (.ref c_Unread) (.type "ValueError")=some true)
 (Zpr:PySem.W.kitOne K (.ref c_Unread) (.ref c_BadRule)=some false)
 (Zpo:PySem.W.kitOne K (.ref c_Unread) (.ref c_BadMark)=some false)
 (Zpp:PySem.W.kitOne K (.ref c_Unread) (.ref c_BadMarks)=some false)
 (Zpx:PySem.W.kitOne K (.ref c_Unread) (.ref c_TooLarge)=some false)
 (Zpw:PySem.W.kitOne K (.ref c_Unread) (.ref c_Nothing)=some false)
 (Zpv:PySem.W.kitOne K (.ref c_Unread) (.ref c_NoRow)=some false)
 (Zps:PySem.W.kitOne K (.ref c_Unread) (.ref c_BadSign)=some false)
 (Zpy:PySem.W.kitOne K (.ref c_Unread) (.ref c_Unread)=some true)
 (Zpq:PySem.W.kitOne K (.ref c_Unread) (.ref c_BadRow)=some false)
 (Zpt:PySem.W.kitOne K (.ref c_Unread) (.ref c_BadTable)=some false)
 (ZrJ:UN K c_BadRow=true)
 (ZrL:PySem.W.findIn K (.ref c_BadRow) "__init__" = some (some (.ref f0)))
 (ZrN:PySem.W.isFn K (.ref f0)=true)
 (ZrZ:((PySem.W.clsIn K c_BadRow).any λcd=>UO cd.mro)=true)
 (Zr1:PySem.W.findIn K (.ref c_BadRow) "__setattr__" = some (some (.builtin "object.__setattr__")))
 (Zr3:PySem.W.findIn K (.ref c_BadRow) (Str.ofString "row")=some none)
 (Zr5:PySem.W.hasDictIn K c_BadRow=true)
 (ZrR:PySem.W.keepIn K (.ref c_BadRow)=true)
 (ZlM:PySem.W.findIn K (.ref c_BadRow) "__getattribute__" = some (some (.builtin "BaseException.__getattribute__")))
 (Zmq:PySem.W.mroIn K c_BadRow (.type "BaseException")=some true)
 (ZlW:PySem.W.findIn K (.ref c_BadRow) "__getattr__" = some none)
 (Zl6:PySem.W.findIn K (.ref c_BadRow) "__class__" = some (some (.builtin "object.__class__")))
 (Zmg:PySem.W.mroIn K c_BadRow (.type "object")=some true)
 (ZmA:(PySem.W.clsIn K c_BadRow).isSome=true)
 (ZnK:PySem.W.kitOne K (.ref c_BadRow) (.ref c_GrooveError)=some true)
 (ZnP:PySem.W.kitOne K (.ref c_BadRow) (.type "ValueError")=some true)
 (ZnH:PySem.W.kitOne K (.ref c_BadRow) (.ref c_BadRule)=some false)
 (ZnE:PySem.W.kitOne K (.ref c_BadRow) (.ref c_BadMark)=some false)
 (ZnF:PySem.W.kitOne K (.ref c_BadRow) (.ref c_BadMarks)=some false)
 (ZnN:PySem.W.kitOne K (.ref c_BadRow) (.ref c_TooLarge)=some false)
 (ZnM:PySem.W.kitOne K (.ref c_BadRow) (.ref c_Nothing)=some false)
 (ZnL:PySem.W.kitOne K (.ref c_BadRow) (.ref c_NoRow)=some false)
 (ZnI:PySem.W.kitOne K (.ref c_BadRow) (.ref c_BadSign)=some false)
 (ZnO:PySem.W.kitOne K (.ref c_BadRow) (.ref c_Unread)=some false)
 (ZnG:PySem.W.kitOne K (.ref c_BadRow) (.ref c_BadRow)=some true)
 (ZnJ:PySem.W.kitOne K (.ref c_BadRow) (.ref c_BadTable)=some false)
 (ZrK:UN K c_BadTable=true)
 (ZrM:PySem.W.findIn K (.ref c_BadTable) "__init__" = some (some (.ref f1)))
 (ZrO:PySem.W.isFn K (.ref f1)=true)
 (Zr0:((PySem.W.clsIn K c_BadTable).any λcd=>UO cd.mro)=true)
 (Zr2:PySem.W.findIn K (.ref c_BadTable) "__setattr__" = some (some (.builtin "object.__setattr__")))
 (Zr4:PySem.W.findIn K (.ref c_BadTable) (Str.ofString "row")=some none)
 (Zr6:PySem.W.hasDictIn K c_BadTable=true)
 (ZrU:PySem.W.keepIn K (.ref c_BadTable)=true)
 (ZlP:PySem.W.findIn K (.ref c_BadTable) "__getattribute__" = some (some (.builtin "BaseException.__getattribute__")))
 (Zmt:PySem.W.mroIn K c_BadTable (.type "BaseException")=some true)
 (ZlZ:PySem.W.findIn K (.ref c_BadTable) "__getattr__" = some none)
 (Zl9:PySem.W.findIn K (.ref c_BadTable) "__class__" = some (some (.builtin "object.__class__")))
 (Zmj:PySem.W.mroIn K c_BadTable (.type "object")=some true)
 (ZmD:(PySem.W.clsIn K c_BadTable).isSome=true)
 (Zok:PySem.W.kitOne K (.ref c_BadTable) (.ref c_GrooveError)=some true)
 (Zop:PySem.W.kitOne K (.ref c_BadTable) (.type "ValueError")=some true)
 (Zoh:PySem.W.kitOne K (.ref c_BadTable) (.ref c_BadRule)=some false)
 (Zoe:PySem.W.kitOne K (.ref c_BadTable) (.ref c_BadMark)=some false)
 (Zof:PySem.W.kitOne K (.ref c_BadTable) (.ref c_BadMarks)=some false)
 (Zon:PySem.W.kitOne K (.ref c_BadTable) (.ref c_TooLarge)=some false)
 (Zom:PySem.W.kitOne K (.ref c_BadTable) (.ref c_Nothing)=some false)
 (Zol:PySem.W.kitOne K (.ref c_BadTable) (.ref c_NoRow)=some false)
 (Zoi:PySem.W.kitOne K (.ref c_BadTable) (.ref c_BadSign)=some false)
 (Zoo:PySem.W.kitOne K (.ref c_BadTable) (.ref c_Unread)=some false)
 (Zog:PySem.W.kitOne K (.ref c_BadTable) (.ref c_BadRow)=some false)
 (Zoj:PySem.W.kitOne K (.ref c_BadTable) (.ref c_BadTable)=some true)
 (ZmK:PySem.W.exmOne K (.ref c_BadRule) (.ref c_BadRule)=some true)
 (ZmI:PySem.W.exmOne K (.ref c_BadMarks) (.ref c_BadMarks)=some true)
 (ZmJ:PySem.W.exmOne K (.ref c_BadRule) (.ref c_BadMarks)=some false)
 (Zsp:PySem.W.specialIn K (.ref c_GrooveError) "__getattribute__" = some (some (.builtin "type.__getattribute__")))
 (Zsq:PySem.W.readsIn K c_GrooveError (.type "type")=true)
 (Zsr:PySem.W.findCls K (.ref c_GrooveError) (.type "type") "__init__" = some (.val (.builtin "ValueError.__init__")))
 (Zrh:PySem.W.findIn K (.ref c_Turn) "at" = some none)
 (Zri:PySem.W.findIn K (.ref c_Turn) "every" = some none)
 (Zrd:PySem.W.findIn K (.ref c_Sum) "high" = some none)
 (Zq6:PySem.W.findIn K (.ref c_Gap) "least" = some none)
 (Zre:PySem.W.findIn K (.ref c_Sum) "low" = some none)
 (Zq7:PySem.W.findIn K (.ref c_Gap) "mark" = some none)
 (Zrj:PySem.W.findIn K (.ref c_Turn) "mark" = some none)
 (Zrc:PySem.W.findIn K (.ref c_Rule) "marks" = some none)
 (Zq8:PySem.W.findIn K (.ref c_Gap) "marks" = some none)
 (Zra:PySem.W.findIn K (.ref c_Never) "marks" = some none)
 (Zrf:PySem.W.findIn K (.ref c_Sum) "marks" = some none)
 (Zrk:PySem.W.findIn K (.ref c_Turn) "marks" = some none)
 (Zq2:PySem.W.findIn K (.ref c_Alike) "marks" = some none)
 (Zq4:PySem.W.findIn K (.ref c_All) "marks" = some none)
 (Zq9:PySem.W.findIn K (.ref c_Gap) "most" = some none)
 (Zq3:PySem.W.findIn K (.ref c_Alike) "most" = some none)
 (Zq5:PySem.W.findIn K (.ref c_All) "rules" = some none)
 (Zrb:PySem.W.findIn K (.ref c_Never) "word" = some none)
 (Zrg:PySem.W.findIn K (.ref c_Sum) "worths" = some none)
 (Zqd:PySem.W.findIn K (.ref c_Rule) "begin" = some (some (.ref f7)))
 (ZqT:PySem.W.isFn K (.ref f7)=true)
 (Zp7:PySem.W.findIn K (.ref c_Gap) "begin" = some (some (.ref f8)))
 (ZqN:PySem.W.isFn K (.ref f8)=true)
 (Zqa:PySem.W.findIn K (.ref c_Never) "begin" = some (some (.ref f7)))
 (ZqQ:PySem.W.isFn K (.ref f7)=true)
 (Zqg:PySem.W.findIn K (.ref c_Sum) "begin" = some (some (.ref f7)))
 (ZqW:PySem.W.isFn K (.ref f7)=true)
 (Zqj:PySem.W.findIn K (.ref c_Turn) "begin" = some (some (.ref f7)))
 (ZqZ:PySem.W.isFn K (.ref f7)=true)
 (Zp1:PySem.W.findIn K (.ref c_Alike) "begin" = some (some (.ref f9)))
 (ZqH:PySem.W.isFn K (.ref f9)=true)
 (Zp4:PySem.W.findIn K (.ref c_All) "begin" = some (some (.ref f10)))
 (ZqK:PySem.W.isFn K (.ref f10)=true)
 (Zqe:PySem.W.findIn K (.ref c_Rule) "broken_at" = some (some (.ref f11)))
 (ZqU:PySem.W.isFn K (.ref f11)=true)
 (Zp8:PySem.W.findIn K (.ref c_Gap) "broken_at" = some (some (.ref f11)))
 (ZqO:PySem.W.isFn K (.ref f11)=true)
 (Zqb:PySem.W.findIn K (.ref c_Never) "broken_at" = some (some (.ref f11)))
 (ZqR:PySem.W.isFn K (.ref f11)=true)
 (Zqh:PySem.W.findIn K (.ref c_Sum) "broken_at" = some (some (.ref f11)))
 (ZqX:PySem.W.isFn K (.ref f11)=true)
 (Zqk:PySem.W.findIn K (.ref c_Turn) "broken_at" = some (some (.ref f11)))
 (Zq0:PySem.W.isFn K (.ref f11)=true)
 (Zp2:PySem.W.findIn K (.ref c_Alike) "broken_at" = some (some (.ref f11)))
 (ZqI:PySem.W.isFn K (.ref f11)=true)
 (Zp5:PySem.W.findIn K (.ref c_All) "broken_at" = some (some (.ref f11)))
 (ZqL:PySem.W.isFn K (.ref f11)=true)
 (Zqf:PySem.W.findIn K (.ref c_Rule) "keeps" = some (some (.ref f12)))
 (ZqV:PySem.W.isFn K (.ref f12)=true)
 (Zp9:PySem.W.findIn K (.ref c_Gap) "keeps" = some (some (.ref f12)))
 (ZqP:PySem.W.isFn K (.ref f12)=true)
 (Zqc:PySem.W.findIn K (.ref c_Never) "keeps" = some (some (.ref f12)))
 (ZqS:PySem.W.isFn K (.ref f12)=true)
 (Zqi:PySem.W.findIn K (.ref c_Sum) "keeps" = some (some (.ref f12)))
 (ZqY:PySem.W.isFn K (.ref f12)=true)
 (Zql:PySem.W.findIn K (.ref c_Turn) "keeps" = some (some (.ref f12)))
 (Zq1:PySem.W.isFn K (.ref f12)=true)
 (Zp3:PySem.W.findIn K (.ref c_Alike) "keeps" = some (some (.ref f12)))
 (ZqJ:PySem.W.isFn K (.ref f12)=true)
 (Zp6:PySem.W.findIn K (.ref c_All) "keeps" = some (some (.ref f12)))
 (ZqM:PySem.W.isFn K (.ref f12)=true)
 (ZmM:PySem.W.specialIn K (.ref c_Rule) "__getattribute__" = some (some (.builtin "type.__getattribute__")))
 (Zrz:PySem.W.readsIn K c_Rule (.type "type")=true)
 (ZmL:PySem.W.findCls K (.ref c_Rule) (.type "type") "__init__" = some (.val (.ref f6)))
 (ZoK:PySem.W.kitOne K (.type "NoneType") (.ref c_All)=some false)
 (ZpA:PySem.W.kitOne K (.type "bool") (.ref c_All)=some false)
 (ZpE:PySem.W.kitOne K (.type "int") (.ref c_All)=some false)
 (ZpM:PySem.W.kitOne K (.type "str") (.ref c_All)=some false)
 (ZpI:PySem.W.kitOne K (.type "list") (.ref c_All)=some false)
 (ZpQ:PySem.W.kitOne K (.type "tuple") (.ref c_All)=some false)
 (Zo0:PySem.W.kitOne K (.ref c_Rule) (.ref c_All)=some false)
 (Zoq:PySem.W.kitOne K (.ref c_Gap) (.ref c_All)=some false)
 (Zou:PySem.W.kitOne K (.ref c_Never) (.ref c_All)=some false)
 (Zo4:PySem.W.kitOne K (.ref c_Sum) (.ref c_All)=some false)
 (Zpk:PySem.W.kitOne K (.ref c_Turn) (.ref c_All)=some false)
 (Zm8:PySem.W.kitOne K (.ref c_Alike) (.ref c_All)=some false)
 (Znc:PySem.W.kitOne K (.ref c_All) (.ref c_All)=some true)
 (ZoL:PySem.W.kitOne K (.type "NoneType") (.ref c_Rule)=some false)
 (ZpB:PySem.W.kitOne K (.type "bool") (.ref c_Rule)=some false)
 (ZpF:PySem.W.kitOne K (.type "int") (.ref c_Rule)=some false)
 (ZpN:PySem.W.kitOne K (.type "str") (.ref c_Rule)=some false)
 (ZpJ:PySem.W.kitOne K (.type "list") (.ref c_Rule)=some false)
 (ZpR:PySem.W.kitOne K (.type "tuple") (.ref c_Rule)=some false)
 (Zo1:PySem.W.kitOne K (.ref c_Rule) (.ref c_Rule)=some true)
 (Zor:PySem.W.kitOne K (.ref c_Gap) (.ref c_Rule)=some true)
 (Zov:PySem.W.kitOne K (.ref c_Never) (.ref c_Rule)=some true)
 (Zo5:PySem.W.kitOne K (.ref c_Sum) (.ref c_Rule)=some true)
 (Zpl:PySem.W.kitOne K (.ref c_Turn) (.ref c_Rule)=some true)
 (Zm9:PySem.W.kitOne K (.ref c_Alike) (.ref c_Rule)=some true)
 (Znd:PySem.W.kitOne K (.ref c_All) (.ref c_Rule)=some true)
 (ZoM:PySem.W.kitOne K (.type "NoneType") (.type "bool")=some false)
 (ZpC:PySem.W.kitOne K (.type "bool") (.type "bool")=some true)
 (ZpG:PySem.W.kitOne K (.type "int") (.type "bool")=some false)
 (ZpO:PySem.W.kitOne K (.type "str") (.type "bool")=some false)
 (ZpK:PySem.W.kitOne K (.type "list") (.type "bool")=some false)
 (ZpS:PySem.W.kitOne K (.type "tuple") (.type "bool")=some false)
 (Zo2:PySem.W.kitOne K (.ref c_Rule) (.type "bool")=some false)
 (Zos:PySem.W.kitOne K (.ref c_Gap) (.type "bool")=some false)
 (Zow:PySem.W.kitOne K (.ref c_Never) (.type "bool")=some false)
 (Zo6:PySem.W.kitOne K (.ref c_Sum) (.type "bool")=some false)
 (Zpm:PySem.W.kitOne K (.ref c_Turn) (.type "bool")=some false)
 (Zna:PySem.W.kitOne K (.ref c_Alike) (.type "bool")=some false)
 (Zne:PySem.W.kitOne K (.ref c_All) (.type "bool")=some false)
 (ZoN:PySem.W.kitOne K (.type "NoneType") (.type "int")=some false)
 (ZpD:PySem.W.kitOne K (.type "bool") (.type "int")=some true)
 (ZpH:PySem.W.kitOne K (.type "int") (.type "int")=some true)
 (ZpP:PySem.W.kitOne K (.type "str") (.type "int")=some false)
 (ZpL:PySem.W.kitOne K (.type "list") (.type "int")=some false)
 (ZpT:PySem.W.kitOne K (.type "tuple") (.type "int")=some false)
 (Zo3:PySem.W.kitOne K (.ref c_Rule) (.type "int")=some false)
 (Zot:PySem.W.kitOne K (.ref c_Gap) (.type "int")=some false)
 (Zox:PySem.W.kitOne K (.ref c_Never) (.type "int")=some false)
 (Zo7:PySem.W.kitOne K (.ref c_Sum) (.type "int")=some false)
 (Zpn:PySem.W.kitOne K (.ref c_Turn) (.type "int")=some false)
 (Znb:PySem.W.kitOne K (.ref c_Alike) (.type "int")=some false)
 (Znf:PySem.W.kitOne K (.ref c_All) (.type "int")=some false)
 : ∃fd:FuncData,(∀(s:Shared)(v:Value),BindsTo s fd ⟨[v],[]⟩ [("script",v)])/\∀base:Heap,K.In base->base.Ns mainGlobals mg->FnOk l.prog w K mg base CX0 8 fa fd ["script"] (ZeD K):=by
 cases hfa.symm.trans (mg_of X G l33.a);have F13:FunX K "__init__" "Gap.__init__" V1 f13 _:=⟨_,_,_,_,_,_,_,_,_,_,rfl,l13,c13⟩
 have b13_0:Binds K _ ["self", "marks", "mark", "least", "most"] []:=ZaZ ["self", "marks", "mark", "least", "most"] (x:="__init__") (qual:="Gap.__init__") (st:=V1) (kV:=kV13) (doc:=dc13) (pm:=pm13) (an:=an13) (cdv:=cd13) (ct:=ct13) y13 yd13 rfl λus hl=>match us,hl with|[_,_,_,_,_],_=>⟨_,rfl,rfl⟩
 have b13_1:Binds K _ ["self", "marks", "mark", "least", "most"] [.none]:=ZaZ ["self", "marks", "mark", "least"] (x:="__init__") (qual:="Gap.__init__") (st:=V1) (kV:=kV13) (doc:=dc13) (pm:=pm13) (an:=an13) (cdv:=cd13) (ct:=ct13) y13 yd13 rfl λus hl=>match us,hl with|[_,_,_,_],_=>⟨_,rfl,rfl⟩
 have xv_BadMarks:ExCls K c_BadMarks:=⟨ZlL,Zmp,ZlV,Zl5,hn_,htk_,Zmf,Zmz⟩
 have xv_BadRule:ExCls K c_BadRule:=⟨ZlN,Zmr,ZlX,Zl7,hn_,htk_,Zmh,ZmB⟩
 have xv_BadMark:ExCls K c_BadMark:=⟨ZlK,Zmo,ZlU,Zl4,hn_,htk_,Zme,Zmy⟩
 have xv_TooLarge:ExCls K c_TooLarge:=⟨ZlS,Zmw,Zl2,Zmc,hn_,htk_,Zmm,ZmG⟩
 have xv_Nothing:ExCls K c_Nothing:=⟨ZlR,Zmv,Zl1,Zmb,hn_,htk_,Zml,ZmF⟩
 have xv_NoRow:ExCls K c_NoRow:=⟨ZlQ,Zmu,Zl0,Zma,hn_,htk_,Zmk,ZmE⟩
 have xv_BadSign:ExCls K c_BadSign:=⟨ZlO,Zms,ZlY,Zl8,hn_,htk_,Zmi,ZmC⟩
 have xv_Unread:ExCls K c_Unread:=⟨ZlT,Zmx,Zl3,Zmd,hn_,htk_,Zmn,ZmH⟩
 have xv_BadRow:ExCls K c_BadRow:=⟨ZlM,Zmq,ZlW,Zl6,hn_,htk_,Zmg,ZmA⟩
 have xv_BadTable:ExCls K c_BadTable:=⟨ZlP,Zmt,ZlZ,Zl9,hn_,htk_,Zmj,ZmD⟩
 have T:Txt K mg ⟨f0,f1,f2,f3,f4,f5,f6,f7,f8,f9,f10,f11,f12,f13,f14,f15,f16,f17,f18,f19,f20,f21,f22,f23,f24,f25,f26,f27,f28,f29,f30,f31,f32,fa,c_GrooveError,c_BadMarks,c_BadRule,c_BadMark,c_TooLarge,c_Nothing,c_NoRow,c_BadSign,c_Unread,c_BadRow,c_BadTable,c_Rule,c_Gap,c_Never,c_Sum,c_Turn,c_Alike,c_All,d0,d1,d2,d3,d4,d5,d6,d7,d8,d9,d10,d11,d12,_,d14,d15,d16,d17,d18,d19,d20,d21,d22,d23,d24,d25,d26,d27,d28,d29,d30,d31,d32,d33,.str x_MARK_SIGNS t_MARK_SIGNS⟩:=⟨l0.df,l1.df,l2.dg X G l2.l.df,l3.dg X G l3.l.df,l4.dg X G l4.l.df,l5.dg X G l5.l.df,l6.df,l7.df,l8.df,l9.df,l10.df,l11.df,l12.df,F13,b13_0,b13_1,k13,l14.df,l15.df,l16.df,l17.df,l18.df,l19.dg X G l19.l.df,l20.dg X G l20.l.df,l21.dg X G l21.l.df,l22.dg X G l22.l.df,l23.dg X G l23.l.df,l24.dg X G l24.l.df,l25.dg X G l25.l.df,l26.dg X G l26.l.df,l27.dg X G l27.l.df,l28.dg X G l28.l.df,l29.dg X G l29.l.df,l30.dg X G l30.l.df,l31.dg X G l31.l.df,l32.dg X G l32.l.df,l33.dg X G l33.l.df,mg_none_of X G Zss,mg_none_of X G Zst,mg_none_of X G Zsu,mg_none_of X G Zsv,mg_none_of X G Zsw,mg_none_of X G Zsx,mg_none_of X G Zsy,mg_none_of X G Zsz,mg_none_of X G ZsA,mg_none_of X G ZsB,mg_none_of X G ZsC,mg_none_of X G ZsD,mg_none_of X G ZsE,mg_none_of X G ZsF,mg_of X G ZrH,⟨_,by rw [ZrI]⟩,mg_of X G Zsk,⟨Zrp,ZmY,Zrw,ZrE⟩,⟨⟨Zrp,ZmY,Zrw,ZrE⟩,ZmR,hn_,htk_,Zm5⟩,⟨ZqE,Zqx,Zqq,ZpY⟩,mg_of X G Zsf,⟨Zrn,ZmW,Zru,ZrC⟩,⟨⟨Zrn,ZmW,Zru,ZrC⟩,ZmP,hn_,htk_,Zm3⟩,⟨ZqC,Zqv,Zqo,ZpW⟩,mg_of X G Zsh,⟨Zro,ZmX,Zrv,ZrD⟩,⟨⟨Zro,ZmX,Zrv,ZrD⟩,ZmQ,hn_,htk_,Zm4⟩,⟨ZqD,Zqw,Zqp,ZpX⟩,mg_of X G Zsl,⟨Zrq,ZmZ,Zrx,ZrF⟩,⟨⟨Zrq,ZmZ,Zrx,ZrF⟩,ZmS,hn_,htk_,Zm6⟩,⟨ZqF,Zqy,Zqr,ZpZ⟩,mg_of X G Zsn,⟨Zrr,Zm0,Zry,ZrG⟩,⟨⟨Zrr,Zm0,Zry,ZrG⟩,ZmT,hn_,htk_,Zm7⟩,⟨ZqG,Zqz,Zqs,Zp0⟩,mg_of X G Zr7,⟨Zrl,ZmU,Zrs,ZrA⟩,⟨⟨Zrl,ZmU,Zrs,ZrA⟩,ZmN,hn_,htk_,Zm1⟩,⟨ZqA,Zqt,Zqm,ZpU⟩,mg_of X G Zr8,⟨Zrm,ZmV,Zrt,ZrB⟩,⟨⟨Zrm,ZmV,Zrt,ZrB⟩,ZmO,hn_,htk_,Zm2⟩,⟨ZqB,Zqu,Zqn,ZpV⟩,(by intro c hc;simp only [ZeA,List.mem_cons,List.mem_nil_iff,or_false]at hc;rcases hc with rfl<;>first|exact⟨⟨Zrr,Zm0,Zry,ZrG⟩,Zrh⟩),(by intro c hc;simp only [ZaD,List.mem_cons,List.mem_nil_iff,or_false]at hc;rcases hc with rfl<;>first|exact⟨⟨Zrr,Zm0,Zry,ZrG⟩,Zri⟩),(by intro c hc;simp only [Za6,List.mem_cons,List.mem_nil_iff,or_false]at hc;rcases hc with rfl<;>first|exact⟨⟨Zrq,ZmZ,Zrx,ZrF⟩,Zrd⟩),(by intro c hc;simp only [UU,List.mem_cons,List.mem_nil_iff,or_false]at hc;rcases hc with rfl<;>first|exact⟨⟨Zrn,ZmW,Zru,ZrC⟩,Zq6⟩),(by intro c hc;simp only [Zcd,List.mem_cons,List.mem_nil_iff,or_false]at hc;rcases hc with rfl<;>first|exact⟨⟨Zrq,ZmZ,Zrx,ZrF⟩,Zre⟩),(by intro c hc;simp only [Uk,List.mem_cons,List.mem_nil_iff,or_false]at hc;rcases hc with rfl|rfl<;>first|exact⟨⟨Zrn,ZmW,Zru,ZrC⟩,Zq7⟩|exact⟨⟨Zrr,Zm0,Zry,ZrG⟩,Zrj⟩),(by intro c hc;simp only [fc_marks,List.mem_cons,List.mem_nil_iff,or_false]at hc;rcases hc with rfl|rfl|rfl|rfl|rfl|rfl|rfl<;>first|exact⟨⟨Zrp,ZmY,Zrw,ZrE⟩,Zrc⟩|exact⟨⟨Zrn,ZmW,Zru,ZrC⟩,Zq8⟩|exact⟨⟨Zro,ZmX,Zrv,ZrD⟩,Zra⟩|exact⟨⟨Zrq,ZmZ,Zrx,ZrF⟩,Zrf⟩|exact⟨⟨Zrr,Zm0,Zry,ZrG⟩,Zrk⟩|exact⟨⟨Zrl,ZmU,Zrs,ZrA⟩,Zq2⟩|exact⟨⟨Zrm,ZmV,Zrt,ZrB⟩,Zq4⟩),(by intro c hc;simp only [Ul,List.mem_cons,List.mem_nil_iff,or_false]at hc;rcases hc with rfl|rfl<;>first|exact⟨⟨Zrn,ZmW,Zru,ZrC⟩,Zq9⟩|exact⟨⟨Zrl,ZmU,Zrs,ZrA⟩,Zq3⟩),(by intro c hc;simp only [Q7,List.mem_cons,List.mem_nil_iff,or_false]at hc;rcases hc with rfl<;>first|exact⟨⟨Zrm,ZmV,Zrt,ZrB⟩,Zq5⟩),(by intro c hc;simp only [Za7,List.mem_cons,List.mem_nil_iff,or_false]at hc;rcases hc with rfl<;>first|exact⟨⟨Zro,ZmX,Zrv,ZrD⟩,Zrb⟩),(by intro c hc;simp only [Zao,List.mem_cons,List.mem_nil_iff,or_false]at hc;rcases hc with rfl<;>first|exact⟨⟨Zrq,ZmZ,Zrx,ZrF⟩,Zrg⟩),mg_of X G Zsg,mg_of X G Zsa,ZlD,ZrQ,mg_of X G Zsc,ZlE,ZrS,mg_of X G Zr9,ZlC,ZrP,mg_of X G Zsm,ZlI,ZrX,mg_of X G Zsj,ZlH,ZrW,mg_of X G Zsi,ZlG,ZrV,mg_of X G Zsd,ZlF,ZrT,mg_of X G Zso,ZlJ,ZrY,mg_of X G Zsb,mg_of X G Zse,(by intro c hc;simp only [List.mem_cons,List.mem_nil_iff,or_false]at hc;rcases hc with rfl|rfl<;>first|exact xv_BadMarks|exact xv_BadRule),(by intro c hc;simp only [List.mem_cons,List.mem_nil_iff,or_false]at hc;subst hc;exact ZmK),(λ_ z=>nomatch z),(by intro c hc;simp only [List.mem_cons,List.mem_nil_iff,or_false]at hc;subst hc;exact ZmI),(by intro c hc;simp only [List.mem_cons,List.mem_nil_iff,or_false]at hc;subst hc;exact ZmJ),Vb (as:=[c_BadMarks,c_BadRule,c_BadMark,c_TooLarge,c_Nothing,c_NoRow,c_BadSign,c_Unread,c_BadRow,c_BadTable]) (by rfl) (.cons xv_BadMarks (.cons xv_BadRule (.cons xv_BadMark (.cons xv_TooLarge (.cons xv_Nothing (.cons xv_NoRow (.cons xv_BadSign (.cons xv_Unread (.cons xv_BadRow (.cons xv_BadTable .nil)))))))))) (.cons Zny (.cons ZnW (.cons Znm (.cons Zpe (.cons ZoU (.cons ZoE (.cons Zn8 (.cons Zpu (.cons ZnK (.cons Zok .nil)))))))))) (λ_ z=>z),Vb (as:=[c_BadMarks,c_BadRule,c_BadMark,c_TooLarge,c_Nothing,c_NoRow,c_BadSign,c_Unread,c_BadRow,c_BadTable]) (by rfl) (.cons xv_BadMarks (.cons xv_BadRule (.cons xv_BadMark (.cons xv_TooLarge (.cons xv_Nothing (.cons xv_NoRow (.cons xv_BadSign (.cons xv_Unread (.cons xv_BadRow (.cons xv_BadTable .nil)))))))))) (.cons ZnD (.cons Zn1 (.cons Znr (.cons Zpj (.cons ZoZ (.cons ZoJ (.cons Zod (.cons Zpz (.cons ZnP (.cons Zop .nil)))))))))) (λ_ z=>z),Vb (as:=[c_BadMarks,c_BadRule,c_BadMark,c_TooLarge,c_Nothing,c_NoRow,c_BadSign,c_Unread,c_BadRow,c_BadTable]) (by rfl) (.cons xv_BadMarks (.cons xv_BadRule (.cons xv_BadMark (.cons xv_TooLarge (.cons xv_Nothing (.cons xv_NoRow (.cons xv_BadSign (.cons xv_Unread (.cons xv_BadRow (.cons xv_BadTable .nil)))))))))) (.cons Znv (.cons ZnT (.cons Znj (.cons Zpb (.cons ZoR (.cons ZoB (.cons Zn5 (.cons Zpr (.cons ZnH (.cons Zoh .nil)))))))))) (λ_ z=>z),Vb (as:=[c_BadMarks,c_BadRule,c_BadMark,c_TooLarge,c_Nothing,c_NoRow,c_BadSign,c_Unread,c_BadRow,c_BadTable]) (by rfl) (.cons xv_BadMarks (.cons xv_BadRule (.cons xv_BadMark (.cons xv_TooLarge (.cons xv_Nothing (.cons xv_NoRow (.cons xv_BadSign (.cons xv_Unread (.cons xv_BadRow (.cons xv_BadTable .nil)))))))))) (.cons Zns (.cons ZnQ (.cons Zng (.cons Zo8 (.cons ZoO (.cons Zoy (.cons Zn2 (.cons Zpo (.cons ZnE (.cons Zoe .nil)))))))))) (λ_ z=>z),Vb (as:=[c_BadMarks,c_BadRule,c_BadMark,c_TooLarge,c_Nothing,c_NoRow,c_BadSign,c_Unread,c_BadRow,c_BadTable]) (by rfl) (.cons xv_BadMarks (.cons xv_BadRule (.cons xv_BadMark (.cons xv_TooLarge (.cons xv_Nothing (.cons xv_NoRow (.cons xv_BadSign (.cons xv_Unread (.cons xv_BadRow (.cons xv_BadTable .nil)))))))))) (.cons Znt (.cons ZnR (.cons Znh (.cons Zo9 (.cons ZoP (.cons Zoz (.cons Zn3 (.cons Zpp (.cons ZnF (.cons Zof .nil)))))))))) (λ_ z=>z),Vb (as:=[c_BadMarks,c_BadRule,c_BadMark,c_TooLarge,c_Nothing,c_NoRow,c_BadSign,c_Unread,c_BadRow,c_BadTable]) (by rfl) (.cons xv_BadMarks (.cons xv_BadRule (.cons xv_BadMark (.cons xv_TooLarge (.cons xv_Nothing (.cons xv_NoRow (.cons xv_BadSign (.cons xv_Unread (.cons xv_BadRow (.cons xv_BadTable .nil)))))))))) (.cons ZnB (.cons ZnZ (.cons Znp (.cons Zph (.cons ZoX (.cons ZoH (.cons Zob (.cons Zpx (.cons ZnN (.cons Zon .nil)))))))))) (λ_ z=>z),Vb (as:=[c_BadMarks,c_BadRule,c_BadMark,c_TooLarge,c_Nothing,c_NoRow,c_BadSign,c_Unread,c_BadRow,c_BadTable]) (by rfl) (.cons xv_BadMarks (.cons xv_BadRule (.cons xv_BadMark (.cons xv_TooLarge (.cons xv_Nothing (.cons xv_NoRow (.cons xv_BadSign (.cons xv_Unread (.cons xv_BadRow (.cons xv_BadTable .nil)))))))))) (.cons ZnA (.cons ZnY (.cons Zno (.cons Zpg (.cons ZoW (.cons ZoG (.cons Zoa (.cons Zpw (.cons ZnM (.cons Zom .nil)))))))))) (λ_ z=>z),Vb (as:=[c_BadMarks,c_BadRule,c_BadMark,c_TooLarge,c_Nothing,c_NoRow,c_BadSign,c_Unread,c_BadRow,c_BadTable]) (by rfl) (.cons xv_BadMarks (.cons xv_BadRule (.cons xv_BadMark (.cons xv_TooLarge (.cons xv_Nothing (.cons xv_NoRow (.cons xv_BadSign (.cons xv_Unread (.cons xv_BadRow (.cons xv_BadTable .nil)))))))))) (.cons Znz (.cons ZnX (.cons Znn (.cons Zpf (.cons ZoV (.cons ZoF (.cons Zn9 (.cons Zpv (.cons ZnL (.cons Zol .nil)))))))))) (λ_ z=>z),Vb (as:=[c_BadMarks,c_BadRule,c_BadMark,c_TooLarge,c_Nothing,c_NoRow,c_BadSign,c_Unread,c_BadRow,c_BadTable]) (by rfl) (.cons xv_BadMarks (.cons xv_BadRule (.cons xv_BadMark (.cons xv_TooLarge (.cons xv_Nothing (.cons xv_NoRow (.cons xv_BadSign (.cons xv_Unread (.cons xv_BadRow (.cons xv_BadTable .nil)))))))))) (.cons Znw (.cons ZnU (.cons Znk (.cons Zpc (.cons ZoS (.cons ZoC (.cons Zn6 (.cons Zps (.cons ZnI (.cons Zoi .nil)))))))))) (λ_ z=>z),Vb (as:=[c_BadMarks,c_BadRule,c_BadMark,c_TooLarge,c_Nothing,c_NoRow,c_BadSign,c_Unread,c_BadRow,c_BadTable]) (by rfl) (.cons xv_BadMarks (.cons xv_BadRule (.cons xv_BadMark (.cons xv_TooLarge (.cons xv_Nothing (.cons xv_NoRow (.cons xv_BadSign (.cons xv_Unread (.cons xv_BadRow (.cons xv_BadTable .nil)))))))))) (.cons ZnC (.cons Zn0 (.cons Znq (.cons Zpi (.cons ZoY (.cons ZoI (.cons Zoc (.cons Zpy (.cons ZnO (.cons Zoo .nil)))))))))) (λ_ z=>z),Vb (as:=[c_BadMarks,c_BadRule,c_BadMark,c_TooLarge,c_Nothing,c_NoRow,c_BadSign,c_Unread,c_BadRow,c_BadTable]) (by rfl) (.cons xv_BadMarks (.cons xv_BadRule (.cons xv_BadMark (.cons xv_TooLarge (.cons xv_Nothing (.cons xv_NoRow (.cons xv_BadSign (.cons xv_Unread (.cons xv_BadRow (.cons xv_BadTable .nil)))))))))) (.cons Znu (.cons ZnS (.cons Zni (.cons Zpa (.cons ZoQ (.cons ZoA (.cons Zn4 (.cons Zpq (.cons ZnG (.cons Zog .nil)))))))))) (λ_ z=>z),Vb (as:=[c_BadMarks,c_BadRule,c_BadMark,c_TooLarge,c_Nothing,c_NoRow,c_BadSign,c_Unread,c_BadRow,c_BadTable]) (by rfl) (.cons xv_BadMarks (.cons xv_BadRule (.cons xv_BadMark (.cons xv_TooLarge (.cons xv_Nothing (.cons xv_NoRow (.cons xv_BadSign (.cons xv_Unread (.cons xv_BadRow (.cons xv_BadTable .nil)))))))))) (.cons Znx (.cons ZnV (.cons Znl (.cons Zpd (.cons ZoT (.cons ZoD (.cons Zn7 (.cons Zpt (.cons ZnJ (.cons Zoj .nil)))))))))) (λ_ z=>z),⟨ZrJ,ZrL,ZrN,ZrR,ZrZ,Zr1,Zr3,Zr5⟩,⟨ZrK,ZrM,ZrO,ZrU,Zr0,Zr2,Zr4,Zr6⟩,⟨Zsp,Zsq,Zsr⟩,(by intro c hc;simp only [List.mem_cons,List.mem_nil_iff,or_false]at hc;rcases hc with rfl|rfl<;>first|exact⟨xv_BadRow,Zr5,Zr3⟩|exact⟨xv_BadTable,Zr6,Zr4⟩),⟨Zqd,ZqT,l7.kp⟩,⟨Zp7,ZqN,l8.kp⟩,⟨Zqa,ZqQ,l7.kp⟩,⟨Zqg,ZqW,l7.kp⟩,⟨Zqj,ZqZ,l7.kp⟩,⟨Zp1,ZqH,l9.kp⟩,⟨Zp4,ZqK,l10.kp⟩,⟨Zqe,ZqU,l11.kp⟩,⟨Zp8,ZqO,l11.kp⟩,⟨Zqb,ZqR,l11.kp⟩,⟨Zqh,ZqX,l11.kp⟩,⟨Zqk,Zq0,l11.kp⟩,⟨Zp2,ZqI,l11.kp⟩,⟨Zp5,ZqL,l11.kp⟩,⟨Zqf,ZqV,l12.kp⟩,⟨Zp9,ZqP,l12.kp⟩,⟨Zqc,ZqS,l12.kp⟩,⟨Zqi,ZqY,l12.kp⟩,⟨Zql,Zq1,l12.kp⟩,⟨Zp3,ZqJ,l12.kp⟩,⟨Zp6,ZqM,l12.kp⟩,⟨ZmM,Zrz,ZmL,l6.kp⟩,JY (by intro p hp;simp only [Q8,List.mem_cons,List.mem_nil_iff,or_false]at hp;rcases hp with rfl|rfl|rfl|rfl|rfl|rfl|rfl|rfl|rfl|rfl|rfl|rfl|rfl<;>first|exact ZoK|exact ZpA|exact ZpE|exact ZpM|exact ZpI|exact ZpQ|exact⟨Zo0,⟨Zrp,ZmY,Zrw,ZrE⟩,ZmR,hn_,htk_,Zm5⟩|exact⟨Zoq,⟨Zrn,ZmW,Zru,ZrC⟩,ZmP,hn_,htk_,Zm3⟩|exact⟨Zou,⟨Zro,ZmX,Zrv,ZrD⟩,ZmQ,hn_,htk_,Zm4⟩|exact⟨Zo4,⟨Zrq,ZmZ,Zrx,ZrF⟩,ZmS,hn_,htk_,Zm6⟩|exact⟨Zpk,⟨Zrr,Zm0,Zry,ZrG⟩,ZmT,hn_,htk_,Zm7⟩|exact⟨Zm8,⟨Zrl,ZmU,Zrs,ZrA⟩,ZmN,hn_,htk_,Zm1⟩|exact⟨Znc,⟨Zrm,ZmV,Zrt,ZrB⟩,ZmO,hn_,htk_,Zm2⟩),JY (by intro p hp;simp only [Q9,List.mem_cons,List.mem_nil_iff,or_false]at hp;rcases hp with rfl|rfl|rfl|rfl|rfl|rfl|rfl|rfl|rfl|rfl|rfl|rfl|rfl<;>first|exact ZoL|exact ZpB|exact ZpF|exact ZpN|exact ZpJ|exact ZpR|exact⟨Zo1,⟨Zrp,ZmY,Zrw,ZrE⟩,ZmR,hn_,htk_,Zm5⟩|exact⟨Zor,⟨Zrn,ZmW,Zru,ZrC⟩,ZmP,hn_,htk_,Zm3⟩|exact⟨Zov,⟨Zro,ZmX,Zrv,ZrD⟩,ZmQ,hn_,htk_,Zm4⟩|exact⟨Zo5,⟨Zrq,ZmZ,Zrx,ZrF⟩,ZmS,hn_,htk_,Zm6⟩|exact⟨Zpl,⟨Zrr,Zm0,Zry,ZrG⟩,ZmT,hn_,htk_,Zm7⟩|exact⟨Zm9,⟨Zrl,ZmU,Zrs,ZrA⟩,ZmN,hn_,htk_,Zm1⟩|exact⟨Znd,⟨Zrm,ZmV,Zrt,ZrB⟩,ZmO,hn_,htk_,Zm2⟩),JY (by intro p hp;simp only [Za8,List.mem_cons,List.mem_nil_iff,or_false]at hp;rcases hp with rfl|rfl|rfl|rfl|rfl|rfl|rfl|rfl|rfl|rfl|rfl|rfl|rfl<;>first|exact ZoM|exact ZpC|exact ZpG|exact ZpO|exact ZpK|exact ZpS|exact⟨Zo2,⟨Zrp,ZmY,Zrw,ZrE⟩,ZmR,hn_,htk_,Zm5⟩|exact⟨Zos,⟨Zrn,ZmW,Zru,ZrC⟩,ZmP,hn_,htk_,Zm3⟩|exact⟨Zow,⟨Zro,ZmX,Zrv,ZrD⟩,ZmQ,hn_,htk_,Zm4⟩|exact⟨Zo6,⟨Zrq,ZmZ,Zrx,ZrF⟩,ZmS,hn_,htk_,Zm6⟩|exact⟨Zpm,⟨Zrr,Zm0,Zry,ZrG⟩,ZmT,hn_,htk_,Zm7⟩|exact⟨Zna,⟨Zrl,ZmU,Zrs,ZrA⟩,ZmN,hn_,htk_,Zm1⟩|exact⟨Zne,⟨Zrm,ZmV,Zrt,ZrB⟩,ZmO,hn_,htk_,Zm2⟩),JY (by intro p hp;simp only [Zce,List.mem_cons,List.mem_nil_iff,or_false]at hp;rcases hp with rfl|rfl|rfl|rfl|rfl|rfl|rfl|rfl|rfl|rfl|rfl|rfl|rfl<;>first|exact ZoN|exact ZpD|exact ZpH|exact ZpP|exact ZpL|exact ZpT|exact⟨Zo3,⟨Zrp,ZmY,Zrw,ZrE⟩,ZmR,hn_,htk_,Zm5⟩|exact⟨Zot,⟨Zrn,ZmW,Zru,ZrC⟩,ZmP,hn_,htk_,Zm3⟩|exact⟨Zox,⟨Zro,ZmX,Zrv,ZrD⟩,ZmQ,hn_,htk_,Zm4⟩|exact⟨Zo7,⟨Zrq,ZmZ,Zrx,ZrF⟩,ZmS,hn_,htk_,Zm6⟩|exact⟨Zpn,⟨Zrr,Zm0,Zry,ZrG⟩,ZmT,hn_,htk_,Zm7⟩|exact⟨Znb,⟨Zrl,ZmU,Zrs,ZrA⟩,ZmN,hn_,htk_,Zm1⟩|exact⟨Znf,⟨Zrm,ZmV,Zrt,ZrB⟩,ZmO,hn_,htk_,Zm2⟩)⟩
 obtain⟨_,_,_,_,_,_,_,_,_,rfl,_⟩:=l33.l.ex;exact⟨_,λs v => .of_eq rfl,λbase _ _=>Zit hall T⟩
theorem walk {l:PySem.W.OpenLaw} {q:Program} {loose:List Str} {XP:(Str->Option Value)->Heap->Prop} {YP:World->Heap->Prop} {d:DefRec} {K:Params->PySem.W.Frag} (hn:l.most=some 63) (hdf:d.params.defaults=[])
 (hY:∀(w:World)(h:Heap),YP w h->(K w.params).In h)
 (F:∀(w:World)(mg:Str->Option Value)(fa:Addr)(h:Heap),(K w.params).In h->h.Ns mainGlobals mg->mg d.name=some (.ref fa) ->
   ∃fd:FuncData,(∀(s:Shared)(u:Value),BindsTo s fd ⟨[u],[]⟩ [("script",u)])/\∀base:Heap,(K w.params).In base->base.Ns mainGlobals mg->FnOk l.prog w (K w.params) mg base CX0 8 fa fd ["script"] (ZeD (K w.params))) :
 PySem.W.WalkO q loose XP YP l.row.toRowW d [] (λf vs=>PySem.call f vs):=
 L2.walk_of (n:=63) (k:=8) (x:="script") (CX:=λ_=>CX0) (sp:=λw=>ZeD (K w.params)) hn (by decide) hdf ⟨rfl,by decide,by decide⟩ hY F (λ_ _ a ns hl _ hS=>⟨a,ns,rfl,hS,hl,λ_=>rfl⟩) λ_ _ _ _ _ z=>z
end K05
open PySem PySem.W PyProof.Rows
set_option maxRecDepth 100000 in
set_option maxHeartbeats 0 in
theorem PySem.Challenge.cw_grooveway_k05_rules_refused_holds : PySem.Challenge.rw_grooveway_k05_rules_refused.Holds := by
 w_on;o_law
 refine holds_open (r:=PySem.Challenge.rw_grooveway_k05_rules_refused.row) (q:=(view PySem.Challenge.pw_grooveway_k05_rules_refused [0,2,3,4,5,6,7,8,9,10,11,12,14,15,16,17,18,19,20,21,22,23,24,25,27,28,29,30,31,32,33,34,35,36,37,38,39,40,41])) (loose:=["Gap"]) (XP:=XL (view PySem.Challenge.pw_grooveway_k05_rules_refused [0,2,3,4,5,6,7,8,9,10,11,12,14,15,16,17,18,19,20,21,22,23,24,25,27,28,29,30,31,32,33,34,35,36,37,38,39,40,41]) []) (YP:=InK K05.kP) K05.left (InK.of K05.kP_as) InK.keeps (λs e=>xl_of s (Bool.and_eq_true_iff.mp e).1) XL.keeps (by rfl) (by rfl) (by rfl) (λs e=>recFacts_of (Bool.and_eq_true_iff.mp e).2) (by rfl) (by assumption) (by decide +kernel) ⟨rfl,rfl,rfl,rfl,rfl,by decide +kernel⟩ ?hw ?hc
 case hw=>w_witness2
 k_fill
 refine K05.walk (l:=PySem.Challenge.rw_grooveway_k05_rules_refused) rfl rfl (λw h Y=>Y) ?F
 case F=>
  intro w mg fa h KX G hmg;refine' K05.all_mk K05.all_true KX G hmg ..
  any_goals first|k_is|kit_is|k_exc|kts_exm|rfl|kernel_rfl|decide +kernel|(refine' L2.Fg.of ?_ ?_ ?_ ?_<;>first|k_is|skip)|(refine' L2.fun_mk ?_ ?_ ?_<;>first|k_is|skip)|skip
