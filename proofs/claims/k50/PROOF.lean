import PyProof.Rows.All
import Wide.All
import OpenK.AllK
import Wide.FinOn
import Lean
import PyProof.EqAt
import PyProof.EqKinds
import PyProof.TupleCall
import PyProof.Rows.StrCountLaw
import PyProof.Rows.StrFirst
import PyProof.Rows.StrLast
import PyProof.Rows.StrNews2
import PyProof.Rows.StrSplitCount
import PyProof.StrBlockI
import PyProof.StrLawsIn
import PyProof.StrLawsLast
import PyProof.EnumMake
import PyProof.FString
import PyProof.ReprStr
import PyProof.StrLawsRepr
import PyProof.ListStr
import PyProof.ListRange
import PySem.Challenge.RW_grooveway_k50_tables_refused
set_option Elab.async false
set_option linter.all false
set_option maxRecDepth 100000
set_option maxHeartbeats 4000000
open PySem.W (nsIn mg_of fnOf codeIn kitOne mg_none_of instObj emptyDict)
namespace L2
open PySem PySem.Spec PyProof.Rows
abbrev Key:=Sum Int Str
def Ziq:Key->Value->Bool
 | .inl k,v=>Value.isInt k v
 | .inr x,v=>Value.isStrOf x v
def Zm2(w:World):Key->Int
 | .inl k=>hashInt k
 | .inr x=>hashStr w x
theorem VC:∀{k:Key}{v:Value},Ziq k v=true->(∃i t,k=Sum.inl i/\v=Value.int i t)\/(∃x t,k=Sum.inr x/\v=Value.str x t)
 | .inl i,v,h=>by
  obtain⟨t,e⟩:=Value.isInt_shape (k:=i) (v:=v) h;exact .inl ⟨i,t,rfl,e⟩
 | .inr x,v,h=>by
  obtain⟨t,e⟩:=Value.isStrOf_shape (x:=x) (v:=v) h;exact .inr ⟨x,t,rfl,e⟩
theorem Zi3(a b:Int):decide ((Sum.inl a:Key)=Sum.inl b)=(a == b):=by
 by_cases e:a=b
 · subst e;simp
 · have h:¬(Sum.inl a:Key)=Sum.inl b:=λq=>e (Sum.inl.inj q)
   rw [decide_eq_false h];exact(beq_eq_false_iff_ne.mpr e).symm
theorem Zi4(a b:Str):decide ((Sum.inr a:Key)=Sum.inr b)=decide (a=b):=by
 by_cases e:a=b
 · subst e;simp
 · have h:¬(Sum.inr a:Key)=Sum.inr b:=λq=>e (Sum.inr.inj q)
   rw [decide_eq_false h,decide_eq_false e]
theorem Zi5(a:Int)(b:Str):decide ((Sum.inl a:Key)=Sum.inr b)=false:=decide_eq_false (λq=>nomatch q)
theorem Zi6(a:Str)(b:Int):decide ((Sum.inr a:Key)=Sum.inl b)=false:=decide_eq_false (λq=>nomatch q)
def Zep(prog:Program)(w:World):PySem.KeyKind prog w Key where
 is:=Ziq
 hash:=Zm2 w
 inj:=λv a b ha hb=>by
  rcases VC ha with⟨i,t,rfl,rfl⟩|⟨x,t,rfl,rfl⟩
  · rcases VC hb with⟨j,u,rfl,e⟩|⟨y,u,rfl,e⟩
    · injection e with e1 _;rw [e1]
    · exact nomatch e
  · rcases VC hb with⟨j,u,rfl,e⟩|⟨y,u,rfl,e⟩
    · exact nomatch e
    · injection e with e1 _;rw [e1]
 byValue:=λk v h=>by
  rcases VC h with⟨i,t,rfl,rfl⟩|⟨x,t,rfl,rfl⟩<;>rfl
 pyHash:=λhv h=>by
  rcases VC hv with⟨i,t,rfl,rfl⟩|⟨x,t,rfl,rfl⟩
  · exact wpAny_pyHash_int h
  · exact wpAny_pyHash_str h
 eqBool:=λhu hv h=>by
  rcases VC hu with⟨i,t,rfl,rfl⟩|⟨x,t,rfl,rfl⟩
  · rcases VC hv with⟨j,u,rfl,rfl⟩|⟨y,u,rfl,rfl⟩
    · rw [Zi3]at h;exact wpAny_eqBool_int h
    · rw [Zi5]at h;exact SeqAt.EqAt.int_str i t y u _ _ _ _ h
  · rcases VC hv with⟨j,u,rfl,rfl⟩|⟨y,u,rfl,rfl⟩
    · rw [Zi6]at h;exact SeqAt.EqAt.str_int x t j u _ _ _ _ h
    · rw [Zi4]at h;exact wpAny_eqBool_str h
 «strs» := λk x t v h=>by
  rcases VC h with⟨i,u,rfl,e⟩|⟨y,u,rfl,e⟩
  · exact nomatch e
  · injection e with e1 _
    subst e1;cases v<;>rfl
end L2
namespace L2
open PySem PySem.Spec PyProof.Rows
inductive V where
 |non|bl (b:Bool)|int (i:Int)|str (x:Str)|byt (b:Array UInt8)|flt (b:UInt64)|ref (a:Addr)|ty (n:String)
 deriving DecidableEq
def RelV:V->Value->Prop
 | .non,u=>u=Value.none
 | .bl b,u=>u=Value.bool b
 | .int i,u=>∃t,u=Value.int i t
 | .str x,u=>∃t,u=Value.str x t
 | .byt b,u=>∃t,u=Value.bytes b t
 | .flt b,u=>∃t,u=Value.float b t
 | .ref a,u=>u=Value.ref a
 | .ty n,u=>u=Value.type n
abbrev Vals:List V->List Value->Prop:=Paired RelV
theorem Vals.length{xs:List V}{us:List Value}(r:Vals xs us):xs.length=us.length:=Paired.length r
theorem Vals.get:∀{xs:List V}{us:List Value}{i:Nat}{x:V},Vals xs us->xs[i]? = some x->∃u,us[i]? = some u/\RelV x u
 |_,_,_,_,.nil,e=>by simp at e
 |_,_,0,_,.cons r _,e=>by simp at e;subst e;exact⟨_,rfl,r⟩
 |_,_,i+1,x,.cons _ t,e=>by
  obtain⟨u,h1,h2⟩:=Vals.get (i:=i) (x:=x) t (by simpa using e);exact⟨u,by simpa using h1,h2⟩
theorem Vals.set{x:V}{u:Value}(r:RelV x u):∀{xs:List V}{us:List Value}(i:Nat),Vals xs us->Vals (xs.set i x) (us.set i u)
 |_,_,_,.nil => .nil
 |_,_,0,.cons _ t => .cons r t
 |_,_,i+1,.cons q t => .cons q (Vals.set r i t)
theorem Vals.append:∀{xs ys:List V}{us ws:List Value},Vals xs us->Vals ys ws->Vals (xs++ys) (us++ws)
 |_,_,_,_,.nil,s=>s
 |_,_,_,_,.cons r t,s => .cons r (Vals.append t s)
theorem Vals.take:∀{xs:List V}{us:List Value}(n:Nat),Vals xs us->Vals (xs.take n) (us.take n)
 |_,_,0,_ => .nil
 |_,_,_+1,.nil => .nil
 |_,_,n+1,.cons r t => .cons r (Vals.take n t)
theorem Vals.drop:∀{xs:List V}{us:List Value}(n:Nat),Vals xs us->Vals (xs.drop n) (us.drop n)
 |_,_,0,r=>r
 |_,_,_+1,.nil => .nil
 |_,_,n+1,.cons _ t=>Vals.drop n t
def RelO:Option V->Option Value->Prop
 |some v,some u=>RelV v u
 |none,none=>True
 |_,_=>False
def KV{κ:Type}:List (κ×V)->List (κ×Value)->Prop:=Paired λ(p:κ×V) (q:κ×Value)=>p.1=q.1/\RelV p.2 q.2
def kV:Key->V
 | .inl i => .int i
 | .inr x => .str x
inductive HO where
 |lst (xs:List V)
 |tup (xs:List V)
 |dK (kvs:List (Key×V))|dT (kvs:List (List Key×V))
 |set (S:Int->Bool) (n:Nat)
 |ins (C dx:Addr) (fs:List (Str×V))
 |own (x:Addr)
 |xd (fs:List (Str×V))
 |met (f x:Addr)
 |rng (lo hi:Int)
 |frz (o:Obj) (u:HO)
 |tbl (ps:Array Value)
 |ext (φ:Heap->Prop)
abbrev Hp:=Addr->Option HO
def upd(H:Hp)(a:Addr)(o:HO):Hp:=λb=>if b=a then some o else H b
theorem Z2{H:Hp}{a:Addr}{o:HO}:upd H a o a=some o:=by unfold upd;rw [if_pos rfl]
theorem ZI{H:Hp}{a b:Addr}{o:HO}(h:b≠a):upd H a o b=H b:=by unfold upd;rw [if_neg h]
theorem Xb{H:Hp}{a b:Addr}{o:HO}(h:H a=some o)(h':H b=none):a≠b:=by
 intro e;subst e;rw [h]at h';cases h'
def TupN(h:Heap)(a:Addr)(its:Array Value):Prop:=∃o,h.get? a=some o/\o.cls = .type "tuple" /\ (∃n,o.data = .seq its n)/\o.dict=none
theorem TupN.tup{h:Heap}{a:Addr}{its:Array Value}(x:TupN h a its):IsTup h a its:=let⟨o,e,c,d,_⟩:=x;⟨o,e,c,d⟩
theorem TupN.new(h:Heap)(its:Array Value):TupN (h.push { cls := .type "tuple",data := .seq its }) h.objs.size its:=⟨_,Heap.get?_push_size _ rfl,rfl,⟨_,rfl⟩,rfl⟩
section
variable(P:Program)(w:World)
def ObjOk(H:Hp)(h:Heap)(a:Addr):HO->Prop
 | .lst xs=>xs.length<=sizeLine/\∃(its:List Value) (n:Nat),Vals xs its/\h.get? a=some { cls := .type "list",data := .seq its.toArray n }
 | .tup xs=>xs.length<=sizeLine/\∃its:List Value,Vals xs its/\TupN h a its.toArray
 | .dK kvs=>kvs.length<=sizeLine/\(a == sysModules)=false/\∃vs,KV kvs vs/\h.DictOf (Zep P w) a vs
 | .dT kvs=>kvs.length<=sizeLine/\(a == sysModules)=false/\∃xs:List (List Key×Addr×Value),
  Paired (λ(p:List Key×V) (q:List Key×Addr×Value)=>p.1=q.1/\H q.2.1=some (.tup (p.1.map kV))/\RelV p.2 q.2.2) kvs xs /\
  ∃o es ep,h.get? a=some o/\o.ExactDict/\o.data = .dict es ep/\es.toList=xs.map (entryOfKey (tupleKind (Zep P w)))/\(xs.map (·.1)).Nodup
 | .set S n=>h.SetOf (intKind P w) a S n
 | .ins C dx fs=>H dx=some (.own a)/\fs.length<=1000/\dx≠a/\h.get? a=some (instObj C dx) /\
  ∃mA,h.Ns1 dx mA/\(∀f,RelO (fs.lookup f) (mA f))/\PySem.Within mA (fs.map (·.1))
 | .own _=>∃o,h.get? a=some o
 | .xd fs=>∃mA,h.Ns1 a mA/\∀f,RelO (fs.lookup f) (mA f)
 | .rng lo hi=>∃t u v,h.get? a=some { cls := .type "range",data := .fields #[.int lo t,.int hi u,.int 1 v] }
 | .frz o u=>h.get? a=some o/\ObjOk H h a u
 | .tbl ps=>h.get? a=some { cls := .none,data := .fields ps }
 | .met f x=>h.get? a=some (PySem.W.methodObj (.ref f) (.ref x))
 | .ext φ=>φ h/\(∃o,h.get? a=some o)/\∀h1 h2:Heap,φ h1->(∀o,h1.get? a=some o->h2.get? a=some o)->φ h2
def HOk(H:Hp)(h:Heap):Prop:=∀a o,H a=some o->ObjOk P w H h a o
end
section
variable{P:Program}{w:World}{H H':Hp}{h h':Heap}{a:Addr}{o:HO}
theorem ObjOk.lt(x:ObjOk P w H h a o):a<h.objs.size:=by
 cases o with
 |lst xs=>obtain⟨_,_,_,_,e⟩:=x;exact Heap.lt_size e
 |tup xs=>obtain⟨_,_,_,p⟩:=x;exact p.tup.lt
 |dK kvs=>obtain⟨_,_,_,_,o,_,_,e,_⟩:=x;exact Heap.lt_size e
 |dT kvs=>obtain⟨_,_,_,_,o,_,_,e,_⟩:=x;exact Heap.lt_size e
 |set S n=>obtain⟨o,_,_,_,e,_⟩:=x;exact Heap.lt_size e
 |ins C dx fs=>obtain⟨_,_,_,e,_⟩:=x;exact Heap.lt_size e
 |own y=>obtain⟨_,e⟩:=x;exact Heap.lt_size e
 |xd fs=>obtain⟨_,⟨_,_,_,e,_⟩,_⟩:=x;exact Heap.lt_size e
 |rng lo hi=>obtain⟨_,_,_,e⟩:=x;exact Heap.lt_size e
 |frz ob u=>obtain⟨e,_⟩:=x;exact Heap.lt_size e
 |tbl ps=>exact Heap.lt_size (show h.get? a=some _ from x)
 |met f y=>exact Heap.lt_size (show h.get? a=some _ from x)
 |ext φ=>obtain⟨_,⟨_,e⟩,_⟩:=x;exact Heap.lt_size e
theorem Paired.mapP{α β:Type}{F G:α->β->Prop}:∀{l₁:List α}{l₂:List β},Paired F l₁ l₂->(∀a b,F a b->G a b)->Paired G l₁ l₂
 |_,_,.nil,_ => .nil
 |_,_,.cons r t,f => .cons (f _ _ r) (Paired.mapP t f)
theorem ObjOk.stay (x:ObjOk P w H h a o) (k:∀b u,(b=a\/H b=some (.own a))->h.get? b=some u->h'.get? b=some u)
 (ho:∀b,H b=some (.own a)->H' b=some (.own a)) (ht:∀b xs,H b=some (.tup xs)->H' b=some (.tup xs)):ObjOk P w H' h' a o:=by
 induction o with
 |lst xs=>obtain⟨z,its,n,r,e⟩:=x;exact⟨z,its,n,r,k _ _ (.inl rfl) e⟩
 |tup xs=>obtain⟨z,its,r,ob,e,c⟩:=x;exact⟨z,its,r,ob,k _ _ (.inl rfl) e,c⟩
 |dK kvs=>obtain⟨z,y,vs,r,ob,es,ep,e,c⟩:=x;exact⟨z,y,vs,r,ob,es,ep,k _ _ (.inl rfl) e,c⟩
 |dT kvs=>
  obtain⟨z,y,xs,r,ob,es,ep,e,c⟩:=x;exact⟨z,y,xs,Paired.mapP r λp q z=>⟨z.1,ht _ _ z.2.1,z.2.2⟩,ob,es,ep,k _ _ (.inl rfl) e,c⟩
 |set S n=>obtain⟨ob,es,ep,t,e,c⟩:=x;exact⟨ob,es,ep,t,k _ _ (.inl rfl) e,c⟩
 |ins C dx fs=>
  obtain⟨d,z,ne,e,mA,⟨od,es,ep,e2,c⟩,r⟩:=x;exact⟨ho _ d,z,ne,k _ _ (.inl rfl) e,mA,⟨od,es,ep,k _ _ (.inr d) e2,c⟩,r⟩
 |own y=>obtain⟨ob,e⟩:=x;exact⟨ob,k _ _ (.inl rfl) e⟩
 |xd fs=>obtain⟨mA,⟨od,es,ep,e,c⟩,r⟩:=x;exact⟨mA,⟨od,es,ep,k _ _ (.inl rfl) e,c⟩,r⟩
 |rng lo hi=>obtain⟨t,u,v,e⟩:=x;exact⟨t,u,v,k _ _ (.inl rfl) e⟩
 |frz ob u ih=>obtain⟨e,q⟩:=x;exact⟨k _ _ (.inl rfl) e,ih q⟩
 |tbl ps=>
  have e:h.get? a=some { cls := .none,data := .fields ps }:=x;show h'.get? a=some { cls := .none,data := .fields ps };exact k a _ (.inl rfl) e
 |met f y=>
  have e:h.get? a=some (PySem.W.methodObj (.ref f) (.ref y)):=x;show h'.get? a=some (PySem.W.methodObj (.ref f) (.ref y));exact k a _ (.inl rfl) e
 |ext φ=>obtain⟨p,⟨o,e⟩,st⟩:=x;exact⟨st _ _ p λo q=>k _ _ (.inl rfl) q,⟨o,k _ _ (.inl rfl) e⟩,st⟩
theorem HOk.lt(x:HOk P w H h)(e:H a=some o):a<h.objs.size:=(x a o e).lt
theorem HOk.fresh(x:HOk P w H h)(e:h.objs.size<=a):H a=none:=by
 cases q:H a with
 |none=>rfl
 |some u=>exact absurd (Nat.lt_of_lt_of_le (x.lt q) e) (Nat.lt_irrefl _)
theorem HOk.kept(x:HOk P w H h)(k:∀b u,h.get? b=some u->h'.get? b=some u):HOk P w H h':=λa o e=>
 (x a o e).stay (λb u _ q=>k b u q) (λ_ q=>q) λ_ _ q=>q
theorem HOk.laid(x:HOk P w H h)(k:∀b u,h.get? b=some u->h'.get? b=some u)(hp:h.objs.size<=a)(new:ObjOk P w (upd H a o) h' a o):HOk P w (upd H a o) h':=λb u e=>by
 have hn:=x.fresh hp
 by_cases hb:b=a
 · subst hb;rw [Z2]at e;cases e;exact new
 · rw [ZI hb]at e
   exact(x b u e).stay (λc v _ q=>k c v q) (λc q=>by rw [ZI (Xb q hn)];exact q) λc xs q=>by rw [ZI (Xb q hn)];exact q
end
def Rd(H:Hp)(a:Addr)(u:HO):Prop:=H a=some u\/∃o,H a=some (.frz o u)
theorem Rd.ok{P:Program}{w:World}{H:Hp}{h:Heap}{a:Addr}{u:HO}(r:Rd H a u)(x:HOk P w H h):ObjOk P w H h a u:=by
 rcases r with r|⟨o,r⟩
 · exact x a u r
 · obtain⟨_,q⟩:=x a _ r
   exact q
def Mut:Option HO->Prop
 |some (.lst _)=>True
 |some (.dK _)=>True
 |some (.dT _)=>True
 |some (.set _ _)=>True
 |some (.ins _ _ _)=>True
 |some (.ext _)=>True
 |_=>False
section
variable{P:Program}{w:World}{H:Hp}{h h':Heap}{x e:Addr}{o':HO}
theorem HOk.write (ok:HOk P w H h) (mu:Mut (H x)) (he:e=x\/H e=some (.own x)) (k:∀b u,b≠e->h.get? b=some u->h'.get? b=some u) (heo:∃u,h'.get? e=some u)
 (new:ObjOk P w (upd H x o') h' x o'):HOk P w (upd H x o') h':=λb u q=>by
 have nown:∀c y,H c=some (.own y)->c≠x:=λc y r z=>by subst z;rw [r]at mu;exact mu
 have ntup:∀c xs,H c=some (.tup xs)->c≠x:=λc xs r z=>by subst z;rw [r]at mu;exact mu
 by_cases hb:b=x
 · subst hb;rw [Z2]at q;cases q;exact new
 · rw [ZI hb]at q
   by_cases hbe:b=e
   · have q' : H b = some (.own x) := by
      rcases he with z|z
      · exact absurd (hbe.trans z) hb
      · rw [hbe];exact z
     rw [q]at q';cases q';obtain⟨v,hv⟩:=heo;exact⟨v,by rw [hbe];exact hv⟩
   · refine(ok b u q).stay (λc v hc r=>k c v ?_ r) (λc r=>by rw [ZI (nown c b r)];exact r) λc xs r=>by rw [ZI (ntup c xs r)];exact r
     rcases hc with rfl|hc
     · exact hbe
     · rintro rfl
       rcases he with z|z
       · exact nown c b hc z
       · rw [hc]at z;cases z;exact hb rfl
end
structure Un(fs ex:List Addr)(H H':Hp)(h h':Heap):Prop where
 keep:∀b o,h.get? b=some o->H b=none->b∉fs->b∉ex->h'.get? b=some o
 slot:∀b o,h.get? b=some o->H b=none->b∈fs->b∉ex->∃sl,h'.get? b=some { o with slots:=sl }
 free:∀b o,h.get? b=some o->H b=none->b∉ex->H' b=none
 there:∀b o,h.get? b=some o->b∉ex->∃o',h'.get? b=some o'
 tups:∀b xs,H b=some (.tup xs)->H' b=some (.tup xs)
 frzs:∀b o u,H b=some (.frz o u)->H' b=some (.frz o u)
 tbls:∀b ps,H b=some (.tbl ps)->∃more,H' b=some (.tbl (ps++more))
section
variable{fs fs' ex ex':List Addr}{H H1 H2:Hp}{h h1 h2 h':Heap}{a x e:Addr}{o:HO}
theorem Un.any(u:Un fs ex H H1 h h1){b:Addr}{ob:Obj}(q:h.get? b=some ob)(n:H b=none)(hx:b∉ex):∃sl,h1.get? b=some { ob with slots:=sl }:=by
 by_cases hb:b∈fs
 · exact u.slot b ob q n hb hx
 · exact⟨ob.slots,u.keep b ob q n hb hx⟩
theorem Un.trans(a:Un fs ex H H1 h h1)(b:Un fs ex H1 H2 h1 h2):Un fs ex H H2 h h2 where
 keep:=λc ob q n hc hx=>b.keep c ob (a.keep c ob q n hc hx) (a.free c ob q n hx) hc hx
 slot:=λc ob q n hc hx=>by
  obtain⟨sl,e1⟩:=a.slot c ob q n hc hx;obtain⟨sl',e2⟩:=b.slot c _ e1 (a.free c ob q n hx) hc hx;exact⟨sl',e2⟩
 free:=λc ob q n hx=>by
  obtain⟨o',e1⟩:=a.there c ob q hx;exact b.free c o' e1 (a.free c ob q n hx) hx
 there:=λc ob q hx=>by
  obtain⟨o',e1⟩:=a.there c ob q hx;exact b.there c o' e1 hx
 tups:=λc xs q=>b.tups c xs (a.tups c xs q)
 frzs:=λc ob xs q=>b.frzs c ob xs (a.frzs c ob xs q)
 tbls:=λc ps q=>by
  obtain⟨m1,e1⟩:=a.tbls c ps q;obtain⟨m2,e2⟩:=b.tbls c _ e1;exact⟨m1++m2,by rw [e2,Array.append_assoc]⟩
theorem Un.kept(k:∀b u,h.get? b=some u->h'.get? b=some u):Un fs ex H H h h':=
 ⟨λb ob q _ _ _=>k b ob q,λb ob q _ _ _=>⟨ob.slots,k b ob q⟩,λ_ _ _ n _=>n,λb ob q _=>⟨ob,k b ob q⟩,λ_ _ q=>q,λ_ _ _ q=>q,λ_ ps q=>⟨#[],by rw [q];simp⟩⟩
theorem Un.refl:Un fs ex H H h h:=Un.kept λ_ _ q=>q
theorem Un.laid(k:∀b u,h.get? b=some u->h'.get? b=some u)(hp:h.objs.size<=a)(hn:H a=none):Un fs ex H (upd H a o) h h' where
 keep:=λb u q _ _ _=>k b u q
 slot:=λb u q _ _ _=>⟨u.slots,k b u q⟩
 free:=λb u q n _=>by rw [ZI (Nat.ne_of_lt (Nat.lt_of_lt_of_le (Heap.lt_size q) hp))];exact n
 there:=λb u q _=>⟨u,k b u q⟩
 tups:=λb xs q=>by rw [ZI (Xb q hn)];exact q
 frzs:=λb u xs q=>by rw [ZI (Xb q hn)];exact q
 tbls:=λb ps q=>⟨#[],by rw [ZI (Xb q hn),q];simp⟩
theorem Un.write(mu:Mut (H x))(he:e=x\/H e=some (.own x))(k:∀b u,b≠e->h.get? b=some u->h'.get? b=some u)(heo:∃u,h'.get? e=some u):Un fs ex H (upd H x o) h h':=by
 have hx:∀b,H b=none->b≠x:=λb n z=>by subst z;rw [n]at mu;exact mu
 have hb:∀b,H b=none->b≠e:=λb n z=>by
  subst z;rcases he with r|r
  · exact hx b n r
  · rw [n]at r;cases r
 have hm:∀b u,H b=some u->¬Mut (some u)->b≠x:=λb u q nm z=>by subst z;rw [q]at mu;exact nm mu
 refine⟨λb u q n _ _=>k b u (hb b n) q,λb u q n _ _=>⟨u.slots,k b u (hb b n) q⟩,λb u q n _=>by rw [ZI (hx b n)];exact n,λb u q _ => ?_,
  λb xs q=>by rw [ZI (hm b _ q λz=>z)];exact q,λb u xs q=>by rw [ZI (hm b _ q λz=>z)];exact q,λb ps q=>⟨#[],by rw [ZI (hm b _ q λz=>z),q];simp⟩⟩
 by_cases hbe:b=e
 · subst hbe;exact heo
 · exact⟨u,k b u hbe q⟩
end
def trk(h:Heap)(H:Hp):List Addr:=(List.range h.objs.size).filter λa=>(H a).isSome
def VD(h:Heap)(H:Hp):Heap:=PySem.W.hideAll h (trk h H)
theorem Ze3(h:Heap)(H:Hp):(VD h H).objs.size=h.objs.size:=PySem.W.hideAll_size _ _
theorem ZfL{h:Heap}{H:Hp}{b:Addr}{o:Obj}(e:h.get? b=some o)(n:H b=none):(VD h H).get? b=some o:=
 PySem.W.hideAll_get _ e λhm=>by
  have q:(H b).isSome=true:=(List.mem_filter.mp hm).2;rw [n]at q;simp at q
theorem Zho{h:Heap}{H:Hp}{b:Addr}{o:Obj}(e:(VD h H).get? b=some o):h.get? b=some o/\H b=none:=by
 have e':h.get? b=some o:=PySem.W.of_hideAll (trk h H) e;refine⟨e',?_⟩;cases q:H b with
 |none=>rfl
 |some x=>
  have hm:b∈trk h H:=List.mem_filter.mpr ⟨List.mem_range.mpr (Heap.lt_size e'),by simp [q]⟩;have z:(VD h H).get? b=none:=PySem.W.hideAll_none (trk h H) hm;rw [z]at e;cases e
end L2
namespace L2
open PySem PySem.Spec PyProof.Rows
structure Mod(K:PySem.W.Frag)(mg:Str->Option Value)(base:Heap):Prop where
 kin:K.In base
 glob:base.Ns mainGlobals mg
 blt:∃mb,base.Ns builtinsNs mb/\∀x:Str,x ≠ "__name__" -> mb x=bootBuiltins x
 nolimit:base.NoLimit
structure Cx where
 prog:Program
 w:World
 K:PySem.W.Frag
 mg:Str->Option Value
 base:Heap
 A:Around
 N:List Str
 s₀:Shared
 H₀:Hp
 env:Env
 outer:List Env
 stack:List Env
 ex:List Addr
 fn:Str->Bool
 calm:Bool
 pn:List (Addr×Obj)
 xe:Value->Shared->Prop
def frs(l:List Env):List Addr:=l.filterMap (·.frame)
abbrev Cx.fs(X:Cx):List Addr:=frs X.outer
def Vis(sc:Scope)(x:Str):Prop:=sc.names.lookup x=some .local\/sc.names.lookup x=some .cell\/sc.names.lookup x=some .free
def Loc(sc:Scope)(x:Str):Prop:=sc.names.lookup x=some .local\/sc.names.lookup x=some .cell
def ZmD(env:Env)(h:Heap)(m:Str->Option Value)(x:Str)(u:Value):Prop:=
 (env.kindOf x=some .local/\m x=some u)\/((env.kindOf x=some .cell\/env.kindOf x=some .free)/\∃c,env.cells.lookup x=some c/\h.IsCell c (some u))
structure Cx.Ok(X:Cx):Prop where
 mod:Mod X.K X.mg X.base
 kind:X.env.scope.kind = .function
 glob:X.env.globals=mainGlobals
 blt:X.env.builtins=builtinsNs
 above:X.s₀.heap.objs.size<=X.env.locals
 inj:∀x y c,X.env.cells.lookup x=some c->X.env.cells.lookup y=some c->x=y
 has:∀x,(X.env.kindOf x=some .cell\/X.env.kindOf x=some .free)->∃c,X.env.cells.lookup x=some c
 cab:∀x c,X.fn x=true->X.env.cells.lookup x=some c->X.s₀.heap.objs.size<=c
 hd:X.calm=true->X.A.handled=none
 frames:X.A.frames=some X.stack
 stk:X.stack=X.outer\/(X.stack=X.env::X.outer/\X.env.frame=some X.env.locals)
 exf:∀b∈X.ex,b≠X.env.locals/\∀x c,X.env.cells.lookup x=some c->c≠b
 bs:∀b o,X.base.get? b=some o->X.s₀.heap.get? b=some o/\X.H₀ b=none
 bsz:X.base.objs.size<=X.s₀.heap.objs.size
 noex:∀b o,X.base.get? b=some o->b∉X.ex
 exfs:∀b∈X.ex,b∉X.fs
 funs:X.s₀.heap.FunFrames X.base X.outer
 frf:∀b∈X.fs,X.H₀ b=none
structure Inv(X:Cx)(pins:List (Addr×Obj))(σ:List (Option V))(H:Hp)(s:Shared):Prop where
 ok:X.Ok
 os:s.os=X.s₀.os
 bare:AllBare s.gens
 base:Un X.fs X.ex X.H₀ H X.s₀.heap s.heap
 loc:∃m,s.heap.Ns X.env.locals m/\∀(i:Nat)(x:Str)(v:V),X.N[i]? = some x->σ[i]? = some (some v)->Vis X.env.scope x->∃u,RelV v u/\ZmD X.env s.heap m x u
 cell:∀x c,X.env.cells.lookup x=some c->∃v,s.heap.IsCell c v
 free:H X.env.locals=none
 freeC:∀x c,X.env.cells.lookup x=some c->H c=none
 pin:∀p∈X.pn++pins,s.heap.get? p.1=some p.2/\H p.1=none/\p.1≠X.env.locals/\p.1∉X.fs/\∀v,p.2.data ≠ .cell v
 hok:HOk X.prog X.w H s.heap
 len:σ.length=X.N.length
section
variable{X:Cx}{pins:List (Addr×Obj)}{σ:List (Option V)}{H H':Hp}{s:Shared}{h':Heap}
theorem Cx.Ok.nofr(ok:X.Ok){b:Addr}{o:Obj}(e:X.base.get? b=some o):b∉X.fs:=λhb=>by
 have:=(ok.funs.mem hb).1;rw [e]at this;cases this
theorem Inv.bs(I:Inv X pins σ H s):∀b o,X.base.get? b=some o->s.heap.get? b=some o/\H b=none:=λb o e=>
 ⟨I.base.keep b o (I.ok.bs b o e).1 (I.ok.bs b o e).2 (I.ok.nofr e) (I.ok.noex b o e),I.base.free b o (I.ok.bs b o e).1 (I.ok.bs b o e).2 (I.ok.noex b o e)⟩
theorem Inv.bk(I:Inv X pins σ H s):∀b o,X.base.get? b=some o->s.heap.get? b=some o:=λb o e=>(I.bs b o e).1
theorem Inv.mod(I:Inv X pins σ H s):Mod X.K X.mg X.base:=I.ok.mod
theorem Inv.kIn(I:Inv X pins σ H s):X.K.In s.heap:=I.ok.mod.kin.keeps I.bk
theorem Inv.nolimit(I:Inv X pins σ H s):s.heap.NoLimit:=I.ok.mod.nolimit.keeps I.bk
theorem Inv.fr(I:Inv X pins σ H s):∃m,Fr X.base X.env.locals s.heap m:=
 let⟨m,hn,_⟩:=I.loc
 ⟨m,hn,I.bk,Nat.le_trans I.ok.bsz I.ok.above⟩
theorem Inv.lt(I:Inv X pins σ H s):X.env.locals<s.heap.objs.size:=let⟨_,hn,_⟩:=I.loc;hn.lt
theorem Inv.sz(I:Inv X pins σ H s):X.s₀.heap.objs.size<=s.heap.objs.size:=Nat.le_trans I.ok.above (Nat.le_of_lt I.lt)
theorem Inv.nofs(I:Inv X pins σ H s){a:Addr}(h:s.heap.objs.size<=a):a∉X.fs:=λhb=>by
 obtain⟨_,o,ho,_⟩:=I.ok.funs.mem hb;exact absurd (Nat.lt_of_lt_of_le (Heap.lt_size ho) (Nat.le_trans I.sz h)) (Nat.lt_irrefl _)
theorem Inv.cne(I:Inv X pins σ H s):∀x c,X.env.cells.lookup x=some c->c≠X.env.locals:=λx c e z=>by
 obtain⟨v,o,ho,hd⟩:=I.cell x c e;obtain⟨m,⟨o',es,ep,ho',hd',_⟩,_⟩:=I.loc;rw [z,ho']at ho;cases ho;rw [hd']at hd;cases hd
theorem Inv.funs(I:Inv X pins σ H s):s.heap.FunFrames X.base X.outer:=by
 have all:∀(l:List Env),(∀b∈frs l,b∈X.fs)->X.s₀.heap.FunFrames X.base l->s.heap.FunFrames X.base l:=by
  intro l
  induction l with
  |nil=>intro _ _;trivial
  |cons env r ih=>
   intro hs hl;obtain⟨hk,⟨L,o,hf,hn,ho,hd⟩,hr⟩:=hl;have hL:L∈X.fs:=hs L (by unfold frs;rw [List.filterMap_cons,hf];exact List.mem_cons_self);obtain⟨sl,e⟩:=I.base.slot L o ho (I.ok.frf L hL) hL λz=>I.ok.exfs L z hL
   exact⟨hk,⟨L,_,hf,hn,e,hd⟩,ih (λb hb=>hs b (by unfold frs;rw [List.filterMap_cons,hf];exact List.mem_cons_of_mem _ hb)) hr⟩
 exact all X.outer (λ_ hb=>hb) I.ok.funs
theorem Inv.stack(I:Inv X pins σ H s):s.heap.FunFrames X.base X.stack:=by
 rcases I.ok.stk with e|⟨e,hf⟩
 · rw [e];exact I.funs
 · rw [e]
   obtain⟨m,hn,_⟩:=I.loc;refine .cons (by rw [I.ok.kind];decide) hf hn ?_ I.funs;exact Heap.get?_none_of_le (Nat.le_trans I.ok.bsz I.ok.above)
theorem Inv.stkSub(I:Inv X pins σ H s):∀b∈frs X.stack,b∈X.env.locals::X.fs:=λb hb=>by
 rcases I.ok.stk with e|⟨e,hf⟩
 · rw [e]at hb;exact List.mem_cons_of_mem _ hb
 · rw [e]at hb
   unfold frs at hb;rw [List.filterMap_cons,hf]at hb;exact hb
theorem Inv.stkFree(I:Inv X pins σ H s):∀b∈frs X.stack,H b=none:=λb hb=>by
 rcases List.mem_cons.mp (I.stkSub b hb)with e|hb
 · rw [e];exact I.free
 · obtain⟨_,o,ho,_⟩:=I.ok.funs.mem hb
   exact I.base.free b o ho (I.ok.frf b hb) λz=>I.ok.exfs b z hb
theorem Inv.step {g':Array GenState} {t':Nat} {d':Drawn} {ch:List Addr} (I:Inv X pins σ H s)
 (hch:∀b∈ch,(b∈X.ex\/X.s₀.heap.objs.size<=b)/\b≠X.env.locals/\(∀x c,X.env.cells.lookup x=some c->c≠b)/\∀p∈X.pn++pins,p.1≠b)
 (keep:∀b o,b≠X.env.locals->b∉X.fs->b∉ch->s.heap.get? b=some o->H b=none->h'.get? b=some o)
 (slot:∀b o,b≠X.env.locals->b∈X.fs->b∉ch->s.heap.get? b=some o->H b=none->∃sl,h'.get? b=some { o with slots:=sl }) (free:∀b o,b∉ch->s.heap.get? b=some o->H b=none->H' b=none)
 (there:∀b o,b∉ch->s.heap.get? b=some o->∃o',h'.get? b=some o')
 (tups:∀b xs,H b=some (.tup xs)->H' b=some (.tup xs)) (frzs:∀b o u,H b=some (.frz o u)->H' b=some (.frz o u)) (tbls:∀b ps,H b=some (.tbl ps)->∃more,H' b=some (.tbl (ps++more)))
 (ns:∀m,s.heap.Ns X.env.locals m->h'.Ns X.env.locals m) (hok:HOk X.prog X.w H' h') (hg:AllBare g') :
 Inv X pins σ H' { s with heap:=h',gens:=g',drawn:=d',toks:=t' }:=by
 have neL:∀b o,X.s₀.heap.get? b=some o->b≠X.env.locals:=λb o e=>Nat.ne_of_lt (Nat.lt_of_lt_of_le (Heap.lt_size e) I.ok.above)
 have neC:∀b o,X.s₀.heap.get? b=some o->b∉X.ex->b∉ch:=λb o e hx hb=>by
  rcases(hch b hb).1 with z|z
  · exact hx z
  · exact absurd (Nat.lt_of_lt_of_le (Heap.lt_size e) z) (Nat.lt_irrefl _)
 have cellK:∀x c,X.env.cells.lookup x=some c->∀v,s.heap.IsCell c v->h'.IsCell c v:=λx c e v ⟨o,ho,hd⟩=>by
  have nch:c∉ch:=λz=>(hch c z).2.2.1 x c e rfl
  by_cases hc:c∈X.fs
  · obtain⟨sl,q⟩:=slot c o (I.cne x c e) hc nch ho (I.freeC x c e)
    exact⟨_,q,hd⟩
  · exact⟨o,keep c o (I.cne x c e) hc nch ho (I.freeC x c e),hd⟩
 refine⟨I.ok,I.os,hg,⟨λb o e n hb hx => ?_,λb o e n hb hx => ?_,λb o e n hx => ?_,λb o e hx => ?_,λb xs e=>tups b xs (I.base.tups b xs e),λb o xs e=>frzs b o xs (I.base.frzs b o xs e),λb ps e => ?_⟩,?_,λx c e => ?_,?_,λx c e => ?_,λp hp => ?_,hok,I.len⟩
 · exact keep b o (neL b o e) hb (neC b o e hx) (I.base.keep b o e n hb hx) (I.base.free b o e n hx)
 · obtain⟨sl,e1⟩:=I.base.slot b o e n hb hx
   obtain⟨sl',e2⟩:=slot b _ (neL b o e) hb (neC b o e hx) e1 (I.base.free b o e n hx);exact⟨sl',e2⟩
 · obtain⟨o',e1⟩:=I.base.there b o e hx
   exact free b o' (neC b o e hx) e1 (I.base.free b o e n hx)
 · obtain⟨o',e1⟩:=I.base.there b o e hx
   exact there b o' (neC b o e hx) e1
 · obtain⟨m1,e1⟩:=I.base.tbls b ps e
   obtain⟨m2,e2⟩:=tbls b _ e1;exact⟨m1++m2,by rw [e2,Array.append_assoc]⟩
 · obtain⟨m,hn,hl⟩:=I.loc
   refine⟨m,ns m hn,λi x v e1 e2 e3 => ?_⟩;obtain⟨u,r,l⟩:=hl i x v e1 e2 e3;refine⟨u,r,?_⟩;rcases l with l|⟨k,c,e,z⟩
   · exact .inl l
   · exact .inr ⟨k,c,e,cellK x c e _ z⟩
 · obtain⟨v,z⟩:=I.cell x c e
   exact⟨v,cellK x c e v z⟩
 · obtain⟨m,⟨o,_,_,ho,_⟩,_⟩:=I.loc
   exact free _ o (λz=>(hch _ z).2.1 rfl) ho I.free
 · obtain⟨v,o,ho,hd⟩:=I.cell x c e
   exact free c o (λz=>(hch c z).2.2.1 x c e rfl) ho (I.freeC x c e)
 · obtain⟨e,n,ne,nf,d⟩:=I.pin p hp
   have nch:p.1∉ch:=λz=>(hch p.1 z).2.2.2 p hp rfl
   exact⟨keep p.1 p.2 ne nf nch e n,free p.1 p.2 nch e n,ne,nf,d⟩
theorem Inv.un{t':Nat}(I:Inv X pins σ H s)(u:Un X.fs [] H H' s.heap h')(hok:HOk X.prog X.w H' h'):Inv X pins σ H' { s with heap:=h',toks:=t' }:=by
 obtain⟨m,⟨o,es,ep,ho,r⟩,_⟩:=id I.loc;obtain⟨sl,hL⟩:=u.any ho I.free (by simp)
 exact I.step (g':=s.gens) (d':=s.drawn) (ch:=[]) (λ_ z=>nomatch z) (λb o _ hb _ e n=>u.keep b o e n hb (by simp)) (λb o _ hb _ e n=>u.slot b o e n hb (by simp)) (λb o _ e n=>u.free b o e n (by simp)) (λb o _ e=>u.there b o e (by simp)) u.tups u.frzs u.tbls (λm' hm=>by
  obtain⟨o',es',ep',ho',r'⟩:=hm;rw [ho]at ho';cases ho';exact⟨_,es',ep',hL,r'⟩) hok I.bare
theorem Inv.call {g':Array GenState} {t':Nat} {d':Drawn} {ch:List Addr} (I:Inv X pins σ H s) (u:Un (frs X.stack) ch H H' s.heap h') (hok:HOk X.prog X.w H' h') (hg:AllBare g')
 (hch:∀b∈ch,(b∈X.ex\/X.s₀.heap.objs.size<=b)/\b≠X.env.locals/\(∀x c,X.env.cells.lookup x=some c->c≠b)/\∀p∈X.pn++pins,p.1≠b) :
 Inv X pins σ H' { s with heap:=h',gens:=g',drawn:=d',toks:=t' }:=by
 obtain⟨m,⟨o,es,ep,ho,r⟩,_⟩:=id I.loc;obtain⟨sl,hL⟩:=u.any ho I.free λz=>(hch _ z).2.1 rfl
 exact I.step (ch:=ch) hch (λb o hL hb hc e n=>u.keep b o e n (λz=>(List.mem_cons.mp (I.stkSub b z)).elim hL hb) hc) (λb o _ _ hc e n=>u.any e n hc) (λb o hc e n=>u.free b o e n hc) (λb o hc e=>u.there b o e hc) u.tups u.frzs u.tbls (λm' hm=>by
  obtain⟨o',es',ep',ho',r'⟩:=hm;rw [ho]at ho';cases ho';exact⟨_,es',ep',hL,r'⟩) hok hg
theorem Inv.turned {t':Nat} {it:Addr} (I:Inv X pins σ H s) (k:∀b o,b≠it->s.heap.get? b=some o->h'.get? b=some o) (hn:H it=none) (hL:it≠X.env.locals)
 (h1:it∈X.ex\/X.s₀.heap.objs.size<=it) (h2:∀x c,X.env.cells.lookup x=some c->c≠it) (h3:∀p∈X.pn++pins,p.1≠it):Inv X pins σ H { s with heap:=h',toks:=t' }:=by
 have nit:∀b u,H b=some u->b≠it:=λb u e z=>by rw [z,hn]at e;cases e
 refine I.step (g':=s.gens) (d':=s.drawn) (ch:=[it]) (λb hb => ?_) (λb o _ _ hc e _=>k b o (λz=>hc (by simp [z])) e) (λb o _ _ hc e _=>⟨o.slots,k b o (λz=>hc (by simp [z])) e⟩) (λ_ _ _ _ n=>n)
  (λb o hc e=>⟨o,k b o (λz=>hc (by simp [z])) e⟩) (λ_ _ e=>e) (λ_ _ _ e=>e) (λb ps e=>⟨#[],by rw [e];simp⟩) (λm hm => ?_) (λb u e => ?_) I.bare
 · have e:b=it:=by simpa using hb
   subst e;exact⟨h1,hL,h2,h3⟩
 · obtain⟨o,es,ep,ho,r⟩:=hm
   exact⟨o,es,ep,k _ o (Ne.symm hL) ho,r⟩
 · refine(I.hok b u e).stay (λc v hc q=>k c v ?_ q) (λ_ q=>q) λ_ _ q=>q
   rcases hc with z|z
   · rw [z];exact nit b u e
   · exact nit c _ z
theorem Inv.tok(I:Inv X pins σ H s)(t:Nat):Inv X pins σ H { s with toks:=t }:=I.un (h':=s.heap) (t':=t) Un.refl I.hok
theorem Inv.kept{t':Nat}(I:Inv X pins σ H s)(k:∀b u,s.heap.get? b=some u->h'.get? b=some u):Inv X pins σ H { s with heap:=h',toks:=t' }:=I.un (Un.kept k) (I.hok.kept k)
theorem Inv.laid{a:Addr}{o:HO}{t':Nat}(I:Inv X pins σ H s)(k:∀b u,s.heap.get? b=some u->h'.get? b=some u)(hp:s.heap.objs.size<=a)(new:ObjOk X.prog X.w (upd H a o) h' a o) :
 Inv X pins σ (upd H a o) { s with heap:=h',toks:=t' }:=I.un (Un.laid k hp (I.hok.fresh hp)) (I.hok.laid k hp new)
theorem Inv.write {x e:Addr} {o:HO} {t':Nat} (I:Inv X pins σ H s) (mu:Mut (H x)) (he:e=x\/H e=some (.own x)) (k:∀b u,b≠e->s.heap.get? b=some u->h'.get? b=some u) (heo:∃u,h'.get? e=some u)
 (new:ObjOk X.prog X.w (upd H x o) h' x o):Inv X pins σ (upd H x o) { s with heap:=h',toks:=t' }:=I.un (Un.write mu he k heo) (I.hok.write mu he k heo new)
theorem Inv.pins_of{pins':List (Addr×Obj)}(I:Inv X pins σ H s)(h:∀p∈pins',s.heap.get? p.1=some p.2/\H p.1=none/\p.1≠X.env.locals/\p.1∉X.fs/\∀v,p.2.data ≠ .cell v):Inv X pins' σ H s:=
 ⟨I.ok,I.os,I.bare,I.base,I.loc,I.cell,I.free,I.freeC,λp hp=>(List.mem_append.mp hp).elim (λz=>I.pin p (List.mem_append_left _ z)) (h p),I.hok,I.len⟩
theorem Zbo{N:List Str}(hN:N.Nodup){i j:Nat}{x:Str}(a:N[i]? = some x)(b:N[j]? = some x):i=j:=by
 obtain⟨h1,e1⟩:=List.getElem?_eq_some_iff.mp a;obtain⟨h2,e2⟩:=List.getElem?_eq_some_iff.mp b;exact(List.getElem_inj hN).mp (e1.trans e2.symm)
theorem ZbI {M:Model} {A:Around} {E:Value->Shared->Prop} {i:Nat} {x:Str} {v:V} {u:Value} {Q:Unit->Shared->Prop} (I:Inv X pins σ H s) (hN:X.N.Nodup) (hi:X.N[i]? = some x) (hx:Loc X.env.scope x) (r:RelV v u)
 (h:∀s',Inv X pins (σ.set i (some v)) H s'->(∃a,Heap.SameBut a s.heap s'.heap/\(a=X.env.locals\/X.env.cells.lookup x=some a))->Q () s') (hf:X.fn x=true\/X.env.scope.names.lookup x=some .local:=by first|exact .inl rfl|exact .inr rfl|assumption):wpAny M A (storeName X.env x u) Q E s:=by
 obtain⟨m,hn,hl⟩:=id I.loc;have hcls:(X.env.scope.kind == .class||(X.env.scope.kind == .module&&X.env.locals != X.env.globals))=false:=by rw [I.ok.kind];rfl
 have hiσ:i<σ.length:=by rw [I.len];exact(List.getElem?_eq_some_iff.mp hi).1
 have cne:=I.cne
 have tracked:∀{a:Addr}{h':Heap},(∃o,s.heap.get? a=some o/\H a=none)->Heap.SameBut a s.heap h'->HOk X.prog X.w H h':=λ{a h'} ha hs b ob e=>by
  obtain⟨_,_,hfree⟩:=ha;refine(I.hok b ob e).stay (λc w' hc q=>(hs.2 c ?_).trans q) (λ_ q=>q) λ_ _ q=>q
  rintro rfl
  rcases hc with rfl|hc
  · rw [hfree]at e;cases e
  · rw [hfree]at hc;cases hc
 rcases hx with hk|hk
 · refine wpAny_storeName_local hk hn (λh' hn' hs => ?_) hcls
   obtain⟨oL,_,_,hoL,_⟩:=id hn;refine h _ ⟨I.ok,I.os,I.bare,⟨λb o e n hb hx => ?_,λb o e n hb hx => ?_,I.base.free,λb o e hx => ?_,I.base.tups,I.base.frzs,I.base.tbls⟩,⟨_,hn',λj y v' e1 e2 e3 => ?_⟩,λy c e => ?_,I.free,I.freeC,λp hp => ?_,tracked ⟨oL,hoL,I.free⟩ hs,by simpa using I.len⟩ ⟨_,hs,.inl rfl⟩
   · exact(hs.2 b (Nat.ne_of_lt (Nat.lt_of_lt_of_le (Heap.lt_size e) I.ok.above))).trans (I.base.keep b o e n hb hx)
   · obtain⟨sl,e1⟩:=I.base.slot b o e n hb hx
     exact⟨sl,(hs.2 b (Nat.ne_of_lt (Nat.lt_of_lt_of_le (Heap.lt_size e) I.ok.above))).trans e1⟩
   · obtain⟨o',e1⟩:=I.base.there b o e hx
     exact⟨o',(hs.2 b (Nat.ne_of_lt (Nat.lt_of_lt_of_le (Heap.lt_size e) I.ok.above))).trans e1⟩
   · by_cases hj:j=i
     · subst hj
       rw [hi]at e1;cases e1;rw [List.getElem?_set_self hiσ]at e2;cases e2;exact⟨u,r,.inl ⟨hk,by simp⟩⟩
     · rw [List.getElem?_set_ne (Ne.symm hj)]at e2
       obtain⟨u',r',q⟩:=hl j y v' e1 e2 e3;refine⟨u',r',?_⟩;rcases q with⟨k,e⟩|⟨k,c,e,z⟩
       · refine .inl ⟨k,?_⟩
         have:y≠x:=λe=>hj (Zbo hN e1 (e▸hi))
         simp [this,e]
       · exact .inr ⟨k,c,e,z.sameBut hs (cne y c e)⟩
   · obtain⟨w',z⟩:=I.cell y c e
     exact⟨w',z.sameBut hs (cne y c e)⟩
   · obtain⟨e,n,ne,nf,d⟩:=I.pin p hp
     exact⟨(hs.2 p.1 ne).trans e,n,ne,nf,d⟩
 · have hfn : X.fn x = true := by
    rcases hf with z|z
    · exact z
    · rw [z]at hk;cases hk
   obtain⟨c,hc⟩:=I.ok.has x (.inl hk);obtain⟨w',z⟩:=I.cell x c hc;refine wpAny_storeName_cell I.ok.kind hk hc z (λh' hc' hs => ?_);obtain⟨oc,hoc,hocd⟩:=id z;refine h { s with heap:=h' } ⟨I.ok,I.os,I.bare,⟨λb o e n hb hx => ?_,λb o e n hb hx => ?_,I.base.free,λb o e hx => ?_,I.base.tups,I.base.frzs,I.base.tbls⟩,⟨m,hn.sameBut hs (Ne.symm (cne x c hc)),λj y v' e1 e2 e3 => ?_⟩,λy c' e => ?_,I.free,I.freeC,λp hp => ?_,tracked ⟨oc,hoc,I.freeC x c hc⟩ hs,by simpa using I.len⟩ ⟨c,hs,.inr hc⟩
   · exact(hs.2 b (Nat.ne_of_lt (Nat.lt_of_lt_of_le (Heap.lt_size e) (I.ok.cab x c hfn hc)))).trans (I.base.keep b o e n hb hx)
   · obtain⟨sl,e1⟩:=I.base.slot b o e n hb hx
     exact⟨sl,(hs.2 b (Nat.ne_of_lt (Nat.lt_of_lt_of_le (Heap.lt_size e) (I.ok.cab x c hfn hc)))).trans e1⟩
   · obtain⟨o',e1⟩:=I.base.there b o e hx
     exact⟨o',(hs.2 b (Nat.ne_of_lt (Nat.lt_of_lt_of_le (Heap.lt_size e) (I.ok.cab x c hfn hc)))).trans e1⟩
   · by_cases hj:j=i
     · subst hj
       rw [hi]at e1;cases e1;rw [List.getElem?_set_self hiσ]at e2;cases e2;exact⟨u,r,.inr ⟨.inl hk,c,hc,hc'⟩⟩
     · rw [List.getElem?_set_ne (Ne.symm hj)]at e2
       obtain⟨u',r',q⟩:=hl j y v' e1 e2 e3;refine⟨u',r',?_⟩;rcases q with q|⟨k,c',e,z'⟩
       · exact .inl q
       · refine .inr ⟨k,c',e,z'.sameBut hs ?_⟩
         rintro rfl
         exact hj (Zbo hN e1 (I.ok.inj _ _ _ e hc▸hi))
   · by_cases hcc:c'=c
     · subst hcc;exact⟨_,hc'⟩
     · obtain⟨w2,z2⟩:=I.cell y c' e
       exact⟨w2,z2.sameBut hs hcc⟩
   · obtain⟨e,n,ne,nf,d⟩:=I.pin p hp
     refine⟨(hs.2 p.1 ?_).trans e,n,ne,nf,d⟩;intro q;rw [q,hoc]at e;have q':oc=p.2:=Option.some.inj e;exact d w' (by rw [<-q'];exact hocd)
theorem Zbp {M:Model} {A:Around} {E:Value->Shared->Prop} {i:Nat} {x:Str} {v:V} {u:Value} {Q:Unit->Shared->Prop} (I:Inv X pins σ H s) (hN:X.N.Nodup) (hi:X.N[i]? = some x) (hx:Loc X.env.scope x) (r:RelV v u)
 (h:∀s',Inv X pins (σ.set i (some v)) H s'->Q () s') (hf:X.fn x=true\/X.env.scope.names.lookup x=some .local:=by first|exact .inl rfl|exact .inr rfl|assumption):wpAny M A (storeName X.env x u) Q E s:=
 ZbI I hN hi hx r (λs' I' _=>h s' I') hf
theorem Inv.call' {s':Shared} {ch:List Addr} (I:Inv X pins σ H s) (ho:s'.os=s.os) (u:Un (frs X.stack) ch H H' s.heap s'.heap) (hok:HOk X.prog X.w H' s'.heap) (hg:AllBare s'.gens)
 (hch:∀b∈ch,(b∈X.ex\/X.s₀.heap.objs.size<=b)/\b≠X.env.locals/\(∀x c,X.env.cells.lookup x=some c->c≠b)/\∀p∈X.pn++pins,p.1≠b):Inv X pins σ H' s':=by
 obtain⟨h',g',d',t',o'⟩:=s';have e:o'=s.os:=ho;subst e;exact I.call (g':=g') (t':=t') (d':=d') u hok hg hch
end
abbrev XK:=Value->Option Addr->Hp->Prop
abbrev St:=List (Option V)
abbrev VK:=V->Hp->Prop
abbrev TE:=St->Hp->VK->Prop
abbrev TT:=St->Hp->(Bool->Hp->Prop)->Prop
abbrev TA:=St->Hp->(List V->Hp->Prop)->Prop
structure Ends where
 nx:St->Hp->Prop
 rt:VK
 bk:St->Hp->Prop:=λ_ _=>False
 ct:St->Hp->Prop:=λ_ _=>False
abbrev TS:=Ends->St->Hp->Prop
def EP(X:Cx)(pins:List (Addr×Obj))(σ:St)(Q:VK)(u:Value)(s':Shared):Prop:=∃v H',Inv X pins σ H' s'/\RelV v u/\Q v H'
def TP(X:Cx)(pins:List (Addr×Obj))(σ:St)(Q:Bool->Hp->Prop)(b:Bool)(s':Shared):Prop:=∃H',Inv X pins σ H' s'/\Q b H'
def AP(X:Cx)(pins:List (Addr×Obj))(σ:St)(Q:List V->Hp->Prop)(us:List Value)(s':Shared):Prop:=∃vs H',Inv X pins σ H' s'/\Vals vs us/\Q vs H'
def SP(X:Cx)(pins:List (Addr×Obj))(D:Ends)(f:Flow)(s':Shared):Prop:=
 match f with
 | .next=>∃σ' H',Inv X pins σ' H' s'/\D.nx σ' H'
 | .brk=>∃σ' H',Inv X pins σ' H' s'/\D.bk σ' H'
 | .cont=>∃σ' H',Inv X pins σ' H' s'/\D.ct σ' H'
 | .ret u=>∃v σ' H',Inv X pins σ' H' s'/\RelV v u/\D.rt v H'
def PE(X:Cx)(e:Expr)(t:TE):Prop:=
 ∀(pins:List (Addr×Obj))(s:Shared)(σ:St)(H:Hp)(Q:VK),Inv X pins σ H s->t σ H Q->wpAny (model X.prog X.w) X.A (eval e X.env) (EP X pins σ Q) X.xe s
def PT(X:Cx)(e:Expr)(t:TT):Prop:=
 ∀(pins:List (Addr×Obj))(s:Shared)(σ:St)(H:Hp)(Q:Bool->Hp->Prop),Inv X pins σ H s->t σ H Q->wpAny (model X.prog X.w) X.A (isTrue e X.env (eval e X.env)) (TP X pins σ Q) X.xe s
def PW(X:Cx)(e:Expr)(t:TT):Prop:=
 ∀(whole:Sem Value)(pins:List (Addr×Obj))(s:Shared)(σ:St)(H:Hp)(Q:Bool->Hp->Prop),Inv X pins σ H s->t σ H Q->wpAny (model X.prog X.w) X.A (isTrue e X.env whole) (TP X pins σ Q) X.xe s
theorem PW.pt{X:Cx}{e:Expr}{t:TT}(h:PW X e t):PT X e t:=h _
def PA(X:Cx)(es:List Expr)(t:TA):Prop:=
 ∀(pos:Pos)(pins:List (Addr×Obj))(s:Shared)(σ:St)(H:Hp)(Q:List V->Hp->Prop),Inv X pins σ H s->t σ H Q->wpAny (model X.prog X.w) X.A (spliced (backTo pos (starEach es X.env))) (AP X pins σ Q) X.xe s
def PS(X:Cx)(st:Stmt)(t:TS):Prop:=
 ∀(pins:List (Addr×Obj))(s:Shared)(σ:St)(H:Hp)(D:Ends),Inv X pins σ H s->t D σ H->wpAny (model X.prog X.w) X.A (exec st X.env) (SP X pins D) X.xe s
def PSs(X:Cx)(st:List Stmt)(t:TS):Prop:=
 ∀(pins:List (Addr×Obj))(s:Shared)(σ:St)(H:Hp)(D:Ends),Inv X pins σ H s->t D σ H->wpAny (model X.prog X.w) X.A (execs st X.env) (SP X pins D) X.xe s
theorem thn{α:Type}{t:Sem α}{Q Q':α->Shared->Prop}{M:Model}{A:Around}{E:Value->Shared->Prop}{s:Shared}(h:wpAny M A t Q E s)(hQ:∀a s,Q a s->Q' a s):wpAny M A t Q' E s:=wpAny_mono h hQ λ_ _ x=>x
end L2
namespace L2
open PySem PySem.Spec PyProof.Rows
section
variable{X:Cx}
def Xk(i:Nat):TE:=λσ H Q=>∃v,σ[i]? = some (some v)/\Q v H
def tC(v:V):TE:=λ_ H Q=>Q v H
theorem Zi7 {i:Nat} {x:Str} {pos:Pos} (hN:X.N[i]? = some x) (hv:Vis X.env.scope x) (hd:(x == ("__debug__" : Str))=false:=by decide) (hcd:(x == ("__classdict__" : Str))=false:=by decide):PE X (.Name x pos) (Xk i):=by
 intro pins s σ H Q I h;obtain⟨v,e,h⟩:=h;obtain⟨m,hn,hl⟩:=I.loc;obtain⟨u,r,l⟩:=hl i x v hN e hv;have fin:EP X pins σ Q u s:=⟨v,H,I,r,h⟩
 rcases l with⟨hk,hm⟩|⟨hk,c,hc,hcell⟩
 · exact wpAny_Name (wpAny_loadName_local I.ok.kind hk hn hm fin) hd
 · rcases hk with hk|hk
   · exact wpAny_Name (wpAny_loadName_cell I.ok.kind hk hc hcell fin) hd
   · exact wpAny_Name (wpAny_loadName_free I.ok.kind hk hc hcell fin hcd) hd
theorem Zm{i j pos}:PE X (.Constant (.int i) j pos) (tC (.int i)):=λ_ _ _ H _ I h=>wpAny_Constant_int ⟨.int i,H,I.tok _,⟨_,rfl⟩,h⟩
theorem JN{b j pos}:PE X (.Constant (.bool b) j pos) (tC (.bl b)):=λ_ _ _ H _ I h=>Constant_bool ⟨.bl b,H,I,rfl,h⟩
theorem Xe{j pos}:PE X (.Constant .none j pos) (tC .non):=λ_ _ _ H _ I h=>Constant_none ⟨.non,H,I,rfl,h⟩
theorem Zi8{x j pos}:PE X (.Constant (.str x) j pos) (tC (.str x)):=λ_ _ _ H _ I h=>Calls.Constant_str ⟨.str x,H,I.tok _,⟨_,rfl⟩,h⟩
def Gl(X:Cx)(x:Str):Prop:=X.env.kindOf x=some .globalImplicit
theorem Uw {E:Value->Shared->Prop} {pins:List (Addr×Obj)} {s:Shared} {σ:St} {H:Hp} {x:Str} {u:Value} {pos:Pos} {Q:Value->Shared->Prop} (I:Inv X pins σ H s) (hg:Gl X x) (hm:X.mg x=some u) (h:Q u s)
 (hd:(x == ("__debug__" : Str))=false:=by decide):wpAny (model X.prog X.w) X.A (eval (.Name x pos) X.env) Q E s:=
 Calls.Name_function_global I.ok.kind hg (Calls.loadGlobal_global (by rw [I.ok.glob];exact I.mod.glob.keeps I.bk) hm h) hd
theorem U0 {E:Value->Shared->Prop} {pins:List (Addr×Obj)} {s:Shared} {σ:St} {H:Hp} {x:Str} {u:Value} {pos:Pos} {Q:Value->Shared->Prop} (I:Inv X pins σ H s) (hg:Gl X x) (hm:X.mg x=none) (hv:bootBuiltins x=some u) (h:Q u s)
 (hn:x ≠ "__name__" := by decide) (hd:(x == ("__debug__" : Str))=false:=by decide):wpAny (model X.prog X.w) X.A (eval (.Name x pos) X.env) Q E s:=by
 obtain⟨mb,h1,h2⟩:=I.mod.blt;exact Calls.Name_function_global I.ok.kind hg (Calls.loadGlobal_builtin (by rw [I.ok.glob];exact I.mod.glob.keeps I.bk) hm (by rw [I.ok.blt];exact h1.keeps I.bk) ((h2 x hn).trans hv) h) hd
theorem QL {x:Str} {v:V} {u:Value} {pos:Pos} (hg:Gl X x) (hm:X.mg x=some u) (r:RelV v u) (hd:(x == ("__debug__" : Str))=false:=by decide):PE X (.Name x pos) (tC v):=
 λ_ _ _ H _ I h=>Uw I hg hm ⟨v,H,I,r,h⟩ hd
theorem Zcp {x:Str} {v:V} {u:Value} {pos:Pos} (hg:Gl X x) (hm:X.mg x=none) (hv:bootBuiltins x=some u) (r:RelV v u) (hn:x ≠ "__name__" := by decide) (hd:(x == ("__debug__" : Str))=false:=by decide):PE X (.Name x pos) (tC v):=
 λ_ _ _ H _ I h=>U0 I hg hm hv ⟨v,H,I,r,h⟩ hn hd
variable{a b:Expr}{ta tb:TE}{pos:Pos}
def PC(X:Cx)(op:CmpOp)(a b:Expr)(t:TE):Prop:=
 ∀(pins:List (Addr×Obj))(s:Shared)(σ:St)(H:Hp)(Q:VK),Inv X pins σ H s->t σ H Q ->
  wpAny (model X.prog X.w) X.A (eval a X.env) (λv s₁=>wpAny (model X.prog X.w) X.A (eval b X.env) (λu s₂=>wpAny (model X.prog X.w) X.A (compareOp op v u) (EP X pins σ Q) X.xe s₂) X.xe s₁) X.xe s
theorem ZfM(b:Expr){op:CmpOp}(h:op ≠ .In)(h2:op ≠ .NotIn):behindInMarks op b=false:=by
 have e1:(op == CmpOp.In)=false:=by cases op<;>first|rfl|exact absurd rfl h
 have e2:(op == CmpOp.NotIn)=false:=by cases op<;>first|rfl|exact absurd rfl h2
 cases b<;>simp [behindInMarks,e1,e2]
def ZmE(ta:TE):TE:=λσ H Q=>ta σ H λx H1=>Q (.bl (decide (x = .non))) H1
def Zir(ta:TE):TE:=λσ H Q=>ta σ H λx H1=>Q (.bl (!decide (x = .non))) H1
theorem RelV.none_iff{x:V}{v:Value}(r:RelV x v):(v == Value.none)=decide (x = .non):=by
 cases x with
 |non=>cases r;rfl
 |bl _=>cases r;rfl
 |int _=>obtain⟨t,rfl⟩:=r;rfl
 |str _=>obtain⟨t,rfl⟩:=r;rfl
 |byt _=>obtain⟨t,rfl⟩:=r;rfl
 |flt _=>obtain⟨t,rfl⟩:=r;rfl
 |ref _=>cases r;rfl
 |ty _=>cases r;rfl
theorem Ux{j pos'}(ha:PE X a ta):PC X .Is a (.Constant .none j pos') (ZmE ta):=by
 intro pins s σ H Q I h;refine thn (ha pins s σ H _ I h) λv s1 ⟨x,H1,I1,r1,q1⟩ => ?_
 exact Constant_none (is_none_gen ⟨.bl _,H1,I1,by rw [r1.none_iff];rfl,q1⟩)
theorem Zeq{j pos'}(ha:PE X a ta):PC X .IsNot a (.Constant .none j pos') (Zir ta):=by
 intro pins s σ H Q I h;refine thn (ha pins s σ H _ I h) λv s1 ⟨x,H1,I1,r1,q1⟩ => ?_
 exact Constant_none (isnot_none_gen ⟨.bl _,H1,I1,by rw [r1.none_iff];rfl,q1⟩)
def tB(t:TE):TT:=λσ H Q=>t σ H λx H1=>∃c,x = .bl c/\Q c H1
theorem VH{op:CmpOp}{t:TE}(h:PC X op a b t)(h1:behindInMarks op b=false:=by first|exact ZfM _ (by decide) (by decide)|rfl):PT X (.Compare a [op] [b] pos) (tB t):=by
 intro pins s σ H Q I hw;refine wpAny_isTrue_Compare1 (thn (h pins s σ H _ I hw) λv s1 h1=>thn h1 λu s2 h2=>thn h2 λc s3 ⟨x,H1,I1,r1,q1⟩ => ?_) h1;obtain⟨d,rfl,q⟩:=q1;cases r1;exact wpAny_truthy_bool ⟨H1,I1,q⟩
theorem V5{e:Expr}{t:TE}(h:PE X e t)(he:∀whole,isTrue e X.env whole=(do let v <-whole;standAt e.pos;holding [v] (truthy v)):=by intro _;rfl):PT X e (tB t):=by
 intro pins s σ H Q I hw;refine isTrue_plain (thn (h pins s σ H _ I hw) λv s1 ⟨x,H1,I1,r1,q1⟩ => ?_) (he _);obtain⟨d,rfl,q⟩:=q1;cases r1;exact wpAny_truthy_bool ⟨H1,I1,q⟩
variable{tA tB':TT}{rest:List Expr}
def JO(t u:TT):TT:=λσ H Q=>t σ H λc H1=>if c=true then u σ H1 Q else Q false H1
def tOr(t u:TT):TT:=λσ H Q=>t σ H λc H1=>if c=true then Q true H1 else u σ H1 Q
def ZkN(t:TT):TT:=λσ H Q=>t σ H λc H1=>Q (!c) H1
theorem U1(ha:PT X a tA):PW X (.BoolOp .And [a] pos) tA:=by
 intro wh pins s σ H Q I h;refine isTrue_and (thn (ha pins s σ H Q I h) λc s1 e => ?_);cases c with
 |true=>exact isTrue_and_nil e
 |false=>exact e
theorem X3(ha:PT X a tA):PW X (.BoolOp .Or [a] pos) tA:=by
 intro wh pins s σ H Q I h;refine isTrue_or (thn (ha pins s σ H Q I h) λc s1 e => ?_);cases c with
 |false=>exact isTrue_or_nil e
 |true=>exact e
theorem Uy(ha:PT X a tA)(hb:PW X (.BoolOp .And (b::rest) pos) tB'):PW X (.BoolOp .And (a::b::rest) pos) (JO tA tB'):=by
 intro wh pins s σ H Q I h;refine isTrue_and (thn (ha pins s σ H _ I h) λc s1 ⟨H1,I1,q1⟩ => ?_);cases c with
 |true=>exact hb wh pins s1 σ H1 Q I1 q1
 |false=>exact⟨H1,I1,q1⟩
theorem Xf(ha:PT X a tA)(hb:PW X (.BoolOp .Or (b::rest) pos) tB'):PW X (.BoolOp .Or (a::b::rest) pos) (tOr tA tB'):=by
 intro wh pins s σ H Q I h;refine isTrue_or (thn (ha pins s σ H _ I h) λc s1 ⟨H1,I1,q1⟩ => ?_);cases c with
 |true=>exact⟨H1,I1,q1⟩
 |false=>exact hb wh pins s1 σ H1 Q I1 q1
theorem QM(ha:PT X a tA):PT X (.UnaryOp .Not a pos) (ZkN tA):=by
 intro pins s σ H Q I h;exact isTrue_not (ha pins s σ H (λc H1=>Q (!c) H1) I h)
def Zis(ta tb:TE):TE:=λσ H Q=>ta σ H λx H1=>∃c,x = .bl c/\if c=true then tb σ H1 Q else Q (.bl false) H1
def Zit(ta:TE):TE:=λσ H Q=>ta σ H λx H1=>∃c,x = .bl c/\Q (.bl (!c)) H1
theorem U2{op}{t:TE}(h:PE X a t):PE X (.BoolOp op [a] pos) t:=λpins s σ H Q I hw=>BoolOp_one (h pins s σ H Q I hw)
theorem V6(ha:PE X a ta)(hb:PE X (.BoolOp .And (b::rest) pos) tb):PE X (.BoolOp .And (a::b::rest) pos) (Zis ta tb):=by
 intro pins s σ H Q I h;refine BoolOp_and (thn (ha pins s σ H _ I h) λv s1 ⟨x,H1,I1,r1,q1⟩ => ?_);obtain⟨c,rfl,q1⟩:=q1;cases r1;refine wpAny_truthy_bool ?_;cases c with
 |true=>exact hb pins s1 σ H1 Q I1 q1
 |false=>exact⟨.bl false,H1,I1,rfl,q1⟩
theorem Zi9(ha:PE X a ta):PE X (.UnaryOp .Not a pos) (Zit ta):=by
 intro pins s σ H Q I h;refine UnaryOp_ (thn (ha pins s σ H _ I h) λv s1 ⟨x,H1,I1,r1,q1⟩ => ?_);obtain⟨c,rfl,q1⟩:=q1;cases r1;exact not_of (wpAny_truthy_bool ⟨.bl (!c),H1,I1,rfl,q1⟩)
def tIf(t:TT)(ta tb:TE):TE:=λσ H Q=>t σ H λc H1=>if c=true then ta σ H1 Q else tb σ H1 Q
theorem Uz{c:Expr}(hc:PT X c tA)(ha:PE X a ta)(hb:PE X b tb):PE X (.IfExp c a b pos) (tIf tA ta tb):=by
 intro pins s σ H Q I h;refine wpAny_IfExp (thn (hc pins s σ H _ I h) λd s1 ⟨H1,I1,q1⟩ => ?_);cases d with
 |true=>exact ha pins s1 σ H1 Q I1 q1
 |false=>exact hb pins s1 σ H1 Q I1 q1
end
end L2
namespace L2
open PySem PySem.Spec PyProof.Rows
def SqL(K:PySem.W.Frag)(H:Hp)(a:Addr)(xs:List V):Prop:=
 Rd H a (.lst xs) \/
  ∃(o:Obj) (its:Array Value) (n:Nat),K.lookup a=some o/\o.cls = .type "list" /\ o.dict=none/\o.data = .seq its n/\its.size<=sizeLine/\Vals xs its.toList
def SqT(K:PySem.W.Frag)(H:Hp)(a:Addr)(xs:List V):Prop:=
 Rd H a (.tup xs) \/
  ∃(o:Obj) (its:Array Value) (n:Nat),K.lookup a=some o/\o.cls = .type "tuple" /\ o.data = .seq its n/\its.size<=sizeLine/\Vals xs its.toList
def Zm3:Value->Option V
 | .none=>some .non
 | .bool b=>some (.bl b)
 | .int i _=>some (.int i)
 | .str x _=>some (.str x)
 | .bytes b _=>some (.byt b)
 | .float b _=>some (.flt b)
 | .ref a=>some (.ref a)
 | .type n=>some (.ty n)
 |_=>none
theorem RelV.abs{x:V}{u:Value}(r:RelV x u):Zm3 u=some x:=by
 cases x with
 |non=>cases r;rfl
 |bl _=>cases r;rfl
 |int _=>obtain⟨t,rfl⟩:=r;rfl
 |str _=>obtain⟨t,rfl⟩:=r;rfl
 |byt _=>obtain⟨t,rfl⟩:=r;rfl
 |flt _=>obtain⟨t,rfl⟩:=r;rfl
 |ref _=>cases r;rfl
 |ty _=>cases r;rfl
theorem RelV.inj{x y:V}{u:Value}(r:RelV x u)(q:RelV y u):x=y:=Option.some.inj (r.abs.symm.trans q.abs)
theorem Vals.inj:∀{xs ys:List V}{us:List Value},Vals xs us->Vals ys us->xs=ys
 |_,_,_,.nil,.nil=>rfl
 |_,_,_,.cons r t,.cons r' t'=>by rw [r.inj r',Vals.inj t t']
section
variable{X:Cx}{pins:List (Addr×Obj)}{σ:St}{H:Hp}{s:Shared}{a:Addr}{xs ys:List V}
theorem SqL.of{K:PySem.W.Frag}(h:H a=some (.lst xs)):SqL K H a xs := .inl (.inl h)
theorem SqT.of{K:PySem.W.Frag}(h:H a=some (.tup xs)):SqT K H a xs := .inl (.inl h)
theorem Inv.list(I:Inv X pins σ H s)(h:SqL X.K H a xs):∃its:List Value,Vals xs its/\PlainL s.heap a its.toArray/\xs.length<=sizeLine:=by
 rcases h with h|⟨o,its,n,hk,hc,hd,hs,hz,r⟩
 · obtain⟨z,its,n,r,e⟩:=h.ok I.hok
   exact⟨its,r,⟨_,n,e,rfl,rfl,rfl⟩,z⟩
 · refine⟨its.toList,r,⟨o,n,I.kIn a o hk,hc,hd,by simpa using hs⟩,?_⟩
   have e:=r.length;simp only [Array.length_toList]at e;omega
theorem Inv.tuple(I:Inv X pins σ H s)(h:SqT X.K H a xs):∃its:List Value,Vals xs its/\IsTup s.heap a its.toArray/\xs.length<=sizeLine:=by
 rcases h with h|⟨o,its,n,hk,hc,hs,hz,r⟩
 · obtain⟨z,its,r,p⟩:=h.ok I.hok
   exact⟨its,r,p.tup,z⟩
 · refine⟨its.toList,r,⟨o,I.kIn a o hk,hc,n,by simpa using hs⟩,?_⟩
   have e:=r.length;simp only [Array.length_toList]at e;omega
theorem Inv.list_inj(I:Inv X pins σ H s)(h:SqL X.K H a xs)(h':SqL X.K H a ys):xs=ys:=by
 obtain⟨its,r,⟨o,n,e,_,_,d⟩,_⟩:=I.list h;obtain⟨its',r',⟨o',n',e',_,_,d'⟩,_⟩:=I.list h';rw [e]at e';cases e';rw [d]at d';injection d' with d1 _
 have:its=its':=by simpa using congrArg Array.toList d1
 subst this;exact r.inj r'
theorem Inv.tuple_inj(I:Inv X pins σ H s)(h:SqT X.K H a xs)(h':SqT X.K H a ys):xs=ys:=by
 obtain⟨its,r,⟨o,e,_,n,d⟩,_⟩:=I.tuple h;obtain⟨its',r',⟨o',e',_,n',d'⟩,_⟩:=I.tuple h';rw [e]at e';cases e';rw [d]at d';injection d' with d1 _
 have:its=its':=by simpa using congrArg Array.toList d1
 subst this;exact r.inj r'
end
abbrev Cx.wish(X:Cx)(E:Value->Shared->Prop):Cx:={ X with xe:=E }
abbrev Cx.nox(X:Cx):Cx:=X.wish λ_ _=>False
theorem Cx.Ok.wish{X:Cx}(ok:X.Ok)(E:Value->Shared->Prop):(X.wish E).Ok:=
 ⟨ok.mod,ok.kind,ok.glob,ok.blt,ok.above,ok.inj,ok.has,ok.cab,ok.hd,ok.frames,ok.stk,ok.exf,ok.bs,ok.bsz,ok.noex,ok.exfs,ok.funs,ok.frf⟩
theorem Cx.Ok.unwish{X:Cx}{E:Value->Shared->Prop}(ok:(X.wish E).Ok):X.Ok:=
 ⟨ok.mod,ok.kind,ok.glob,ok.blt,ok.above,ok.inj,ok.has,ok.cab,ok.hd,ok.frames,ok.stk,ok.exf,ok.bs,ok.bsz,ok.noex,ok.exfs,ok.funs,ok.frf⟩
section
variable{X:Cx}{pins:List (Addr×Obj)}{σ:St}{H:Hp}{s:Shared}{E:Value->Shared->Prop}
theorem Inv.wish(I:Inv X pins σ H s)(E:Value->Shared->Prop):Inv (X.wish E) pins σ H s:=⟨I.ok.wish E,I.os,I.bare,I.base,I.loc,I.cell,I.free,I.freeC,I.pin,I.hok,I.len⟩
theorem Inv.unwish(I:Inv (X.wish E) pins σ H s):Inv X pins σ H s:=⟨I.ok.unwish,I.os,I.bare,I.base,I.loc,I.cell,I.free,I.freeC,I.pin,I.hok,I.len⟩
theorem SP.unwish{D:Ends}{f:Flow}{s':Shared}(h:SP (X.wish E) pins D f s'):SP X pins D f s':=by
 cases f with
 |next=>obtain⟨σ',H',I,q⟩:=h;exact⟨σ',H',I.unwish,q⟩
 |brk=>obtain⟨σ',H',I,q⟩:=h;exact⟨σ',H',I.unwish,q⟩
 |cont=>obtain⟨σ',H',I,q⟩:=h;exact⟨σ',H',I.unwish,q⟩
 |ret u=>obtain⟨v,σ',H',I,r,q⟩:=h;exact⟨v,σ',H',I.unwish,r,q⟩
theorem PSs.nox{st:List Stmt}{t:TS}(h:PSs X.nox st t):PSs X st t:=λpins s σ H D I hw=>
 wpAny_mono (h pins s σ H D (I.wish _) hw) (λ_ _ q=>q.unwish) λ_ _ z=>False.elim z
end
section
variable{X:Cx}{st:Stmt}{rest:List Stmt}{t u:TS}{e:Expr}{te:TE}{pos:Pos}
def tNext:TS:=λD σ H=>D.nx σ H
def QN(t u:TS):TS:=λD σ H=>t { D with nx:=u D } σ H
theorem Ye:PSs X [] tNext:=λ_ _ σ H _ I h=>wpAny_execs_nil ⟨σ,H,I,h⟩
theorem Zs(h1:PS X st t)(h2:PSs X rest u):PSs X (st::rest) (QN t u):=by
 intro pins s σ H D I h;refine wpAny_execs_cons (thn (h1 pins s σ H { D with nx:=u D } I h) λf s1 q => ?_);cases f with
 |next=>
  obtain⟨σ',H',I',q⟩:=q;exact h2 pins s1 σ' H' D I' q
 |ret v=>exact q
 |brk=>exact q
 |cont=>exact q
theorem Zw(h1:PS X st t):PSs X [st] t:=by
 intro pins s σ H D I h;refine wpAny_execs_cons (thn (h1 pins s σ H D I h) λf s1 q => ?_);cases f with
 |next=>exact wpAny_execs_nil q
 |ret v=>exact q
 |brk=>exact q
 |cont=>exact q
theorem Inv.quiet{pins:List (Addr×Obj)}{σ:St}{H:Hp}{s:Shared}(I:Inv X pins σ H s):interactive X.env=false:=by simp [interactive,I.ok.kind]
def V7(te:TE):TS:=λD σ H=>te σ H λ_ H1=>D.nx σ H1
theorem Xr(he:PE X e te)(hs:swapsWith e none pos.line X.env=pure false:=by rfl):PS X (.Expr e pos) (V7 te):=by
 intro pins s σ H D I h;exact wpAny_Expr_any (thn (he pins s σ H _ I h) λv s1 ⟨x,H1,I1,r1,q1⟩=>⟨σ,H1,I1,q1⟩) I.quiet hs
def ZkO(te:TE):TS:=λD σ H=>te σ H D.rt
theorem ZE(he:PE X e te):PS X (.Return (some e) pos) (ZkO te):=by
 intro pins s σ H D I h;exact wpAny_Return_some (thn (he pins s σ H _ I h) λv s1 ⟨x,H1,I1,r1,q1⟩=>⟨x,σ,H1,I1,r1,q1⟩)
def JP(c:TT)(t u:TS):TS:=λD σ H=>c σ H λb H1=>if b=true then t D σ H1 else u D σ H1
theorem Yg{c:Expr}{a b:List Stmt}{tc:TT}(hc:PT X c tc)(ha:PSs X a t)(hb:PSs X b u):PS X (.If c a b pos) (JP tc t u):=by
 intro pins s σ H D I h;refine wpAny_If (thn (hc pins s σ H _ I h) λd s1 ⟨H1,I1,q1⟩ => ?_);cases d with
 |true=>exact ha pins s1 σ H1 D I1 q1
 |false=>exact hb pins s1 σ H1 D I1 q1
end
abbrev TG:=V->St->Hp->(St->Hp->Prop)->Prop
abbrev TGs:=List V->St->Hp->(St->Hp->Prop)->Prop
def PG(X:Cx)(target:Expr)(t:TG):Prop:=
 ∀(pins:List (Addr×Obj))(s:Shared)(σ:St)(H:Hp)(v:V)(u:Value)(Q:St->Hp->Prop),Inv X pins σ H s->RelV v u->t v σ H Q ->
  wpAny (model X.prog X.w) X.A (assign target X.env u) (λ_ s'=>∃σ' H',Inv X pins σ' H' s'/\Q σ' H') X.xe s
def PGs(X:Cx)(ts:List Expr)(t:TGs):Prop:=
 ∀(pins:List (Addr×Obj))(s:Shared)(σ:St)(H:Hp)(vs:List V)(us:List Value)(Q:St->Hp->Prop),Inv X pins σ H s->Vals vs us->t vs σ H Q ->
  wpAny (model X.prog X.w) X.A (assignInOrder ((assignEach ts X.env).map (·.2)) us) (λ_ s'=>∃σ' H',Inv X pins σ' H' s'/\Q σ' H') X.xe s
section
variable{X:Cx}{pos:Pos}
def VL(i:Nat):TG:=λv σ H Q=>Q (σ.set i (some v)) H
theorem Yy{i:Nat}{x:Str}(hN:X.N.Nodup)(hi:X.N[i]? = some x:=by rfl)(hx:Loc X.env.scope x:=by first|exact Or.inl rfl|exact Or.inr rfl)(hf:X.fn x=true\/X.env.scope.names.lookup x=some .local:=by first|exact .inl rfl|exact .inr rfl|assumption):PG X (.Name x pos) (VL i):=by
 intro pins s σ H v u Q I r h;exact wpAny_assign_Name (Zbp I hN hi hx r (λs' I'=>⟨_,H,I',h⟩) hf)
def gNil:TGs:=λvs σ H Q=>vs=[]/\Q σ H
def Ziu(t:TG)(u:TGs):TGs:=λvs σ H Q=>∃v r,vs=v::r/\t v σ H λσ' H'=>u r σ' H' Q
theorem Zcq:PGs X [] gNil:=by
 intro pins s σ H vs us Q I r h;obtain⟨e,h⟩:=h;subst e;cases r;exact assignInOrder_nil ⟨σ,H,I,h⟩
theorem U3 {e:Expr} {es:List Expr} {t:TG} {u:TGs} (h1:PG X e t) (h2:PGs X es u)
 (hs:(assignEach (e::es) X.env).map (·.2)=assign e X.env::(assignEach es X.env).map (·.2):=by rfl):PGs X (e::es) (Ziu t u):=by
 intro pins s σ H vs us Q I r h;obtain⟨v,vr,e1,h⟩:=h;subst e1;cases r with
 |cons r rr=>
  rw [hs];refine assignInOrder_cons (thn (h1 pins s σ H _ _ _ I r h) λ_ s1 ⟨σ1,H1,I1,q1⟩ => ?_);exact h2 pins s1 σ1 H1 _ _ Q I1 rr q1
def ZkP(K:PySem.W.Frag)(n:Nat)(t:TGs):TG:=λv σ H Q=>∃a xs,v = .ref a/\SqT K H a xs/\xs.length=n/\t xs σ H Q
theorem Zja {es:List Expr} {k:Nat} {t:TGs} {n:Nat} (hc:X.calm=true) (h:PGs X es t)
 (hn:(assignEach es X.env).length=n:=by rfl) (hst:(assignEach es X.env).findIdx? (·.1)=none:=by rfl):PG X (.Tuple es k pos) (ZkP X.K n t):=by
 intro pins s σ H v u Q I r hw;obtain⟨a,xs,e1,hq,hl,hw⟩:=hw;subst e1;cases r;obtain⟨its,rv,ht,hz⟩:=I.tuple hq;refine assign_Tuple_tuple (I.ok.hd hc) ht (by simp [hn,<-hl,rv.length]) hst λh' hx => ?_
 have I1:Inv X pins σ H { s with heap:=h' }:=I.kept (t':=s.toks) λb o e=>hx b o (Nat.ne_of_lt (Heap.lt_size e)) e
 exact h pins _ σ H xs _ Q I1 (by simpa using rv) hw
def UA(te:TE)(g:TG):TS:=λD σ H=>te σ H λx H1=>g x σ H1 D.nx
theorem ZO{i:Nat}{x:Str}{e:Expr}{te:TE}{pos':Pos}(hN:X.N.Nodup)(hi:X.N[i]? = some x)(hx:Loc X.env.scope x)(he:PE X e te)(hs:swapsWith e (some (.Name x pos')) pos.line X.env=pure false:=by rfl)(hf:X.fn x=true\/X.env.scope.names.lookup x=some .local:=by first|exact .inl rfl|exact .inr rfl|assumption) :
 PS X (.Assign [.Name x pos'] e pos) (UA te (VL i)):=by
 intro pins s σ H D I h;refine wpAny_Assign_Name (thn (he pins s σ H _ I h) λv s1 ⟨y,H1,I1,r1,q1⟩ => ?_) hs;exact Zbp I1 hN hi hx r1 (λs2 I2=>⟨_,H1,I2,q1⟩) hf
end
section
variable{X:Cx}{pos:Pos}
end
structure It where
 go:Nat->Hp->Prop
 yld:Nat->Hp->V->Hp->Prop
 stop:Nat->Hp->Prop
def Xg(X:Cx)(pins:List (Addr×Obj))(H:Hp)(b:Addr):Prop:=
 H b=none/\b≠X.env.locals/\b∉X.fs/\(b∈X.ex\/X.s₀.heap.objs.size<=b)/\(∀x c,X.env.cells.lookup x=some c->c≠b)/\∀p∈X.pn++pins,p.1≠b
theorem Inv.fpOk{X:Cx}{pins:List (Addr×Obj)}{σ:St}{H H':Hp}{s:Shared}{b:Addr}(I:Inv X pins σ H s)(hb:s.heap.objs.size<=b)(hn:H' b=none):Xg X pins H' b:=by
 refine⟨hn,Nat.ne_of_gt (Nat.lt_of_lt_of_le I.lt hb),I.nofs hb,.inr (Nat.le_trans I.sz hb),λx c e z => ?_,λp hp z => ?_⟩
 · obtain⟨v,q⟩:=I.cell x c e
   exact absurd (Nat.lt_of_lt_of_le q.lt (by rw [z];exact hb)) (Nat.lt_irrefl _)
 · exact absurd (Nat.lt_of_lt_of_le (Heap.lt_size (I.pin p hp).1) (by rw [z];exact hb)) (Nat.lt_irrefl _)
structure Turn(P:Program)(w:World)(K:PySem.W.Frag)(tg:Expr)(J:It)(fp:List Addr)(it:Addr)(tn:Nat->Heap->Prop):Prop where
 mem:it∈fp
 obj:∀i h,tn i h->∀b∈fp,∃o,h.get? b=some o/\∀v,o.data ≠ .cell v
 keep:∀i h h',tn i h->(∀b∈fp,∀o,h.get? b=some o->h'.get? b=some o)->tn i h'
 item:∀(X:Cx),X.prog=P->X.w=w->X.K=K->X.calm=true->∀(i:Nat)(pins:List (Addr×Obj))(s:Shared)(σ:St)(H:Hp)(E:Value->Shared->Prop),Inv X pins σ H s->(∀b∈fp,Xg X pins H b)->tn i s.heap->J.go i H ->
  wpAny (model P w) X.A (pyNext (.ref it)) (λr s1=>∃u,r=some u /\
   wpAny (model P w) X.A (letOwnedTupleGo tg (.ref it) u) (λ_ s2=>∃x H',Inv X pins σ H' s2/\RelV x u/\J.yld i H x H'/\tn (i+1) s2.heap/\∀b∈fp,H' b=none) E s1) E s
 done:∀(X:Cx),X.prog=P->X.w=w->X.K=K->X.calm=true->∀(i:Nat)(pins:List (Addr×Obj))(s:Shared)(σ:St)(H:Hp)(E:Value->Shared->Prop),Inv X pins σ H s->(∀b∈fp,Xg X pins H b)->tn i s.heap->J.stop i H ->
  wpAny (model P w) X.A (pyNext (.ref it)) (λr s1=>r=none/\Inv X pins σ H s1) E s
 self:∀(A:Around)(i:Nat)(s:Shared)(Q:Value->Shared->Prop)(E:Value->Shared->Prop),tn i s.heap->Q (.ref it) s->wpAny (model P w) A (pyIter (.ref it)) Q E s
abbrev TI:=St->Hp->(It->Hp->Prop)->Prop
def PIE(X:Cx)(pins:List (Addr×Obj))(σ:St)(tg:Expr)(R:It->Hp->Prop)(itv:Value)(s2:Shared):Prop:=
 ∃(it:Addr) (fp:List Addr) (tn:Nat->Heap->Prop) (J:It) (H':Hp),itv = .ref it/\Inv X pins σ H' s2/\Turn X.prog X.w X.K tg J fp it tn/\tn 0 s2.heap/\(∀b∈fp,Xg X pins H' b)/\R J H'
def PI(X:Cx)(tg iter:Expr)(wi:TI):Prop:=
 ∀(pins:List (Addr×Obj))(s:Shared)(σ:St)(H:Hp)(R:It->Hp->Prop),Inv X pins σ H s->wi σ H R ->
  wpAny (model X.prog X.w) X.A (eval iter X.env) (λv s1=>wpAny (model X.prog X.w) X.A (pyIter v) (PIE X pins σ tg R) X.xe s1) X.xe s
theorem JQ {M:Model} {A:Around} {E:Value->Shared->Prop} {s:Shared} {tg:Expr} {it:Addr} {u:Value} {o:Obj} {n:String} {vs:Array Value} {Q:Unit->Shared->Prop} (ho:s.heap.get? it=some o) (hc:o.cls = .type n) (hd:o.data = .fields vs)
 (hn:["enumerate", "zip", "dict_itemiterator", "dict_reverseitemiterator", "odict_iterator", "itertools.zip_longest", "itertools.pairwise"].contains n=false) (hQ:Q () s):wpAny M A (letOwnedTupleGo tg (.ref it) u) Q E s:=by
 unfold letOwnedTupleGo
 cases tg<;>first
  |exact wpAny_pure hQ
  | (cases u <;> first
      |exact wpAny_pure hQ
      | (refine wpAny_bind (wpAny_load ho ?_)
         rw [hc,hd];show wpAny M A (if(["enumerate", "zip", "dict_itemiterator", "dict_reverseitemiterator", "odict_iterator", "itertools.zip_longest", "itertools.pairwise"].contains n&&vs[0]? == some (rawInt _))=true then _ else _) Q E s;rw [if_neg (by intro h;rw [hn,Bool.false_and]at h;cases h)];exact wpAny_pure hQ))
def Itl(K:PySem.W.Frag)(a:Addr):It:=
 ⟨λi H=>∃xs x,SqL K H a xs/\xs[i]? = some x,λi H x H'=>H'=H/\∀xs,SqL K H a xs->xs[i]? = some x,λi H=>∃xs,SqL K H a xs/\xs.length<=i⟩
def Itt(K:PySem.W.Frag)(a:Addr):It:=
 ⟨λi H=>∃xs x,SqT K H a xs/\xs[i]? = some x,λi H x H'=>H'=H/\∀xs,SqT K H a xs->xs[i]? = some x,λi H=>∃xs,SqT K H a xs/\xs.length<=i⟩
def Itr(lo:Int)(n:Nat):It:=⟨λi _=>i<n,λi H x H'=>H'=H/\x = .int (lo+i),λi _=>n<=i⟩
theorem Ze4{P:Program}{w:World}{K:PySem.W.Frag}{tg:Expr}(a it:Addr):Turn P w K tg (Itl K a) [it] it (λi h=>h.IsListIter it a i) where
 mem:=by simp
 obj:=λi h st b hb=>by
  have e:b=it:=by simpa using hb
  subst e;obtain⟨o,e,c,d⟩:=st;exact⟨o,e,λv z=>by rw [d]at z;cases z⟩
 keep:=λi h h' st k=>st.at λo e=>k it (by simp) o e
 item:=by
  intro X hP hw hK hc i pins s σ H E I hf st hg;subst hP hw hK;obtain⟨xs,x,hq,hx⟩:=hg;obtain⟨its,rv,p,hz⟩:=I.list hq;obtain⟨u,hu,ru⟩:=rv.get hx;obtain⟨f0,f1,f2,f3,f4,f5⟩:=hf it (by simp);refine wpAny_pyNext_list_item st p.isList (x:=u) (by simpa using hu) λh' st' sb => ?_
  have I1:Inv X pins σ H { s with heap:=h' }:=I.turned (t':=s.toks) (λb o hb e=>(sb.2 b hb).trans e) f0 f1 f3 f4 f5;obtain⟨o,e,c,d⟩:=id st';exact⟨u,rfl,JQ (s:={ s with heap:=h' }) e c d (by decide) ⟨x,H,I1,ru,⟨rfl,λys hy=>by rw [I.list_inj hy hq];exact hx⟩,st',λb hb=>(hf b hb).1⟩⟩
 done:=by
  intro X hP hw hK hc i pins s σ H E I hf st hg;subst hP hw hK;obtain⟨xs,hq,hx⟩:=hg;obtain⟨its,rv,p,hz⟩:=I.list hq;obtain⟨f0,f1,f2,f3,f4,f5⟩:=hf it (by simp);have hl:=rv.length;exact wpAny_pyNext_list_end (I.ok.hd hc) st p.isList (by simp;omega) λh' eb=>⟨rfl,I.turned (t':=s.toks) (λb o hb e=>eb b o hb e) f0 f1 f3 f4 f5⟩
 self:=λ_ _ _ _ _ st h=>wpAny_pyIter_listiter st h
theorem Za2{P:Program}{w:World}{K:PySem.W.Frag}{tg:Expr}(a it:Addr):Turn P w K tg (Itt K a) [it] it (λi h=>h.IsTupleIter it a i) where
 mem:=by simp
 obj:=λi h st b hb=>by
  have e:b=it:=by simpa using hb
  subst e;obtain⟨o,e,c,d⟩:=st;exact⟨o,e,λv z=>by rw [d]at z;cases z⟩
 keep:=λi h h' st k=>st.at λo e=>k it (by simp) o e
 item:=by
  intro X hP hw hK hc i pins s σ H E I hf st hg;subst hP hw hK;obtain⟨xs,x,hq,hx⟩:=hg;obtain⟨its,rv,p,hz⟩:=I.tuple hq;obtain⟨u,hu,ru⟩:=rv.get hx;obtain⟨f0,f1,f2,f3,f4,f5⟩:=hf it (by simp);refine wpAny_pyNext_tuple_item st (show s.heap.IsTuple a its.toArray from p) (x:=u) (by simpa using hu) λh' st' sb => ?_
  have I1:Inv X pins σ H { s with heap:=h' }:=I.turned (t':=s.toks) (λb o hb e=>(sb.2 b hb).trans e) f0 f1 f3 f4 f5;obtain⟨o,e,c,d⟩:=id st';exact⟨u,rfl,JQ (s:={ s with heap:=h' }) e c d (by decide) ⟨x,H,I1,ru,⟨rfl,λys hy=>by rw [I.tuple_inj hy hq];exact hx⟩,st',λb hb=>(hf b hb).1⟩⟩
 done:=by
  intro X hP hw hK hc i pins s σ H E I hf st hg;subst hP hw hK;obtain⟨xs,hq,hx⟩:=hg;obtain⟨its,rv,p,hz⟩:=I.tuple hq;obtain⟨f0,f1,f2,f3,f4,f5⟩:=hf it (by simp);have hl:=rv.length;exact wpAny_pyNext_tuple_end (I.ok.hd hc) st (show s.heap.IsTuple a its.toArray from p) (by simp;omega) λh' eb=>⟨rfl,I.turned (t':=s.toks) (λb o hb e=>eb b o hb e) f0 f1 f3 f4 f5⟩
 self:=λ_ _ _ _ _ st h=>wpAny_pyIter_tupleiter st h
theorem ZdE{P:Program}{w:World}{K:PySem.W.Frag}{tg:Expr}(it:Addr)(lo:Int)(n:Nat):Turn P w K tg (Itr lo n) [it] it (λi h=>IsRangeIter h it (lo+(i:Nat)*1) ((n:Int)-(i:Nat)) 1) where
 mem:=by simp
 obj:=λi h st b hb=>by
  have e:b=it:=by simpa using hb
  subst e
  exact⟨_,st,λv z=>by
   have z':Data.fields _=Data.cell v:=z;cases z'⟩
 keep:=λi h h' st k=>k it (by simp) _ st
 item:=by
  intro X hP hw hK hc i pins s σ H E I hf st hg;subst hP hw hK;obtain⟨f0,f1,f2,f3,f4,f5⟩:=hf it (by simp);have W:=Walks.range (prog:=X.prog) (w:=X.w) (I.ok.hd hc) it lo 1 n;refine W.item i s _ _ hg st λv h' tk hv st' kk => ?_
  obtain⟨t,rfl⟩:=hv;have I1:Inv X pins σ H { s with heap:=h',toks:=tk }:=I.turned (λb o hb e=>kk b o (by simpa using hb) e) f0 f1 f3 f4 f5;refine⟨_,rfl,JQ (s:={ s with heap:=h',toks:=tk }) (n:="range_iterator") st' rfl rfl (by decide) ⟨.int (lo+i),H,I1,⟨t,?_⟩,⟨rfl,rfl⟩,st',λb hb=>(hf b hb).1⟩⟩;rw [Int.mul_one]
 done:=by
  intro X hP hw hK hc i pins s σ H E I hf st hg;subst hP hw hK;obtain⟨f0,f1,f2,f3,f4,f5⟩:=hf it (by simp);exact wpAny_pyNext_range_end (I.ok.hd hc) st (by have:n<=i:=hg;omega) λh' eb=>⟨rfl,I.turned (t':=s.toks) (λb o hb e=>eb b o hb e) f0 f1 f3 f4 f5⟩
 self:=λ_ _ _ _ _ st h=>wpAny_pyIter_rangeiter st h
end L2
namespace L2
open PySem PySem.Spec PyProof.Rows
section
variable{X:Cx}{tg:Expr}
def Zm4(K:PySem.W.Frag)(tl:TE):TI:=λσ H R=>tl σ H λx H1=>∃a,x = .ref a/\(∃xs,SqT K H1 a xs)/\R (Itt K a) H1
theorem Zjb{l:Expr}{tl:TE}(hl:PE X l tl):PI X tg l (Zm4 X.K tl):=by
 intro pins s σ H R I h;refine thn (hl pins s σ H _ I h) λv s1 ⟨x,H1,I1,r1,q1⟩ => ?_
 obtain⟨a,e,⟨xs,hq⟩,q⟩:=q1;subst e;cases r1;obtain⟨its,rv,p,hz⟩:=I1.tuple hq;refine wpAny_pyIter_tuple (show s1.heap.IsTuple a its.toArray from p) ?_;refine⟨s1.heap.objs.size,[s1.heap.objs.size],_,_,H1,rfl,I1.kept (t':=s1.toks) λb o e=>Heap.get?_push_of_some _ e,Za2 a _,⟨_,Heap.get?_push_size _ rfl,rfl,rfl⟩,λb hb => ?_,q⟩;have e:b=s1.heap.objs.size:=by simpa using hb
 subst e;exact I1.fpOk (Nat.le_refl _) (I1.hok.fresh (Nat.le_refl _))
theorem Zc0 {pins:List (Addr×Obj)} {σ:St} {H:Hp} {s:Shared} {R:It->Hp->Prop} {E:Value->Shared->Prop} {lo hi:Int} {t u v:Tok} {tk:Nat} (I:Inv X pins σ H s) (h1 : -(2 ^ 62)<=lo) (h2:lo<2 ^ 62) (h3 : -(2 ^ 62)<=hi) (h4:hi<2 ^ 62)
 (q:R (Itr lo (hi-lo).toNat) H):wpAny (model X.prog X.w) X.A (pyIter (.ref s.heap.objs.size)) (PIE X pins σ tg R) E { s with heap:=s.heap.push { cls := .type "range",data := .fields #[.int lo t,.int hi u,.int 1 v] },toks:=tk }:=by
 refine wpAny_pyIter_range (IsRange.new ..) (small_one h1 h2 h3 h4) ?_;have I1:Inv X pins σ H { s with heap:=s.heap.push { cls := .type "range",data := .fields #[.int lo t,.int hi u,.int 1 v] },toks:=tk }:=I.kept λb o e=>Heap.get?_push_of_some _ e
 refine⟨(s.heap.push { cls := .type "range",data := .fields #[.int lo t,.int hi u,.int 1 v] }).objs.size,[(s.heap.push { cls := .type "range",data := .fields #[.int lo t,.int hi u,.int 1 v] }).objs.size],_,_,H,rfl,
  I1.kept (t':=tk) λb o e=>Heap.get?_push_of_some _ e,ZdE _ lo (hi-lo).toNat,?_,λb hb => ?_,q⟩
 · have e1:lo+((0:Nat):Int)*1=lo:=by simp
   have e2:(((hi-lo).toNat:Nat):Int)-((0:Nat):Int)=Builtin.Range.rangeSize lo hi 1:=by rw [rangeSize_one];split<;>omega
   show IsRangeIter _ _ (lo+((0:Nat):Int)*1) ((((hi-lo).toNat:Nat):Int)-((0:Nat):Int)) 1;rw [e1,e2];exact Heap.get?_push_size _ rfl
 · have e:b=(s.heap.push { cls := .type "range",data := .fields #[.int lo t,.int hi u,.int 1 v] }).objs.size:=by simpa using hb
   subst e;exact I1.fpOk (Nat.le_refl _) (I1.hok.fresh (Nat.le_refl _))
def Ziv(ta:TA):TI:=λσ H R=>ta σ H λvs H1=>∃j:Int,vs=[.int j] /\ -(2 ^ 62)<=j/\j<2 ^ 62/\R (Itr 0 j.toNat) H1
def Ziw(ta:TA):TI:=λσ H R=>ta σ H λvs H1=>∃i j:Int,vs=[.int i,.int j]/\(-(2 ^ 62)<=i/\i<2 ^ 62 /\ -(2 ^ 62)<=j/\j<2 ^ 62)/\R (Itr i (j-i).toNat) H1
theorem U4 {a:Expr} {ta:TA} {p pos:Pos} (hg:Gl X "range") (hm:X.mg "range" = none) (ha:PA X [a] ta) (hs:starEach [a] X.env=[(false,eval a X.env)]:=by rfl):PI X tg (.Call (.Name "range" p) [a] [] pos) (Ziv ta):=by
 intro pins s σ H R I h;refine Call_ (U0 I hg hm boot_range (PyProof.Rows.callWith_type1 (thn (ha pos pins s σ H _ I h) λus s1 ⟨vs,H1,I1,r1,q1⟩ => ?_) hs rfl));obtain⟨j,e,q1,q2,q⟩:=q1;subst e;cases r1 with
 |cons r rr=>
  cases rr;obtain⟨t,rfl⟩:=r;exact call_range_1 (Zc0 I1 (by omega) (by omega) q1 q2 (by simpa using q))
theorem ZaK {a b:Expr} {ta:TA} {p pos:Pos} (hg:Gl X "range") (hm:X.mg "range" = none) (ha:PA X [a,b] ta) (hs:starEach [a,b] X.env=[(false,eval a X.env),(false,eval b X.env)]:=by rfl) (hs2:starEach [b] X.env=[(false,eval b X.env)]:=by rfl) :
 PI X tg (.Call (.Name "range" p) [a,b] [] pos) (Ziw ta):=by
 intro pins s σ H R I h;refine Call_ (U0 I hg hm boot_range (PyProof.Rows.callWith_type1 (thn (ha pos pins s σ H _ I h) λus s1 ⟨vs,H1,I1,r1,q1⟩ => ?_) (by rw [hs,hs2]) (by rw [hs2];rfl)));obtain⟨i,j,e,⟨q1,q2,q3,q4⟩,q⟩:=q1;subst e;cases r1 with
 |cons r rr=>
  cases rr with
  |cons r' rr=>
   cases rr;obtain⟨t,rfl⟩:=r;obtain⟨t',rfl⟩:=r';exact call_range_2 (Zc0 I1 q1 q2 q3 q4 q)
def ZkQ(wi:TI)(g:TG)(tb:TS):TS:=λD σ H=>wi σ H λJ H1=>∃W:Nat->Nat->St->Hp->Prop,(∃m,W 0 m σ H1)/\∀i m σ H,W i m σ H ->
 (J.stop i H/\D.nx σ H)\/(J.go i H/\∃N:St->Hp->Prop,(∀σ' H',N σ' H'->∃m',m'<m/\W (i+1) m' σ' H')/\∀x H',J.yld i H x H'->g x σ H' λσ2 H2=>tb { D with nx:=N,ct:=N,bk:=D.nx } σ2 H2)
def Vj(fp:List Addr)(h:Heap):List (Addr×Obj):=fp.filterMap λb=>(h.get? b).map λo=>(b,o)
theorem JR{fp:List Addr}{h:Heap}{b:Addr}{o:Obj}(hb:b∈fp)(e:h.get? b=some o):(b,o)∈Vj fp h:=List.mem_filterMap.mpr ⟨b,hb,by rw [e];rfl⟩
theorem ZbJ{fp:List Addr}{h:Heap}{p:Addr×Obj}(hp:p∈Vj fp h):p.1∈fp/\h.get? p.1=some p.2:=by
 obtain⟨b,hb,e⟩:=List.mem_filterMap.mp hp;cases q:h.get? b with
 |none=>rw [q]at e;cases e
 |some o=>
  rw [q]at e;have e':(b,o)=p:=Option.some.inj e;subst e';exact⟨hb,q⟩
theorem Inv.pinned{pins:List (Addr×Obj)}{σ:St}{H:Hp}{s:Shared}{fp:List Addr}(I:Inv X pins σ H s)(hf:∀b∈fp,Xg X pins H b)(ho:∀b∈fp,∃o,s.heap.get? b=some o/\∀v,o.data ≠ .cell v):Inv X (pins++Vj fp s.heap) σ H s:=
 I.pins_of λp hp=>(List.mem_append.mp hp).elim (λz=>I.pin p (List.mem_append_right _ z)) λz=>by
  obtain⟨hb,e⟩:=ZbJ z;obtain⟨f0,f1,f2,_⟩:=hf p.1 hb;obtain⟨o,e',d⟩:=ho p.1 hb;rw [e]at e';cases e';exact⟨e,f0,f1,f2,d⟩
theorem Inv.unpinned{pins pl:List (Addr×Obj)}{σ:St}{H:Hp}{s:Shared}(I:Inv X (pins++pl) σ H s):Inv X pins σ H s:=I.pins_of λp hp=>I.pin p (List.mem_append_right _ (List.mem_append_left _ hp))
theorem Vk {iter:Expr} {body:List Stmt} {wi:TI} {g:TG} {tb:TS} {pos:Pos} (hp:PassesOwn (model X.prog X.w) X.A X.env X.xe) (hc:X.calm=true) (hi:PI X tg iter wi) (hg:PG X tg g) (hb:PSs X body tb)
 (hs:∀x,foldedSetIterable iter X.env x=pure x:=by intro _;rfl):PS X (.For tg iter body [] pos) (ZkQ wi g tb):=by
 intro pins s σ H D I h;refine wpAny_For (thn (hi pins s σ H _ I h) λv s1 h1=>thn h1 λitv s2 h2 => ?_) hs;obtain⟨it,fp,tn,J,H2,e,I2,T,st2,f2,W,⟨m0,w0⟩,turn⟩:=h2;subst e;have stat:∀{H':Hp},(∀b∈fp,H' b=none)->∀b∈fp,Xg X pins H' b:=λhn b hb=>⟨hn b hb,(f2 b hb).2⟩
 refine codeAny_forLoop_any (λn s'=>∃i σ' H',Inv X pins σ' H' s'/\tn i s'.heap/\(∀b∈fp,H' b=none)/\W i n σ' H') ?_ m0 ⟨0,σ,H2,I2,st2,λb hb=>(f2 b hb).1,w0⟩
 rintro n s3 ⟨i,σ3,H3,I3,st3,fr3,w3⟩
 rcases turn i n σ3 H3 w3 with⟨stop,qn⟩|⟨go,N,hN,step⟩
 · refine wpAny_passesOwn hp (thn (T.done X rfl rfl rfl hc i pins s3 σ3 H3 X.xe I3 (stat fr3) st3 stop) λr s4 ⟨hr,I4⟩ => ?_)
   subst hr;exact wpAny_execs_nil ⟨σ3,H3,I4,qn⟩
 · refine wpAny_passesOwn hp (thn (T.item X rfl rfl rfl hc i pins s3 σ3 H3 X.xe I3 (stat fr3) st3 go) λr s4 ⟨u,hr,h4⟩ => ?_)
   subst hr;refine wpAny_passesOwn hp (thn h4 λ_ s5 ⟨x,H5,I5,r5,y5,st5,fr5⟩ => ?_);have I5':=I5.pinned (stat fr5) (T.obj _ _ st5);refine wpAny_passesOwn hp (thn (hg _ s5 σ3 H5 x u _ I5' r5 (step x H5 y5)) λ_ s6 ⟨σ6,H6,I6,q6⟩ => ?_);refine wpAny_passesOwn hp (thn (hb _ s6 σ6 H6 _ I6 q6) λf s7 q7 => ?_)
   have again:∀{σ7:St}{H7:Hp},Inv X (pins++Vj fp s5.heap) σ7 H7 s7->N σ7 H7->∃m,m<n/\∃i σ' H',Inv X pins σ' H' s7/\tn i s7.heap/\(∀b∈fp,H' b=none)/\W i m σ' H':=λ{σ7 H7} I7 n7=>by
    obtain⟨m',hm,w7⟩:=hN σ7 H7 n7;refine⟨m',hm,i+1,σ7,H7,I7.unpinned,T.keep _ _ _ st5 λb hb o e=>(I7.pin (b,o) (List.mem_append_right _ (List.mem_append_right _ (JR hb e)))).1,λb hb => ?_,w7⟩;obtain⟨o,e,d⟩:=T.obj _ _ st5 b hb;exact(I7.pin (b,o) (List.mem_append_right _ (List.mem_append_right _ (JR hb e)))).2.1
   cases f with
   |next=>obtain⟨σ7,H7,I7,n7⟩:=q7;exact again I7 n7
   |cont=>obtain⟨σ7,H7,I7,n7⟩:=q7;exact again I7 n7
   |brk=>obtain⟨σ7,H7,I7,q7⟩:=q7;exact⟨σ7,H7,I7.unpinned,q7⟩
   |ret v=>obtain⟨x7,σ7,H7,I7,r7,q7⟩:=q7;exact⟨x7,σ7,H7,I7.unpinned,r7,q7⟩
end
end L2
namespace L2
open PySem PySem.Spec PyProof.Rows
abbrev R2:=V->V->Hp->VK->Prop
def OpR(X:Cx)(f:Value->Value->Sem Value)(r:R2):Prop:=
 ∀(pins:List (Addr×Obj))(s:Shared)(σ:St)(H:Hp)(x y:V)(v u:Value)(Q:VK),Inv X pins σ H s->RelV x v->RelV y u->r x y H Q ->
  wpAny (model X.prog X.w) X.A (f v u) (EP X pins σ Q) X.xe s
def UnR(X:Cx)(f:Value->Sem Value)(r:V->Hp->VK->Prop):Prop:=
 ∀(pins:List (Addr×Obj))(s:Shared)(σ:St)(H:Hp)(x:V)(v:Value)(Q:VK),Inv X pins σ H s->RelV x v->r x H Q ->
  wpAny (model X.prog X.w) X.A (f v) (EP X pins σ Q) X.xe s
def YI(X:Cx)(f:Value)(r:List V->Hp->VK->Prop):Prop:=
 ∀(pins:List (Addr×Obj))(s:Shared)(σ:St)(H:Hp)(xs:List V)(us:List Value)(Q:VK),Inv X pins σ H s->Vals xs us->r xs H Q ->
  wpAny (model X.prog X.w) X.A (call f us) (EP X pins σ Q) X.xe s
def tOp(r:R2)(ta tb:TE):TE:=λσ H Q=>ta σ H λx H1=>tb σ H1 λy H2=>r x y H2 Q
def tUn(r:V->Hp->VK->Prop)(ta:TE):TE:=λσ H Q=>ta σ H λx H1=>r x H1 Q
def rI(C:Int->Int->Prop)(g:Int->Int->V):R2:=λx y H Q=>∃i j,x = .int i/\y = .int j/\C i j/\Q (g i j) H
def rI0(g:Int->Int->V):R2:=λx y H Q=>∃i j,x = .int i/\y = .int j/\Q (g i j) H
def rU(g:Int->V):V->Hp->VK->Prop:=λx H Q=>∃i,x = .int i/\Q (g i) H
section
variable{X:Cx}{a b c:Expr}{ta tb tc:TE}{pos:Pos}
theorem ZkR (ha:PE X a ta) (hb:PE X b tb) {pins:List (Addr×Obj)} {s:Shared} {σ:St} {H:Hp} {R:V->V->Hp->Prop} (I:Inv X pins σ H s)
 (h:ta σ H λx H1=>tb σ H1 λy H2=>R x y H2) {Q:Value->Shared->Prop} {f:Value->Value->Sem Value}
 (hf:∀v u s2 x y H2,Inv X pins σ H2 s2->RelV x v->RelV y u->R x y H2->wpAny (model X.prog X.w) X.A (f v u) Q X.xe s2) :
 wpAny (model X.prog X.w) X.A (eval a X.env) (λv s₁=>wpAny (model X.prog X.w) X.A (eval b X.env) (λu s₂=>wpAny (model X.prog X.w) X.A (f v u) Q X.xe s₂) X.xe s₁) X.xe s:=by
 refine thn (ha pins s σ H _ I h) λv s1 ⟨x,H1,I1,r1,q1⟩ => ?_
 refine thn (hb pins s1 σ H1 _ I1 q1) λu s2 ⟨y,H2,I2,r2,q2⟩ => ?_
 exact hf v u s2 x y H2 I2 r1 r2 q2
theorem ZB{op:Operator}{r:R2}(ho:OpR X (binaryOp op) r)(ha:PE X a ta)(hb:PE X b tb):PE X (.BinOp a op b pos) (tOp r ta tb):=by
 intro pins s σ H Q I h;exact wpAny_BinOp (ZkR ha hb I h λv u s2 x y H2 I2 rx ry q=>ho pins s2 σ H2 x y v u Q I2 rx ry q)
theorem Zg6{op:UnaryOp}{r:V->Hp->VK->Prop}(ho:UnR X (unaryOp op) r)(ha:PE X a ta):PE X (.UnaryOp op a pos) (tUn r ta):=by
 intro pins s σ H Q I h;exact UnaryOp_ (thn (ha pins s σ H _ I h) λv s1 ⟨x,H1,I1,r1,q1⟩=>ho pins s1 σ H1 x v Q I1 r1 q1)
theorem opI {f:Value->Value->Sem Value} {C:Int->Int->Prop} {g:Int->Int->Int}
 (rule:∀(i j:Int)(t u:Tok)(s:Shared)(Q:Value->Shared->Prop)(E:Value->Shared->Prop),C i j->Q (.int (g i j) s.toks) { s with toks:=s.toks+1 }->wpAny (model X.prog X.w) X.A (f (.int i t) (.int j u)) Q E s) :
 OpR X f (rI C λi j => .int (g i j)):=by
 intro pins s σ H x y v u Q I rx ry h;obtain⟨i,j,rfl,rfl,hc,q⟩:=h;obtain⟨t,rfl⟩:=rx;obtain⟨t',rfl⟩:=ry;exact rule i j t t' s _ _ hc ⟨.int (g i j),H,I.tok _,⟨_,rfl⟩,q⟩
theorem ZmF {f:Value->Value->Sem Value} {g:Int->Int->Int}
 (rule:∀(i j:Int)(t u:Tok)(s:Shared)(Q:Value->Shared->Prop)(E:Value->Shared->Prop),Q (.int (g i j) s.toks) { s with toks:=s.toks+1 }->wpAny (model X.prog X.w) X.A (f (.int i t) (.int j u)) Q E s) :
 OpR X f (rI0 λi j => .int (g i j)):=by
 intro pins s σ H x y v u Q I rx ry h;obtain⟨i,j,rfl,rfl,q⟩:=h;obtain⟨t,rfl⟩:=rx;obtain⟨t',rfl⟩:=ry;exact rule i j t t' s _ _ ⟨.int (g i j),H,I.tok _,⟨_,rfl⟩,q⟩
theorem JS {f:Value->Value->Sem Value} {g:Int->Int->Bool}
 (rule:∀(i j:Int)(t u:Tok)(s:Shared)(Q:Value->Shared->Prop)(E:Value->Shared->Prop),Q (.bool (g i j)) s->wpAny (model X.prog X.w) X.A (f (.int i t) (.int j u)) Q E s) :
 OpR X f (rI0 λi j => .bl (g i j)):=by
 intro pins s σ H x y v u Q I rx ry h;obtain⟨i,j,rfl,rfl,q⟩:=h;obtain⟨t,rfl⟩:=rx;obtain⟨t',rfl⟩:=ry;exact rule i j t t' s _ _ ⟨.bl (g i j),H,I,rfl,q⟩
def QO(i j:Int):Prop:=0<j/\j<1073741824
def ZmG(i j:Int):Prop:=0<=j/\j<=1000000/\i.natAbs<2 ^ 64
def CMul(i j:Int):Prop:=(-(2 ^ 64)<i/\i<2 ^ 64)\/(-(2 ^ 64)<j/\j<2 ^ 64)
theorem CMul.ok{i j:Int}(h:CMul i j):IntMulOk i j:=by
 rcases h with⟨h1,h2⟩|⟨h1,h2⟩
 · exact .of_left (intBits_le_64 h1 h2)
 · exact .of_right (intBits_le_64 h1 h2)
theorem op_add:OpR X (binaryOp .Add) (rI0 λi j => .int (i+j)):=ZmF λ_ _ _ _ _ _ _ q=>add_int q
theorem Zgm:OpR X (binaryOp .Sub) (rI0 λi j => .int (i-j)):=ZmF λ_ _ _ _ _ _ _ q=>sub_int q
theorem Xs:OpR X (binaryOp .Mod) (rI (λ_ j=>j≠0) λi j => .int (i.fmod j)):=opI λ_ _ _ _ _ _ _ hc q=>mod_int' hc q
theorem unI {f:Value->Sem Value} {g:Int->Int}
 (rule:∀(i:Int)(t:Tok)(s:Shared)(Q:Value->Shared->Prop)(E:Value->Shared->Prop),Q (.int (g i) s.toks) { s with toks:=s.toks+1 }->wpAny (model X.prog X.w) X.A (f (.int i t)) Q E s) :
 UnR X f (rU λi => .int (g i)):=by
 intro pins s σ H x v Q I rx h;obtain⟨i,rfl,q⟩:=h;obtain⟨t,rfl⟩:=rx;exact rule i t s _ _ ⟨.int (g i),H,I.tok _,⟨_,rfl⟩,q⟩
theorem Zd5:UnR X (unaryOp .USub) (rU λi => .int (-i)):=unI λ_ _ _ _ _ q=>neg_int q
end
def Vl:V->V->Bool
 | .non,.non=>true | .non,.int _=>true | .int _,.non=>true | .non,.bl _=>true | .bl _,.non=>true | .non,.str _=>true | .str _,.non=>true
 | .int _,.int _=>true | .bl _,.bl _=>true | .str _,.str _=>true | .byt _,.byt _=>true
 | .int _,.str _=>true | .str _,.int _=>true | .bl _,.str _=>true | .str _,.bl _=>true
 |_,_=>false
def rEq:R2:=λx y H Q=>Vl x y=true/\Q (.bl (decide (x=y))) H
def rNe:R2:=λx y H Q=>Vl x y=true/\Q (.bl (!decide (x=y))) H
theorem Zer{i j:Int}:decide (V.int i=V.int j)=(i == j):=by
 rw [Bool.eq_iff_iff];simp
theorem Zgn{i j:Bool}:decide (V.bl i=V.bl j)=(i == j):=by
 rw [Bool.eq_iff_iff];simp
theorem Zes{i j:Str}:decide (V.str i=V.str j)=(i == j):=by
 rw [Bool.eq_iff_iff];simp
theorem Zet{i j:Array UInt8}:decide (V.byt i=V.byt j)=(i.toList == j.toList):=by
 rw [Bool.eq_iff_iff];cases i;cases j;simp
section
variable{X:Cx}{a b c:Expr}{ta tb tc:TE}{pos:Pos}
theorem Yh{pins:List (Addr×Obj)}{σ:St}{H:Hp}{s:Shared}{Q:VK}{k k':Bool}(I:Inv X pins σ H s)(q:Q (.bl k) H)(e:k=k'):EP X pins σ Q (.bool k') s:=by
 subst e;exact⟨.bl k,H,I,rfl,q⟩
theorem Zlk:OpR X (compareOp .Eq) rEq:=by
 intro pins s σ H x y v u Q I rx ry h;obtain⟨hs,q⟩:=h;cases x with
 |non=>
  cases rx;cases y with
  |non=>cases ry;exact PySem.EqNone.eq_none_none (Yh I q (by simp))
  |bl j=>cases ry;exact PySem.EqNone.eq_none_bool (Yh I q (by simp))
  |int j=>obtain⟨t',rfl⟩:=ry;exact PySem.EqNone.eq_none_int (Yh I q (by simp))
  |str j=>obtain⟨t',rfl⟩:=ry;exact PySem.EqNone.eq_none_str (Yh I q (by simp))
  |_=>exact absurd (show false=true from hs) Bool.false_ne_true
 |bl i=>
  cases rx;cases y with
  |non=>cases ry;exact PySem.EqNone.eq_bool_none (Yh I q (by simp))
  |bl j=>cases ry;exact eq_bool (Yh I q Zgn)
  |str j=>obtain⟨t',rfl⟩:=ry;exact PySem.EqMixed.eq_bool_str (Yh I q (by simp))
  |_=>exact absurd (show false=true from hs) Bool.false_ne_true
 |int i=>
  obtain⟨t,rfl⟩:=rx;cases y with
  |non=>cases ry;exact PySem.EqNone.eq_int_none (Yh I q (by simp))
  |int j=>obtain⟨t',rfl⟩:=ry;exact eq_int (Yh I q Zer)
  |str j=>obtain⟨t',rfl⟩:=ry;exact PySem.EqMixed.eq_int_str (Yh I q (by simp))
  |_=>exact absurd (show false=true from hs) Bool.false_ne_true
 |str i=>
  obtain⟨t,rfl⟩:=rx;cases y with
  |non=>cases ry;exact PySem.EqNone.eq_str_none (Yh I q (by simp))
  |bl j=>cases ry;exact PySem.EqMixed.eq_str_bool (Yh I q (by simp))
  |int j=>obtain⟨t',rfl⟩:=ry;exact PySem.EqMixed.eq_str_int (Yh I q (by simp))
  |str j=>obtain⟨t',rfl⟩:=ry;exact eq_str (Yh I q Zes)
  |_=>exact absurd (show false=true from hs) Bool.false_ne_true
 |byt i=>
  obtain⟨t,rfl⟩:=rx;cases y with
  |byt j=>obtain⟨t',rfl⟩:=ry;exact PySem.W.eq_bytes (Yh I q Zet)
  |_=>exact absurd (show false=true from hs) Bool.false_ne_true
 |_=>cases y<;>exact absurd (show false=true from hs) Bool.false_ne_true
theorem Zll:OpR X (compareOp .NotEq) rNe:=by
 intro pins s σ H x y v u Q I rx ry h;obtain⟨hs,q⟩:=h;cases x with
 |non=>
  cases rx;cases y with
  |non=>cases ry;exact PySem.EqNone.ne_none_none (Yh I q (by simp))
  |bl j=>cases ry;exact PySem.EqNone.ne_none_bool (Yh I q (by simp))
  |int j=>obtain⟨t',rfl⟩:=ry;exact PySem.EqNone.ne_none_int (Yh I q (by simp))
  |str j=>obtain⟨t',rfl⟩:=ry;exact PySem.EqNone.ne_none_str (Yh I q (by simp))
  |_=>exact absurd (show false=true from hs) Bool.false_ne_true
 |bl i=>
  cases rx;cases y with
  |non=>cases ry;exact PySem.EqNone.ne_bool_none (Yh I q (by simp))
  |bl j=>cases ry;exact ne_bool (Yh I q (congrArg not Zgn))
  |str j=>obtain⟨t',rfl⟩:=ry;exact PySem.EqMixed.ne_bool_str (Yh I q (by simp))
  |_=>exact absurd (show false=true from hs) Bool.false_ne_true
 |int i=>
  obtain⟨t,rfl⟩:=rx;cases y with
  |non=>cases ry;exact PySem.EqNone.ne_int_none (Yh I q (by simp))
  |int j=>obtain⟨t',rfl⟩:=ry;exact ne_int (Yh I q (congrArg not Zer))
  |str j=>obtain⟨t',rfl⟩:=ry;exact PySem.EqMixed.ne_int_str (Yh I q (by simp))
  |_=>exact absurd (show false=true from hs) Bool.false_ne_true
 |str i=>
  obtain⟨t,rfl⟩:=rx;cases y with
  |non=>cases ry;exact PySem.EqNone.ne_str_none (Yh I q (by simp))
  |bl j=>cases ry;exact PySem.EqMixed.ne_str_bool (Yh I q (by simp))
  |int j=>obtain⟨t',rfl⟩:=ry;exact PySem.EqMixed.ne_str_int (Yh I q (by simp))
  |str j=>obtain⟨t',rfl⟩:=ry;exact ne_str (Yh I q (congrArg not Zes))
  |_=>exact absurd (show false=true from hs) Bool.false_ne_true
 |byt i=>
  obtain⟨t,rfl⟩:=rx;cases y with
  |byt j=>obtain⟨t',rfl⟩:=ry;exact PySem.W.ne_bytes (Yh I q (congrArg not Zet))
  |_=>exact absurd (show false=true from hs) Bool.false_ne_true
 |_=>cases y<;>exact absurd (show false=true from hs) Bool.false_ne_true
theorem V8:OpR X (compareOp .Lt) (rI0 λi j => .bl (decide (i<j))):=JS λ_ _ _ _ _ _ _ q=>lt_int q
theorem Zg7:OpR X (compareOp .LtE) (rI0 λi j => .bl (decide (i<=j))):=JS λ_ _ _ _ _ _ _ q=>le_int q
theorem QP:OpR X (compareOp .Gt) (rI0 λi j => .bl (decide (j<i))):=JS λ_ _ _ _ _ _ _ q=>gt_int q
theorem Zg8:OpR X (compareOp .GtE) (rI0 λi j => .bl (decide (j<=i))):=JS λ_ _ _ _ _ _ _ q=>ge_int q
theorem Ze5:OpR X (compareOp .In) (λx y H Q=>∃i j,x = .str i/\y = .str j/\Q (.bl (!(Builtin.Str.occurrences j i 0 j.length 1).isEmpty)) H):=by
 intro pins s σ H x y v u Q I rx ry h;obtain⟨i,j,rfl,rfl,q⟩:=h;obtain⟨t,rfl⟩:=rx;obtain⟨t',rfl⟩:=ry;exact in_str (Yh I q rfl)
theorem Zcg:OpR X (compareOp .NotIn) (λx y H Q=>∃i j,x = .str i/\y = .str j/\Q (.bl (!(!(Builtin.Str.occurrences j i 0 j.length 1).isEmpty))) H):=by
 intro pins s σ H x y v u Q I rx ry h;obtain⟨i,j,rfl,rfl,q⟩:=h;obtain⟨t,rfl⟩:=rx;obtain⟨t',rfl⟩:=ry;exact notIn_str (Yh I q rfl)
theorem OpR.or{f:Value->Value->Sem Value}{r r':R2}(h:OpR X f r)(h':OpR X f r'):OpR X f (λx y H Q=>r x y H Q\/r' x y H Q):=by
 intro pins s σ H x y v u Q I rx ry q;rcases q with q|q
 · exact h pins s σ H x y v u Q I rx ry q
 · exact h' pins s σ H x y v u Q I rx ry q
theorem ZK(b:Expr){op:CmpOp}(h:op ≠ .In:=by decide)(h2:op ≠ .NotIn:=by decide):behindInMarks op b=false:=by
 have e1:(op == CmpOp.In)=false:=by cases op<;>first|rfl|exact absurd rfl h
 have e2:(op == CmpOp.NotIn)=false:=by cases op<;>first|rfl|exact absurd rfl h2
 cases b<;>simp [behindInMarks,e1,e2]
theorem Xu{op:CmpOp}{r:R2}(ho:OpR X (compareOp op) r)(ha:PE X a ta)(hb:PE X b tb)(hm:behindInMarks op b=false):PE X (.Compare a [op] [b] pos) (tOp r ta tb):=by
 intro pins s σ H Q I h;exact wpAny_Compare1 (ZkR ha hb I h λv u s2 x y H2 I2 rx ry q=>ho pins s2 σ H2 x y v u Q I2 rx ry q) hm
def Zix(t:TE):TT:=λσ H Q=>t σ H λx H'=>∃k,x = .bl k/\Q k H'
theorem ZS{op:CmpOp}{r:R2}(ho:OpR X (compareOp op) r)(ha:PE X a ta)(hb:PE X b tb)(hm:behindInMarks op b=false):PT X (.Compare a [op] [b] pos) (Zix (tOp r ta tb)):=by
 intro pins s σ H Q I h
 refine wpAny_isTrue_Compare1 (thn (ha pins s σ H _ I h) λv s1 ⟨x,H1,I1,r1,q1⟩=>thn (hb pins s1 σ H1 _ I1 q1) λu s2 ⟨y,H2,I2,r2,q2⟩=>
  thn (ho pins s2 σ H2 x y v u _ I2 r1 r2 q2) λc s3 ⟨z,H3,I3,r3,k,e,q3⟩ => ?_) hm
 subst e;cases r3;exact wpAny_truthy_bool ⟨H3,I3,q3⟩
def Zgo(r r':R2)(ta tb tc:TE):TE:=λσ H Q=>ta σ H λx H1=>tb σ H1 λy H2=>r x y H2 λz H3=>∃k,z = .bl k /\
 (if k=true then tc σ H3 λw' H4=>r' y w' H4 Q else Q (.bl false) H3)
theorem Zc1 {op op':CmpOp} {r r':R2} (ho:OpR X (compareOp op) r) (ho':OpR X (compareOp op') r') (ha:PE X a ta) (hb:PE X b tb) (hc:PE X c tc)
 (hm:lastMarks [op,op'] [b,c]=false:=by with_unfolding_all rfl):PE X (.Compare a [op,op'] [b,c] pos) (Zgo r r' ta tb tc):=by
 intro pins s σ H Q I h
 refine Compare_chain (thn (ha pins s σ H _ I h) λv s1 ⟨x,H1,I1,r1,q1⟩=>chain_link (thn (hb pins s1 σ H1 _ I1 q1) λu s2 ⟨y,H2,I2,r2,q2⟩=>
  thn (ho pins s2 σ H2 x y v u _ I2 r1 r2 q2) λd s3 ⟨z,H3,I3,r3,k,e,q3⟩ => ?_)) hm
 subst e;cases r3;refine wpAny_truthy_bool ?_;cases k with
 |false=>exact ite_ff ⟨.bl false,H3,I3,rfl,q3⟩
 |true=>exact ite_tt (chain_last (thn (hc pins s3 σ H3 _ I3 q3) λw' s4 ⟨z',H4,I4,r4,q4⟩=>ho' pins s4 σ H4 y z' u w' Q I4 r2 r4 q4))
theorem QQ:(sizeLine:Nat)<2 ^ 63:=by rw [sizeLine_eq];decide
theorem ZdF:OpR X (binaryOp .Add) (λx y H Q=>∃i j,x = .str i/\y = .str j/\i.length+j.length<=sizeLine/\Q (.str (i++j)) H):=by
 intro pins s σ H x y v u Q I rx ry h;obtain⟨i,j,rfl,rfl,hz,q⟩:=h;obtain⟨t,rfl⟩:=rx;obtain⟨t',rfl⟩:=ry;exact add_str (λt' tk=>⟨.str (i++j),H,I.tok _,⟨_,rfl⟩,q⟩) hz
theorem XH{x:V}{us:List Value}(r:Vals [x] us):∃u,us=[u]/\RelV x u:=by
 cases r with
 |cons r1 r2=>cases r2;exact⟨_,rfl,r1⟩
theorem QR{x y:V}{us:List Value}(r:Vals [x,y] us):∃u w',us=[u,w']/\RelV x u/\RelV y w':=by
 cases r with
 |cons r1 r2=>
  cases r2 with
  |cons r3 r4=>cases r4;exact⟨_,_,rfl,r1,r3⟩
theorem Ze6:YI X (.type "int") (λxs H Q=>(∃i,xs=[.int i]/\Q (.int i) H)\/∃k,xs=[.bl k]/\Q (.int (if k then 1 else 0)) H):=by
 intro pins s σ H xs us Q I r h;rcases h with⟨i,rfl,q⟩|⟨k,rfl,q⟩
 · obtain⟨u,rfl,t,rfl⟩:=XH r
   exact call_int_int ⟨.int i,H,I,⟨_,rfl⟩,q⟩
 · obtain⟨u,rfl,r1⟩:=XH r
   cases r1;exact call_int_bool ⟨.int (if k then 1 else 0),H,I.tok _,⟨_,rfl⟩,q⟩
theorem Zch:YI X (.type "str") (λxs H Q=>∃i,xs=[.int i]/\i.natAbs.log2<1920/\Q (.str (toString i)) H):=by
 intro pins s σ H xs us Q I r h;obtain⟨i,rfl,hz,q⟩:=h;obtain⟨u,rfl,t,rfl⟩:=XH r;exact PySem.P.str_of_int hz ⟨.str _,H,I.tok _,⟨_,rfl⟩,q⟩
end
end L2
namespace L2
open PySem PySem.Spec PyProof.Rows
structure ObjM(h:Heap)(x dx C:Addr)(mA:Str->Option Value):Prop where
 obj:h.get? x=some (instObj C dx)
 ns:h.Ns1 dx mA
 ne:dx≠x
theorem ZbK{h:Heap}{dx:Addr}{mA:Str->Option Value}(n:h.Ns1 dx mA):∃od,h.get? dx=some od/\∀name,PySem.W.lookIn name od=some (mA name):=by
 obtain⟨o,es,ep,ho,hd,hk,_,hm⟩:=n;refine⟨o,ho,λname => ?_⟩;have e:=hm name;unfold nsFind findBy at e;rw [<-Array.find?_toList]at e;unfold PySem.W.lookIn;rw [hd];dsimp only
 split
 · rename_i y q
   rw [q]at e;exact congrArg some e
 · rename_i q
   rw [q]at e
   have a:es.toList.any (·.refKey)=false:=by
    rw [List.any_eq_false];intro y hy;obtain⟨z,t,hkey⟩:=hk y (Array.mem_toList_iff.mp hy);simp [DictEntry.refKey,hkey]
   have a':¬es.toList.any (·.refKey)=true:=by rw [a];exact Bool.false_ne_true
   rw [if_neg a'];exact congrArg some e
theorem ObjM.look{h:Heap}{x dx C:Addr}{mA:Str->Option Value}(I:ObjM h x dx C mA):∃od,PySem.W.InstAt h x (instObj C dx) C (some od)/\∀name,PySem.W.lookIn name od=some (mA name):=
 let⟨od,ho,hl⟩:=ZbK I.ns
 ⟨od,⟨I.obj,rfl,rfl,ho⟩,hl⟩
section
variable{prog:Program}{w:World}{A:Around}{E:Value->Shared->Prop}{s:Shared}{K:PySem.W.Frag}{x dx C f:Addr}{mA:Str->Option Value}{name:Str}{v:Value}
theorem Zhp {expr:Bool} {Q:Value->Shared->Prop} (X:K.In s.heap) (I:ObjM s.heap x dx C mA) (hg:PySem.W.plainGet K C name=true) (hh:PySem.W.hasDictIn K C=true)
 (ha:PySem.W.findIn K (.ref C) name=some none) (hv:mA name=some v) (hv':PySem.W.handedIn v=true) (h:Q v { s with toks:=s.toks+1 }) :
 wpAny (model prog w) A (getAttr (.ref x) name expr) Q E s:=by
 obtain⟨od,J,hl⟩:=I.look;exact PySem.W.get_value X J (PySem.W.plainGet_of hg).1 (PySem.W.findObj_own hh ha rfl (by rw [hl,hv])) hv' h
theorem ZfN {pl:Sem Bool} {Q:Value×List Value->Shared->Prop} (X:K.In s.heap) (I:ObjM s.heap x dx C mA) (hg:PySem.W.plainGet K C name=true)
 (hf:PySem.W.findIn K (.ref C) name=some (some (.ref f))) (ht:PySem.W.isFn K (.ref f)=true) (hv:mA name=none) (h:Q (.ref f,[.ref x]) s) :
 wpAny (model prog w) A (getMethod (.ref x) name pl) Q E s:=by
 obtain⟨od,J,hl⟩:=I.look;exact PySem.W.method_fn X J (PySem.W.plainGet_of hg).1 (PySem.W.plainGet_of hg).2 hf (beq_iff_eq.mp ht) (by show(PySem.W.lookIn name od).map (·.isSome)=some false;rw [hl,hv];rfl) h
theorem Zhq {ns:List Str} {Q:Unit->Shared->Prop} (X:K.In s.heap) (I:ObjM s.heap x dx C mA)
 (hs:PySem.W.findIn K (.ref C) "__setattr__" = some (some (.builtin "object.__setattr__"))) (hp:PySem.W.plainOver K C=true) (ht:PySem.W.takerIn K C name=some none) (hh:PySem.W.hasDictIn K C=true)
 (hw:PySem.Within mA ns) (hsz:ns.length<=sizeLine)
 (h:∀h',ObjM h' x dx C (λy=>if y=name then some v else mA y)->Heap.SameBut dx s.heap h'->Q () { s with heap:=h',toks:=s.toks+2 }) :
 wpAny (model prog w) A (setAttr (.ref x) name v) Q E s:=by
 obtain⟨od,J,hl⟩:=I.look;refine PySem.W.set_plain X J hs (PySem.W.osa_open (s:={ s with toks:=s.toks+1 }) (r:=none) X J hp ht λb => ?_);obtain⟨cd,hc,hd'⟩:=PySem.W.any_some hh;have hx:s.heap.get? x=some ⟨.ref C,some dx,.plain,#[]⟩:=I.obj;refine wpAny_bind (wpAny_pure (wpAny_bind (wpAny_bind (wpAny_loadPart hx (wpAny_bind (PySem.W.Looks.here (s:={ s with toks:=s.toks+1 }) (PySem.W.looks_clsIn X hc) ?_))))))
 rw [hd'];refine wpAny_pure (a:=some dx) (wpAny_bind (wpAny_pure (wpAny_bind ?_)));refine wpAny_nsSet1 (s:={ s with toks:=s.toks+1 }) I.ns λh' hn2 hs2 => ?_
 obtain⟨oD,esD,epD,hoD,hdD,hcD⟩:=hn2.count (PySem.Within.cons name v hw);refine wpAny_bind (wpAny_lookBehind hoD (by rw [hdD];exact pastItsLine_dict (Nat.le_trans hcD (by rw [List.length_cons];omega))) ?_);exact wpAny_pure (h _ ⟨(hs2.2 _ (Ne.symm I.ne)).trans I.obj,hn2,I.ne⟩ hs2)
theorem ZfO {R:Result->Shared->Prop} {vs:List Value} {kw:List (Str×Value)} (X:K.In s.heap) (hm:PySem.W.makesIn K C=true)
 (hi:PySem.W.findIn K (.ref C) "__init__" = some (some (.ref f))) (hf:PySem.W.typeIn K (.ref f)=some (.type "function"))
 (h:codeAny (model prog w) (A.under (.builtin "type.__call__" ⟨.ref C::vs,kw⟩)) (.call (.ref f) ⟨.ref (s.heap.objs.size+1)::vs,kw⟩) (PySem.W.InitBack (s.heap.objs.size+1) R)
   { s with heap:=(s.heap.push emptyDict).push (instObj C s.heap.objs.size) }) :
 codeAny (model prog w) A (.call (.ref C) ⟨vs,kw⟩) R s:=by
 obtain⟨hh,g,d,t,os⟩:=s;exact PySem.W.make_core (PySem.W.makes_of X hm) (PySem.W.looks_findIn X hi) (λself=>PySem.W.bind_fn X self hf) (.inl rfl) h
end
def YS(f:Str)(v:V):List (Str×V)->List (Str×V)
 | []=>[(f,v)]
 |(g,x)::r=>if g=f then(g,v)::r else(g,x)::YS f v r
theorem ZaW(f g:Str)(v:V):∀fs:List (Str×V),(YS f v fs).lookup g=if g=f then some v else fs.lookup g
 | []=>by
  show List.lookup g [(f,v)]=_
  by_cases h:g=f
  · have hb:(g == f)=true:=beq_iff_eq.mpr h
    simp only [List.lookup,hb,if_pos h]
  · have hb:(g == f)=false:=beq_eq_false_iff_ne.mpr h
    simp only [List.lookup,hb,if_neg h]
 |(k,x)::r=>by
  have ih:=ZaW f g v r;rw [show YS f v ((k,x)::r)=(if k=f then(k,v)::r else(k,x)::YS f v r)from rfl]
  by_cases hk:k=f
  · rw [if_pos hk]
    by_cases h:g=k
    · have hb:(g == k)=true:=beq_iff_eq.mpr h
      simp only [List.lookup,hb,if_pos (h.trans hk)]
    · have hb:(g == k)=false:=beq_eq_false_iff_ne.mpr h
      simp only [List.lookup,hb,if_neg (λe:g=f=>h (e.trans hk.symm))]
  · rw [if_neg hk]
    by_cases h:g=k
    · have hb:(g == k)=true:=beq_iff_eq.mpr h
      simp only [List.lookup,hb,if_neg (λe:g=f=>hk (h.symm.trans e))]
    · have hb:(g == k)=false:=beq_eq_false_iff_ne.mpr h
      simp only [List.lookup,hb];exact ih
theorem ZaL(f:Str)(v:V):∀fs:List (Str×V),f∈(YS f v fs).map (·.1)/\∀g,g∈fs.map (·.1)->g∈(YS f v fs).map (·.1)
 | []=>⟨by simp [YS],λg h=>by simp at h⟩
 |(k,x)::r=>by
  obtain⟨i1,i2⟩:=ZaL f v r;rw [show YS f v ((k,x)::r)=(if k=f then(k,v)::r else(k,x)::YS f v r)from rfl]
  by_cases hk:k=f
  · rw [if_pos hk]
    subst hk;exact⟨by simp,λg h=>by simpa using h⟩
  · rw [if_neg hk]
    refine⟨?_,λg h => ?_⟩
    · rw [List.map_cons]
      exact List.mem_cons_of_mem _ i1
    · rw [List.map_cons]at h ⊢
      rcases List.mem_cons.mp h with e|e
      · exact List.mem_cons.mpr (.inl e)
      · exact List.mem_cons_of_mem _ (i2 g e)
theorem ZaX(f:Str)(v:V):∀fs:List (Str×V),(YS f v fs).length<=fs.length+1
 | []=>by simp [YS]
 |(k,x)::r=>by
  have ih:=ZaX f v r;rw [show YS f v ((k,x)::r)=(if k=f then(k,v)::r else(k,x)::YS f v r)from rfl]
  by_cases hk:k=f
  · rw [if_pos hk,List.length_cons,List.length_cons];omega
  · rw [if_neg hk,List.length_cons,List.length_cons];omega
theorem RelO.some_of{v:V}{o:Option Value}(r:RelO (some v) o):∃u,o=some u/\RelV v u:=by
 cases o with
 |none=>exact(show False from r).elim
 |some u=>exact⟨u,rfl,r⟩
theorem RelO.none_of{o:Option Value}(r:RelO none o):o=none:=by
 cases o with
 |none=>rfl
 |some u=>exact(show False from r).elim
theorem ZbL{v:V}{u:Value}(r:RelV v u):PySem.W.handedIn u=true:=by
 cases v with
 |non=>cases(show u=Value.none from r);rfl
 |bl b=>cases(show u=Value.bool b from r);rfl
 |int i=>obtain⟨t,e⟩:=(show ∃t,u=Value.int i t from r);cases e;rfl
 |str x=>obtain⟨t,e⟩:=(show ∃t,u=Value.str x t from r);cases e;rfl
 |byt b=>obtain⟨t,e⟩:=(show ∃t,u=Value.bytes b t from r);cases e;rfl
 |flt b=>obtain⟨t,e⟩:=(show ∃t,u=Value.float b t from r);cases e;rfl
 |ref a=>cases(show u=Value.ref a from r);rfl
 |ty n=>cases(show u=Value.type n from r);rfl
section
variable{P:Program}{w:World}{H H':Hp}{h h':Heap}{a C dx:Addr}{fs fs':List (Str×V)}
theorem JT(hok:HOk P w H h)(e:H a=some (.ins C dx fs)):∃mA,ObjM h a dx C mA/\(∀f,RelO (fs.lookup f) (mA f))/\PySem.Within mA (fs.map (·.1))/\fs.length<=1000/\H dx=some (.own a):=by
 obtain⟨d,z,ne,ob,mA,n,r,q⟩:=(show ObjOk P w H h a (.ins C dx fs)from hok a _ e)
 exact⟨mA,⟨ob,n,ne⟩,r,q,z,d⟩
end
structure Cls(K:PySem.W.Frag)(C:Addr):Prop where
 pg:PySem.W.plainGet K C Str.empty=true
 hd:PySem.W.hasDictIn K C=true
 po:PySem.W.plainOver K C=true
 sa:PySem.W.findIn K (.ref C) "__setattr__" = some (some (.builtin "object.__setattr__"))
theorem Cls.get{K:PySem.W.Frag}{C:Addr}(c:Cls K C)(f:Str):PySem.W.plainGet K C f=true:=c.pg
def NoAttr(K:PySem.W.Frag)(C:Addr)(f:Str):Prop:=PySem.W.findIn K (.ref C) f=some none
theorem NoAttr.taker{K:PySem.W.Frag}{C:Addr}{f:Str}(n:NoAttr K C f):PySem.W.takerIn K C f=some none:=by
 unfold PySem.W.takerIn;rw [show PySem.W.findIn K (.ref C) f=some none from n];rfl
structure Con(K:PySem.W.Frag)(C:Addr)(f:Str)(v:V)(u:Value):Prop where
 at_:PySem.W.findIn K (.ref C) f=some (some u)
 rel:RelV v u
 get:PySem.W.specialIn K u "__get__" = some none
 cp:PySem.W.copiedNames.contains f=false
structure Meth(K:PySem.W.Frag)(C:Addr)(m:Str)(f:Addr):Prop where
 at_:PySem.W.findIn K (.ref C) m=some (some (.ref f))
 fn:PySem.W.isFn K (.ref f)=true
 kp:PySem.W.keepIn K (.ref f)=true
section
variable{X:Cx}{pins:List (Addr×Obj)}{σ:St}{H:Hp}{s:Shared}{a C dx:Addr}{fs:List (Str×V)}{f:Str}{v:V}{A:Around}{E:Value->Shared->Prop}
theorem ZdG {b:Bool} {Q:Value->Shared->Prop} (I:Inv X pins σ H s) (e:H a=some (.ins C dx fs)) (c:Cls X.K C) (n:NoAttr X.K C f) (l:fs.lookup f=some v)
 (h:∀u s',Inv X pins σ H s'->RelV v u->Q u s'):wpAny (model X.prog X.w) A (getAttr (.ref a) f b) Q E s:=by
 obtain⟨mA,O,r,_,_,_⟩:=JT I.hok e;obtain⟨u,hu,ru⟩:=RelO.some_of (v:=v) (o:=mA f) (by rw [<-l];exact r f);exact Zhp I.kIn O (c.get f) c.hd n hu (ZbL ru) (h u _ (I.tok _) ru)
theorem ZdH {m:Str} {g:Addr} {pl:Sem Bool} {Q:Value×List Value->Shared->Prop} (I:Inv X pins σ H s) (e:H a=some (.ins C dx fs)) (c:Cls X.K C) (k:Meth X.K C m g) (l:fs.lookup m=none)
 (h:Q (.ref g,[.ref a]) s):wpAny (model X.prog X.w) A (getMethod (.ref a) m pl) Q E s:=by
 obtain⟨mA,O,r,_,_,_⟩:=JT I.hok e;have hn:mA m=none:=RelO.none_of (by rw [<-l];exact r m);exact ZfN I.kIn O (c.get m) k.at_ k.fn hn h
theorem ZdI {y:V} {u:Value} {Q:Unit->Shared->Prop} (I:Inv X pins σ H s) (e:H a=some (.ins C dx fs)) (c:Cls X.K C) (n:NoAttr X.K C f) (hl:fs.length<1000) (ry:RelV y u)
 (h:∀s',Inv X pins σ (upd H a (.ins C dx (YS f y fs))) s'->Q () s'):wpAny (model X.prog X.w) A (setAttr (.ref a) f u) Q E s:=by
 obtain⟨mA,O,r,wi,_,ho⟩:=JT I.hok e;have hz:(fs.map (·.1)).length<=sizeLine:=by rw [List.length_map,sizeLine_eq];omega
 refine Zhq I.kIn O c.sa c.po n.taker c.hd wi hz λh' O' sb=>h _ ?_
 have hd:∃o,h'.get? dx=some o:=let⟨o,_,_,e',_⟩:=O'.ns;⟨o,e'⟩
 refine I.write (x:=a) (e:=dx) (by rw [e];exact True.intro) (.inr ho) (λb q hb z=>(sb.2 b hb).trans z) hd ?_;refine⟨by rw [ZI O.ne];exact ho,?_,O.ne,O'.obj,_,O'.ns,λg => ?_,λg hg => ?_⟩
 · have:=ZaX f y fs;omega
 · show RelO ((YS f y fs).lookup g) (if g=f then some u else mA g)
   rw [ZaW]
   by_cases q:g=f
   · rw [if_pos q,if_pos q];exact ry
   · rw [if_neg q,if_neg q];exact r g
 · by_cases q:g=f
   · rw [q];exact(ZaL f y fs).1
   · refine(ZaL f y fs).2 g (wi g λz=>hg ?_)
     show(if g=f then some u else mA g)=none;rw [if_neg q];exact z
theorem Inv.made(I:Inv X pins σ H s):Inv X pins σ (upd (upd H s.heap.objs.size (.own (s.heap.objs.size+1))) (s.heap.objs.size+1) (.ins C s.heap.objs.size []))
 { s with heap:=(s.heap.push emptyDict).push (instObj C s.heap.objs.size) }:=by
 have e1:(s.heap.push emptyDict).get? s.heap.objs.size=some emptyDict:=Heap.get?_push_size s.heap rfl
 have e2:((s.heap.push emptyDict).push (instObj C s.heap.objs.size)).get? (s.heap.objs.size+1)=some (instObj C s.heap.objs.size):=by
  have:=Heap.get?_push_size (s.heap.push emptyDict) (o:=instObj C s.heap.objs.size) rfl
  rwa [Heap.size_push]at this
 have e3:(s.heap.push emptyDict).Ns s.heap.objs.size (λ_=>none):=⟨emptyDict,#[],_,e1,rfl,(λe he=>absurd he (by simp)),λ_=>rfl⟩
 have I1:=I.laid (a:=s.heap.objs.size) (o:=.own (s.heap.objs.size+1)) (h':=s.heap.push emptyDict) (t':=s.toks) (λb u q=>Heap.get?_push_of_some _ q) (Nat.le_refl _) ⟨_,e1⟩;refine I1.laid (a:=s.heap.objs.size+1) (o:=.ins C s.heap.objs.size []) (t':=s.toks) (λb u q=>Heap.get?_push_of_some _ q) (Nat.le_of_eq (Heap.size_push _ _)) ?_;have ne:s.heap.objs.size≠s.heap.objs.size+1:=Nat.ne_of_lt (Nat.lt_succ_self _)
 refine⟨by rw [ZI ne,Z2],Nat.zero_le _,ne,e2,λ_=>none,(Heap.Ns1.of_empty e3).at λo q=>Heap.get?_push_of_some _ q,λ_=>True.intro,λy hy=>absurd rfl hy⟩
theorem Zeu {prog:Program} {w:World} {env:Env} {e:Expr} {f:Str} {pos:Pos} {s:Shared} {Q:Value->Shared->Prop} (hb:attributeBase e f env (eval e env)=eval e env)
 (h:wpAny (model prog w) A (eval e env) (λo s₁=>wpAny (model prog w) A (getAttr o f true) Q E s₁) E s):wpAny (model prog w) A (eval (.Attribute e f pos) env) Q E s:=
 Attribute_any_ h (by rw [arm_eval_Attribute,hb])
end
def ZkS(K:PySem.W.Frag)(ta:TE)(f:Str):TE:=λσ H Q=>ta σ H λx H1=>∃a C dx fs v,x = .ref a/\H1 a=some (.ins C dx fs)/\Cls K C/\NoAttr K C f/\fs.lookup f=some v/\Q v H1
def ZmH(K:PySem.W.Frag)(ta tv:TE)(f:Str):TS:=λD σ H=>tv σ H λy H1=>ta σ H1 λx H2=>∃a C dx fs,x = .ref a/\H2 a=some (.ins C dx fs)/\Cls K C/\NoAttr K C f/\fs.length<1000 /\
 D.nx σ (upd H2 a (.ins C dx (YS f y fs)))
section
variable{X:Cx}{o e value:Expr}{f:Str}{pos pos' tpos:Pos}{ta tv:TE}
theorem Zjc(he:PE X e ta)(hb:attributeBase e f X.env (eval e X.env)=eval e X.env):PE X (.Attribute e f pos) (ZkS X.K ta f):=by
 intro pins s σ H Q I h;refine Zeu hb (thn (he pins s σ H _ I h) λu s1 ⟨x,H1,I1,rx,a,C,dx,fs,v,ex,ea,c,n,l,q⟩ => ?_);subst ex;obtain rfl:u=Value.ref a:=rx;exact ZdG I1 ea c n l λu' s2 I2 ru=>⟨v,H1,I2,ru,q⟩
theorem QS(ha:PE X o ta)(hv:PE X value tv)(hs:swapsWith value (some (.Attribute o f pos')) pos.line X.env=pure false):PS X (.Assign [.Attribute o f pos'] value pos) (ZmH X.K ta tv f):=by
 intro pins s σ H D I h;refine plainObj_wpAny_Assign_Attribute (thn (hv pins s σ H _ I h) λu s1 ⟨y,H1,I1,ry,q⟩=>thn (ha pins s1 σ H1 _ I1 q) λov s2 ⟨x,H2,I2,rx,a,C,dx,fs,ex,ea,c,n,l,q2⟩ => ?_) hs;subst ex;obtain rfl:ov=Value.ref a:=rx;exact ZdI I2 ea c n l ry λs3 I3=>⟨σ,_,I3,q2⟩
end
section
variable{X:Cx}{pins:List (Addr×Obj)}{σ:St}{H:Hp}{s:Shared}{A:Around}{E:Value->Shared->Prop}{Q:Value->Shared->Prop}{c:Value}{b:Bool}
inductive TyOf(K:PySem.W.Frag)(H:Hp):V->Value->Prop where
 |non:TyOf K H .non (.type "NoneType")
 |bl (x:Bool):TyOf K H (.bl x) (.type "bool")
 |int (i:Int):TyOf K H (.int i) (.type "int")
 |str (x:Str):TyOf K H (.str x) (.type "str")
 |flt (x:UInt64):TyOf K H (.flt x) (.type "float")
 |lst {a:Addr} {xs:List V} (e:H a=some (.lst xs)):TyOf K H (.ref a) (.type "list")
 |frz {a:Addr} {o:Obj} {xs:List V} (e:H a=some (.frz o (.lst xs))):TyOf K H (.ref a) (.type "list")
 |tup {a:Addr} {xs:List V} (e:H a=some (.tup xs)):TyOf K H (.ref a) (.type "tuple")
 |dK {a:Addr} {kvs:List (Key×V)} (e:H a=some (.dK kvs)):TyOf K H (.ref a) (.type "dict")
 |dT {a:Addr} {kvs:List (List Key×V)} (e:H a=some (.dT kvs)):TyOf K H (.ref a) (.type "dict")
 |ins {a C dx:Addr} {fs:List (Str×V)} (e:H a=some (.ins C dx fs)) (cl:Cls K C) (ha:PySem.W.findIn K (.ref C) "__class__" = some (some (.builtin "object.__class__")))
  (hn:PySem.W.specialIn K (.builtin "object.__class__") "__get__" = some (some (.builtin "getset_descriptor.__get__"))) (htk:PySem.W.takesIn K (.builtin "object.__class__")=some true)
  (hm:PySem.W.mroIn K C (.type "object")=some true):TyOf K H (.ref a) (.ref C)
theorem Ze7{x:V}{u t:Value}(I:Inv X pins σ H s)(rx:RelV x u)(ty:TyOf X.K H x t)(e:kitOne X.K t c=some b)(h:∀tk,Q (.bool b) { s with toks:=tk }) :
 wpAny (model X.prog X.w) A (call (.builtin "isinstance") [u,c]) Q E s:=by
 cases ty with
 |non=>cases(show u=Value.none from rx);exact PySem.W.kia_one PySem.W.kitx_none I.kIn True.intro e (λz=>nomatch z) h
 |bl y=>cases(show u=Value.bool y from rx);exact PySem.W.kia_one PySem.W.kitx_bool I.kIn True.intro e (λz=>nomatch z) h
 |int i=>obtain⟨t,q⟩:=(show ∃t,u=Value.int i t from rx);cases q;exact PySem.W.kia_one PySem.W.kitx_int I.kIn True.intro e (λz=>nomatch z) h
 |str y=>obtain⟨t,q⟩:=(show ∃t,u=Value.str y t from rx);cases q;exact PySem.W.kia_one PySem.W.kitx_str I.kIn True.intro e (λz=>nomatch z) h
 |flt y=>obtain⟨t,q⟩:=(show ∃t,u=Value.float y t from rx);cases q;exact PySem.W.kia_one PySem.W.kitx_float I.kIn True.intro e (λz=>nomatch z) h
 | @lst a xs ea=>
  cases(show u=Value.ref a from rx);obtain⟨_,_,n,_,h1⟩:=(show ObjOk X.prog X.w H s.heap a (.lst xs)from I.hok a _ ea)
  exact PySem.W.kia_one PySem.W.kitx_list I.kIn ⟨_,h1,rfl⟩ e (λz=>nomatch z) h
 | @frz a ob xs ea=>
  cases(show u=Value.ref a from rx);obtain⟨_,_,_,n,_,h1⟩:=(show ObjOk X.prog X.w H s.heap a (.frz ob (.lst xs))from I.hok a _ ea)
  exact PySem.W.kia_one PySem.W.kitx_list I.kIn ⟨_,h1,rfl⟩ e (λz=>nomatch z) h
 | @tup a xs ea=>
  cases(show u=Value.ref a from rx);obtain⟨_,_,_,p⟩:=(show ObjOk X.prog X.w H s.heap a (.tup xs)from I.hok a _ ea)
  obtain⟨o,h1,h2,_⟩:=p;exact PySem.W.kia_one PySem.W.kitx_tuple I.kIn ⟨o,h1,h2⟩ e (λz=>nomatch z) h
 | @dK a kvs ea=>
  cases(show u=Value.ref a from rx);obtain⟨_,_,vs,_,p⟩:=(show ObjOk X.prog X.w H s.heap a (.dK kvs)from I.hok a _ ea)
  obtain⟨o,es,ep,h1,h2,_⟩:=p;exact PySem.W.kia_one PySem.W.kitx_dict I.kIn ⟨o,h1,h2.1⟩ e (λz=>nomatch z) h
 | @dT a kvs ea=>
  cases(show u=Value.ref a from rx);obtain⟨_,_,xs,_,o,es,ep,h1,h2,_⟩:=(show ObjOk X.prog X.w H s.heap a (.dT kvs)from I.hok a _ ea)
  exact PySem.W.kia_one PySem.W.kitx_dict I.kIn ⟨o,h1,h2.1⟩ e (λz=>nomatch z) h
 | @ins a C dx fs ea cl ha hn htk hm=>
  cases(show u=Value.ref a from rx);obtain⟨mA,O,_⟩:=JT I.hok ea;obtain⟨od,J,_⟩:=O.look;exact PySem.W.kia_one (PySem.W.kitx_own (cl.get _) cl.hd ha hn htk hm) I.kIn J e (λz=>nomatch z) h
end
end L2
namespace L2
open PySem PySem.Spec PyProof.Rows
structure Room(k:Nat)(A:Around):Prop where
 hd:A.handled=none
 dp:A.depth+3*k+5<recursionLimit
 un:A.units+16*k+200<cLine
theorem Room.mono{j k:Nat}{A:Around}(r:Room k A)(h:j<=k):Room j A:=⟨r.hd,by have:=r.dp;omega,by have:=r.un;omega⟩
theorem Room.deeper{k:Nat}{A:Around}(r:Room (k+1) A)(env:Env):Room k (A.deeper env):=
 ⟨r.hd,by have:=r.dp;show A.depth+1+3*k+5<_;omega,by have:=r.un;show A.units+3+16*k+200<_;omega⟩
theorem ZdJ{A:Around}{C:Addr}{us:List Value}{kw:List (Str×Value)}:(A.under (.builtin "type.__call__" ⟨.ref C::us,kw⟩)).depth=A.depth+1:=by
 first|rfl|simp [Around.under,Code.weight,Code.isCreation,Code.isGuard,Code.isCaller,Code.frames,Code.isFrame,guardIds]
theorem ZdK{A:Around}{C:Addr}{us:List Value}{kw:List (Str×Value)}:(A.under (.builtin "type.__call__" ⟨.ref C::us,kw⟩)).units=A.units+1:=by
 first|rfl|simp [Around.under,Code.cUnits,Code.frames,Code.isFrame]
theorem Room.make{k:Nat}{A:Around}(r:Room (k+1) A)(C:Addr)(us:List Value)(kw:List (Str×Value)):Room k (A.under (.builtin "type.__call__" ⟨.ref C::us,kw⟩)):=
 ⟨r.hd,by have:=r.dp;rw [ZdJ];omega,by have:=r.un;rw [ZdK];omega⟩
theorem Room.depth{k:Nat}{A:Around}(r:Room k A):A.depth<recursionLimit:=by have:=r.dp;omega
theorem Room.units{k:Nat}{A:Around}(r:Room k A):A.units+64<cLine:=by have:=r.un;omega
def tNil:TA:=λ_ H Q=>Q [] H
def Y4(ta:TE)(tr:TA):TA:=λσ H Q=>ta σ H λx H1=>tr σ H1 λxs H2=>Q (x::xs) H2
section
variable{X:Cx}{e:Expr}{es:List Expr}{te:TE}{t:TA}{pos:Pos}
theorem Zj:PA X [] tNil:=λ_ _ _ _ H Q I h=>Calls.spliced_nil ⟨[],H,I,.nil,h⟩
theorem Zf(ha:PE X e te)(hr:PA X es t)(hs:starEach (e::es) X.env=(false,eval e X.env)::starEach es X.env:=by rfl):PA X (e::es) (Y4 te t):=by
 intro pos pins s σ H Q I h;rw [hs];show wpAny _ _ (spliced ((false,eval e X.env)::backTo pos (starEach es X.env))) _ _ s;refine Calls.spliced_cons (thn (ha pins s σ H _ I h) λu s1 ⟨x,H1,I1,r1,q1⟩ => ?_);exact thn (hr pos pins s1 σ H1 _ I1 q1) λus s2 ⟨xs,H2,I2,r2,q2⟩=>⟨x::xs,H2,I2,.cons r1 r2,q2⟩
def ZkT(t:TA):TE:=λσ H Q=>t σ H λxs H1=>xs.length<=sizeLine/\∀p,H1 p=none->Q (.ref p) (upd H1 p (.tup xs))
def ZmI(t:TA):TE:=λσ H Q=>t σ H λxs H1=>xs.length<=sizeLine/\∀p,H1 p=none->Q (.ref p) (upd H1 p (.lst xs))
theorem JU{x1}(h:PA X es t):PE X (.Tuple es x1 pos) (ZkT t):=by
 intro pins s σ H Q I hq;refine wpAny_Tuple_spliced (thn (h pos pins s σ H _ I hq) λus s1 ⟨xs,H1,I1,r,z,q⟩=>⟨by rw [<-r.length];exact z,?_⟩);have hf:H1 s1.heap.objs.size=none:=I1.hok.fresh (Nat.le_refl _);refine⟨.ref s1.heap.objs.size,upd H1 s1.heap.objs.size (.tup xs),I1.laid (t':=s1.toks) (λb u e=>Heap.get?_push_of_some _ e) (Nat.le_refl _) ?_,rfl,q _ hf⟩;exact⟨z,us,r,⟨_,Heap.get?_push_size _ rfl,rfl,⟨_,rfl⟩,rfl⟩⟩
theorem YT(h:PA X es t):PE X (.List es pos) (ZmI t):=by
 intro pins s σ H Q I hq;refine wpAny_List_spliced (thn (h pos pins s σ H _ I hq) λus s1 ⟨xs,H1,I1,r,z,q⟩=>⟨by rw [<-r.length];exact z,?_⟩);have hf:H1 s1.heap.objs.size=none:=I1.hok.fresh (Nat.le_refl _);refine⟨.ref s1.heap.objs.size,upd H1 s1.heap.objs.size (.lst xs),I1.laid (t':=s1.toks) (λb u e=>Heap.get?_push_of_some _ e) (Nat.le_refl _) ?_,rfl,q _ hf⟩;exact⟨z,us,0,r,Heap.get?_push_size _ rfl⟩
end
abbrev Sp:=List V->Hp->VK->XK->Prop
abbrev CXT:=List Env->Hp->Shared->XK->Value->Shared->Prop
structure Env0(P:Program)(w:World)(K:PySem.W.Frag)(mg:Str->Option Value)(base:Heap)(A:Around)(outer:List Env)(s:Shared)(H:Hp):Prop where
 frames:A.frames=some outer
 mod:Mod K mg base
 bs:∀b o,base.get? b=some o->s.heap.get? b=some o/\H b=none
 bsz:base.objs.size<=s.heap.objs.size
 funs:s.heap.FunFrames base outer
 frf:∀b∈frs outer,H b=none
 hok:HOk P w H s.heap
 bare:AllBare s.gens
def CE(outer:List Env)(P:Program)(w:World)(H:Hp)(s:Shared)(Q:VK)(u:Value)(s':Shared):Prop:=
 ∃v H',s'.os=s.os/\AllBare s'.gens/\Un (frs outer) [] H H' s.heap s'.heap/\HOk P w H' s'.heap/\RelV v u/\Q v H'
def CR(CX:CXT)(outer:List Env)(P:Program)(w:World)(H:Hp)(s:Shared)(Q:VK)(E:XK)(r:Result)(s':Shared):Prop:=
 match r with
 | .ok (.ret u)=>CE outer P w H s Q u s'
 | .ok _=>False
 | .error e=>CX outer H s E e s'
structure FnOk(P:Program)(w:World)(K:PySem.W.Frag)(mg:Str->Option Value)(base:Heap)(CX:CXT)(k:Nat)(f:Addr)(fd:FuncData)(ps:List Str)(sp:Sp):Prop where
 len:∀vs H Q E,sp vs H Q E->vs.length=ps.length
 run:∀(A:Around)(outer:List Env)(s:Shared)(H:Hp)(args:Args)(us:List Value)(vs:List V)(Q:VK)(E:XK),Room k A->Env0 P w K mg base A outer s H->BindsTo s fd args (ps.zip us)->Vals vs us->sp vs H Q E ->
  codeAny (model P w) A (.call (.ref f) args) (CR CX outer P w H s Q E) s
theorem FnOk.mono{P:Program}{w:World}{K:PySem.W.Frag}{mg:Str->Option Value}{base:Heap}{CX:CXT}{j k:Nat}{f:Addr}{fd:FuncData}{ps:List Str}{sp:Sp}(F:FnOk P w K mg base CX j f fd ps sp)(h:j<=k) :
 FnOk P w K mg base CX k f fd ps sp:=⟨F.len,λA outer s H args us vs Q E hr=>F.run A outer s H args us vs Q E (hr.mono h)⟩
theorem FnOk.imp {P:Program} {w:World} {K:PySem.W.Frag} {mg:Str->Option Value} {base:Heap} {CX:CXT} {k:Nat} {f:Addr} {fd:FuncData} {ps:List Str} {sp sp':Sp} (F:FnOk P w K mg base CX k f fd ps sp)
 (h:∀vs H Q E,sp' vs H Q E->sp vs H Q E):FnOk P w K mg base CX k f fd ps sp':=
 ⟨λvs H Q E q=>F.len vs H Q E (h _ _ _ _ q),λA outer s H args us vs Q E hr he hb hv hs=>F.run A outer s H args us vs Q E hr he hb hv (h _ _ _ _ hs)⟩
theorem Env0.make{P:Program}{w:World}{K:PySem.W.Frag}{mg:Str->Option Value}{base:Heap}{A:Around}{outer:List Env}{s:Shared}{H:Hp}(e:Env0 P w K mg base A outer s H)(C:Addr)(us:List Value)(kw:List (Str×Value)) :
 Env0 P w K mg base (A.under (.builtin "type.__call__" ⟨.ref C::us,kw⟩)) outer s H:=⟨by first|exact e.frames|(simpa [Around.under,Code.envs,Code.isFrame,pushEnvs]using e.frames),e.mod,e.bs,e.bsz,e.funs,e.frf,e.hok,e.bare⟩
section
variable{X:Cx}{pins:List (Addr×Obj)}{σ:St}{H:Hp}{s s':Shared}
theorem Inv.env0(I:Inv X pins σ H s):Env0 X.prog X.w X.K X.mg X.base X.A X.stack s H:=
 ⟨I.ok.frames,I.ok.mod,I.bs,Nat.le_trans I.ok.bsz I.sz,I.stack,I.stkFree,I.hok,I.bare⟩
theorem Inv.after{Q:VK}{u:Value}(I:Inv X pins σ H s)(h:CE X.stack X.prog X.w H s Q u s'):EP X pins σ Q u s':=by
 obtain⟨v,H',os,bare,un,hok,r,q⟩:=h;obtain⟨hh,g,d,t,os'⟩:=s';obtain rfl:os'=s.os:=os;exact⟨v,H',I.call (h':=hh) (g':=g) (d':=d) (t':=t) (ch:=[]) un hok bare (λb z=>absurd z (by simp)),r,q⟩
end
def U5(sp:Sp)(dvs:List V)(E:XK)(t:TA):TE:=λσ H Q=>t σ H λvs H1=>sp (vs++dvs) H1 Q E
def Ziy(C:Addr)(sp:Sp)(dvs:List V)(E:XK)(t:TA):TE:=λσ H Q=>t σ H λvs H1=>∀x dx,H1 x=none->H1 dx=none->dx≠x ->
 sp (.ref x::(vs++dvs)) (upd (upd H1 dx (.own x)) x (.ins C dx [])) (λv H2=>v = .non/\Q (.ref x) H2) E
def Binds(K:PySem.W.Frag)(fd:FuncData)(ps:List Str)(ds:List Value):Prop:=
 ∀(s:Shared)(us:List Value),K.In s.heap->(us++ds).length=ps.length->BindsTo s fd ⟨us,[]⟩ (ps.zip (us++ds))
theorem Binds.all{K:PySem.W.Frag}{fd:FuncData}{ps:List Str}(h:∀us:List Value,us.length=ps.length->bindArgs fd ⟨us,[]⟩=pure (ps.zip us)):Binds K fd ps []:=λs us _ hl=>by
 rw [List.append_nil]at hl ⊢;exact .of_eq (h us hl)
def UB(CX:CXT)(X:Cx)(E:XK):Prop:=∀(pins:List (Addr×Obj))(σ:St)(H:Hp)(s:Shared)(e:Value)(s':Shared),Inv X pins σ H s->CX X.stack H s E e s'->X.xe e s'
section
variable{X:Cx}{CX:CXT}{k:Nat}{f C:Addr}{fd:FuncData}{ps:List Str}{sp:Sp}{dvs:List V}{ds:List Value}{E:XK}{x m:Str}{p pos apos:Pos}{e o:Expr}{es:List Expr}{ta:TE}{t:TA}
theorem Zgp {pins:List (Addr×Obj)} {σ:St} {H:Hp} {s:Shared} {Q:VK} {us:List Value} {vs:List V} (F:FnOk X.prog X.w X.K X.mg X.base CX k f fd ps sp) (hr:Room k X.A) (hb:Binds X.K fd ps ds) (hd:Vals dvs ds) (hx:UB CX X E)
 (I:Inv X pins σ H s) (r:Vals vs us) (h:sp (vs++dvs) H Q E):wpAny (model X.prog X.w) X.A (call (.ref f) us) (EP X pins σ Q) X.xe s:=by
 have r2:Vals (vs++dvs) (us++ds):=r.append hd;have hl:(us++ds).length=ps.length:=by rw [<-r2.length];exact F.len _ _ _ _ h
 refine wpAny_call (codeAny_mono (F.run X.A X.stack s H ⟨us,[]⟩ (us++ds) (vs++dvs) Q E hr I.env0 (hb s us I.kIn hl) r2 h) λr s' hq => ?_);cases r with
 |error e=>exact hx pins σ H s e s' I hq
 |ok fl=>
  cases fl with
  |ret u=>exact I.after hq
  |next=>exact False.elim hq
  |brk=>exact False.elim hq
  |cont=>exact False.elim hq
theorem ZG (F:FnOk X.prog X.w X.K X.mg X.base CX k f fd ps sp) (hr:Room k X.A) (hg:Gl X x) (hm:X.mg x=some (.ref f)) (hk:PySem.W.keepIn X.K (.ref f)=true) (hb:Binds X.K fd ps ds) (hd:Vals dvs ds) (hx:UB CX X E)
 (ha:PA X (e::es) t) (hdb:(x == ("__debug__" : Str))=false:=by decide) (he:starEach (e::es) X.env=(false,eval e X.env)::starEach es X.env:=by rfl) (hpl:(backTo pos (starEach es X.env)).any (·.1)=false:=by rfl) :
 PE X (.Call (.Name x p) (e::es) [] pos) (U5 sp dvs E t):=by
 intro pins s σ H Q I h;refine wpAny_Call_Name_kw (Uw I hg hm ?_ hdb);refine PySem.W.callWith_K (h₀:=X.base) I.ok.mod.kin hk (thn (ha pos pins s σ H _ I h) λus s1 ⟨vs,H1,I1,r,q⟩=>⟨I1.kIn,?_⟩) he hpl;exact Zgp F hr hb hd hx I1 r q
structure Mk(K:PySem.W.Frag)(C f:Addr):Prop where
 makes:PySem.W.makesIn K C=true
 init:PySem.W.findIn K (.ref C) "__init__" = some (some (.ref f))
 fn:PySem.W.isFn K (.ref f)=true
 kp:PySem.W.keepIn K (.ref C)=true
theorem ZfP {pins:List (Addr×Obj)} {σ:St} {H:Hp} {s:Shared} {Q:VK} {us:List Value} {vs:List V} (M:Mk X.K C f) (F:FnOk X.prog X.w X.K X.mg X.base CX k f fd ps sp) (hr:Room (k+1) X.A) (hb:Binds X.K fd ps ds) (hd:Vals dvs ds)
 (hx:UB CX X E) (I:Inv X pins σ H s) (r:Vals vs us)
 (h:∀x dx,H x=none->H dx=none->dx≠x->sp (.ref x::(vs++dvs)) (upd (upd H dx (.own x)) x (.ins C dx [])) (λv H2=>v = .non/\Q (.ref x) H2) E) :
 wpAny (model X.prog X.w) X.A (call (.ref C) us) (EP X pins σ Q) X.xe s:=by
 have hq:=h (s.heap.objs.size+1) s.heap.objs.size (I.hok.fresh (Nat.le_succ _)) (I.hok.fresh (Nat.le_refl _)) (Nat.ne_of_lt (Nat.lt_succ_self _));have I2:=Inv.made (C:=C) I;have r2:Vals (V.ref (s.heap.objs.size+1)::(vs++dvs)) (Value.ref (s.heap.objs.size+1)::(us++ds)) := .cons rfl (r.append hd)
 have hl:(Value.ref (s.heap.objs.size+1)::us++ds).length=ps.length:=by
  have e:=r2.length;rw [F.len _ _ _ _ hq]at e;exact e.symm
 refine wpAny_call (ZfO (f:=f) I.kIn M.makes M.init (beq_iff_eq.mp M.fn) (codeAny_mono (F.run _ X.stack _ _ ⟨Value.ref (s.heap.objs.size+1)::us,[]⟩ (Value.ref (s.heap.objs.size+1)::(us++ds)) _ _ E (hr.make C us [])
  (I2.env0.make C us []) (hb _ (Value.ref (s.heap.objs.size+1)::us) I2.kIn hl) r2 hq) λr s' hq' => ?_))
 cases r with
 |error e=>exact hx pins σ _ _ e s' I2 hq'
 |ok fl=>
  cases fl with
  |ret u=>
   obtain⟨v,H',I3,rv,ev,q3⟩:=I2.after hq';subst ev;exact⟨rv,⟨V.ref (s.heap.objs.size+1),H',I3,rfl,q3⟩⟩
  |next=>exact False.elim hq'
  |brk=>exact False.elim hq'
  |cont=>exact False.elim hq'
theorem Zhr (M:Mk X.K C f) (F:FnOk X.prog X.w X.K X.mg X.base CX k f fd ps sp) (hr:Room (k+1) X.A) (hg:Gl X x) (hm:X.mg x=some (.ref C)) (hb:Binds X.K fd ps ds) (hd:Vals dvs ds) (hx:UB CX X E)
 (ha:PA X (e::es) t) (hdb:(x == ("__debug__" : Str))=false:=by decide) (he:starEach (e::es) X.env=(false,eval e X.env)::starEach es X.env:=by rfl) (hpl:(backTo pos (starEach es X.env)).any (·.1)=false:=by rfl) :
 PE X (.Call (.Name x p) (e::es) [] pos) (Ziy C sp dvs E t):=by
 intro pins s σ H Q I h;refine wpAny_Call_Name_kw (Uw I hg hm ?_ hdb);refine PySem.W.callWith_K (h₀:=X.base) I.ok.mod.kin M.kp (thn (ha pos pins s σ H _ I h) λus s1 ⟨vs,H1,I1,r,q⟩=>⟨I1.kIn,?_⟩) he hpl;exact ZfP M F hr hb hd hx I1 r q
end
section
variable{X:Cx}{CX:CXT}{k:Nat}{f C:Addr}{fd:FuncData}{ps ks:List Str}{sp:Sp}{E:XK}{x m:Str}{p pos apos kpos:Pos}{e o:Expr}{es:List Expr}{kws:List Keyword}{te ta:TE}{t tk:TA}{nm:Option Str}
structure KBinds(K:PySem.W.Frag)(fd:FuncData)(ps ks:List Str)(g:List Value->List Value->List Value)(gV:List V->List V->List V):Prop where
 to:∀(s:Shared)(us ws:List Value),K.In s.heap->(g us ws).length=ps.length->BindsTo s fd ⟨us,ks.zip ws⟩ (ps.zip (g us ws))
 rel:∀{vs:List V}{us:List Value}{zs:List V}{ws:List Value},Vals vs us->Vals zs ws->Vals (gV vs zs) (g us ws)
variable{g:List Value->List Value->List Value}{gV:List V->List V->List V}
end
structure FnScope(N P:List Str)(sc:Scope):Prop where
 kind:sc.kind = .function
 co:sc.isCoroutine=false
 gen:sc.isGenerator=false
 nd:N.Nodup
 pre:N.take P.length=P
 par:∀x∈P,sc.names.lookup x=some .local\/sc.names.lookup x=some .cell
 nofree:∀y∈sc.names,y.2 ≠ .free
theorem ZbM{kindOf:Str->Option NameKind}{x:Str}:∀{binds:List (Str×Value)}{m:Str->Option Value},(∀v,(x,v)∉binds)->bindL kindOf binds m x=m x
 | [],_,_=>rfl
 |(n,v)::r,m,h=>by
  unfold bindL;rw [ZbM λw hw=>h w (List.mem_cons_of_mem _ hw)]
  split
  · have:x≠n:=by rintro rfl;exact h v List.mem_cons_self
    simp [this]
  · rfl
theorem ZbN{kindOf:Str->Option NameKind}{x:Str}:∀{binds:List (Str×Value)}{m:Str->Option Value},(∀v,(x,v)∉binds)->bindC kindOf binds m x=m x
 | [],_,_=>rfl
 |(n,v)::r,m,h=>by
  unfold bindC;rw [ZbN λw hw=>h w (List.mem_cons_of_mem _ hw)]
  split
  · rfl
  · have:x≠n:=by rintro rfl;exact h v List.mem_cons_self
    simp [this]
theorem ZbO{kindOf:Str->Option NameKind}{x:Str}{v:Value}:∀{P:List Str}{vs:List Value}{i:Nat}{m:Str->Option Value},P.Nodup->P[i]? = some x->vs[i]? = some v->kindOf x=some .local ->
 bindL kindOf (P.zip vs) m x=some v
 | [],_,_,_,_,h,_,_=>by simp at h
 |_::_,[],_,_,_,_,h,_=>by simp at h
 |p::P,w::vs,0,m,nd,h1,h2,hk=>by
  simp at h1 h2;subst h1;subst h2;show bindL kindOf ((p,w)::P.zip vs) m p=_;unfold bindL;rw [ZbM λv hv=>(List.nodup_cons.mp nd).1 (List.of_mem_zip hv).1,if_pos hk];simp
 |p::P,w::vs,i+1,m,nd,h1,h2,hk=>by
  show bindL kindOf ((p,w)::P.zip vs) m x=_;unfold bindL;exact ZbO (i:=i) (List.nodup_cons.mp nd).2 (by simpa using h1) (by simpa using h2) hk
theorem ZbP{kindOf:Str->Option NameKind}{x:Str}{v:Value}:∀{P:List Str}{vs:List Value}{i:Nat}{m:Str->Option Value},P.Nodup->P[i]? = some x->vs[i]? = some v->kindOf x≠some .local ->
 bindC kindOf (P.zip vs) m x=some v
 | [],_,_,_,_,h,_,_=>by simp at h
 |_::_,[],_,_,_,_,h,_=>by simp at h
 |p::P,w::vs,0,m,nd,h1,h2,hk=>by
  simp at h1 h2;subst h1;subst h2;show bindC kindOf ((p,w)::P.zip vs) m p=_;unfold bindC;rw [ZbN λv hv=>(List.nodup_cons.mp nd).1 (List.of_mem_zip hv).1,if_neg hk];simp
 |p::P,w::vs,i+1,m,nd,h1,h2,hk=>by
  show bindC kindOf ((p,w)::P.zip vs) m x=_;unfold bindC;exact ZbP (i:=i) (List.nodup_cons.mp nd).2 (by simpa using h1) (by simpa using h2) hk
def start(N:List Str)(vs:List V):St:=vs.map some++List.replicate (N.length-vs.length) none
def YU(CX:CXT)(P:Program)(w:World)(K:PySem.W.Frag)(mg:Str->Option Value)(base:Heap)(N:List Str)(qual:Str)(scope:Scope)(f:Addr)(cd:Value)(A:Around)(outer:List Env)(s:Shared)(H:Hp)(E:XK):Cx where
 prog:=P
 w:=w
 K:=K
 mg:=mg
 base:=base
 A:=A.deeper (envOfC qual scope s.heap.objs.size f cd)
 N:=N
 s₀:=s
 H₀:=H
 env:=envOfC qual scope s.heap.objs.size f cd
 outer:=outer
 stack:=envOfC qual scope s.heap.objs.size f cd::outer
 ex:=[]
 calm:=true
 fn:=λ_=>true
 pn:=[]
 xe:=λe s'=>wpAny (model P w) (A.deeper (envOfC qual scope s.heap.objs.size f cd)) (leaving (envOfC qual scope s.heap.objs.size f cd) e) (λ_ s''=>CX outer H s E e s'') (λe' s''=>CX outer H s E e' s'') s'
theorem Zc2{sc:Scope}{n:Nat}{x:Str}(h:sc.names.lookup x=some .cell):∃c,(cellsFrom n sc.names []).lookup x=some c:=by
 have q:=PySem.W.cellsFrom_some sc.names n [] (.inl h);exact Option.isSome_iff_exists.mp q
theorem Ze8 {CX:CXT} {P:Program} {w:World} {K:PySem.W.Frag} {mg:Str->Option Value} {base:Heap} {N ps:List Str} {qual:Str} {scope:Scope} {f:Addr} {cd:Value} {A:Around} {outer:List Env} {s s1:Shared} {H:Hp} {E:XK} {us:List Value} {vs:List V}
 (S:FnScope N ps scope) (hd:A.handled=none) (e0:Env0 P w K mg base A outer s H) (hl:vs.length=ps.length) (r:Vals vs us)
 (x:InCallC s s.heap.objs.size (bindL (envOfC qual scope s.heap.objs.size f cd).kindOf (ps.zip us) λ_=>none) (cellsFrom (s.heap.objs.size+1) scope.names []) (bindC (envOfC qual scope s.heap.objs.size f cd).kindOf (ps.zip us) λ_=>none) s1) :
 Inv (YU CX P w K mg base N qual scope f cd A outer s H E) [] (start N vs) H s1:=by
 have hpl:ps.length<=N.length:=by have:=congrArg List.length S.pre;rw [List.length_take]at this;omega
 obtain⟨h1,tk,rfl,hk⟩:=x.done;have noA:∀b:Addr,b∉(YU CX P w K mg base N qual scope f cd A outer s H E).ex:=λb z=>absurd (show b∈([]:List Addr)from z) (by simp)
 refine⟨⟨e0.mod,S.kind,rfl,rfl,Nat.le_refl _,λy z c h1 h2 => ?_,λy hy => ?_,λy c _ h => ?_,λ_=>hd,Around.frames_deeper e0.frames,.inr ⟨rfl,rfl⟩,λb z=>absurd z (noA b),e0.bs,e0.bsz,λb _ _=>noA b,λb z=>absurd z (noA b),e0.funs,e0.frf⟩,
  rfl,e0.bare,Un.kept hk,⟨_,x.toInCall.ns,λi y v h1 h2 h3 => ?_⟩,λy c h=>⟨_,x.cell y c h⟩,e0.hok.fresh (Nat.le_refl _),λy c h => ?_,λp hp=>absurd (show p∈([]:List (Addr×Obj))from hp) (by simp),e0.hok.kept hk,?_⟩
 · exact name_of_addr x.apart (PySem.mem_of_lookup h1) (PySem.mem_of_lookup h2)
 · have hy:scope.names.lookup y=some .cell\/scope.names.lookup y=some .free:=hy
   rcases hy with hy|hy
   · exact Zc2 hy
   · exact absurd rfl (S.nofree _ (PySem.mem_of_lookup hy))
 · exact Nat.le_of_lt (x.above y c (PySem.mem_of_lookup h))
 · have hi : i < vs.length := by
    unfold start at h2
    by_cases hi:i<vs.length
    · exact hi
    · rw [List.getElem?_append_right (by simpa using hi)]at h2
      rw [List.getElem?_replicate]at h2
      split at h2<;>cases h2
   have ha:vs[i]? = some v:=by
    unfold start at h2;rw [List.getElem?_append_left (by simpa using hi),List.getElem?_map]at h2;cases e:vs[i]? with
    |none=>rw [e]at h2;cases h2
    |some a=>rw [e]at h2;cases h2;rfl
   obtain⟨u,hu,rv⟩:=r.get ha
   have hp:ps[i]? = some y:=by
    rw [<-S.pre,List.getElem?_take_of_lt (by omega)];exact h1
   have ndP:ps.Nodup:=by rw [<-S.pre];exact S.nd.sublist (List.take_sublist _ _)
   refine⟨u,rv,?_⟩;rcases S.par y (List.mem_of_getElem? hp)with k|k
   · exact .inl ⟨k,ZbO ndP hp hu k⟩
   · obtain⟨c,e⟩:=Zc2 (n:=s.heap.objs.size+1) k
     refine .inr ⟨.inl k,c,e,?_⟩;have q:=x.cell y c e;rw [ZbP ndP hp hu (by show scope.names.lookup y≠_;rw [k];decide)]at q;exact q
 · exact e0.hok.fresh (Nat.le_of_lt (x.above y c (PySem.mem_of_lookup h)))
 · unfold start
   show _=N.length;rw [List.length_append,List.length_map,List.length_replicate];omega
theorem Zg9 {CX:CXT} {P:Program} {w:World} {K:PySem.W.Frag} {mg:Str->Option Value} {base:Heap} {k:Nat} {f:Addr} {name qual:Str} {params:Arguments} {body:List Stmt} {scope:Scope} {dV kV doc pm cdv ct oc:Value} {an od:Option Addr}
 {osl:Array (Option Value)} {N ps:List Str} {sp:Sp} (lk:K.lookup f=some ⟨oc,od,.func (fnOf name qual params body scope dV kV doc pm an cdv ct),osl⟩) (hcd:codeIn K cdv qual=true) (S:FnScope N ps scope)
 (len:∀vs H Q E,sp vs H Q E->vs.length=ps.length)
 (hbody:∀(A:Around)(outer:List Env)(s:Shared)(H:Hp)(vs:List V)(Q:VK)(E:XK),Room k (A.deeper (envOfC qual scope s.heap.objs.size f cdv))->sp vs H Q E ->
   ∃t,PSs (YU CX P w K mg base N qual scope f cdv A outer s H E) body t/\t { nx:=λ_ H'=>Q .non H',rt:=Q } (start N vs) H) :
 FnOk P w K mg base CX (k+1) f (fnOf name qual params body scope dV kV doc pm an cdv ct) ps sp:=by
 refine⟨len,λA outer s H args us vs Q E hr e0 hb r hsp => ?_⟩;have hl:=len _ _ _ _ hsp;have KX:K.In s.heap:=e0.mod.kin.keeps λb o e=>(e0.bs b o e).1
 have lim:s.heap.NoLimit:=e0.mod.nolimit.keeps λb o e=>(e0.bs b o e).1
 have hkind:∀y∈ps.zip us,scope.names.lookup y.1=some .local\/(scope.names.lookup y.1=some .cell/\((cellsFrom (s.heap.objs.size+1) scope.names []).lookup y.1).isSome=true):=λ⟨n,v⟩ hy=>by
  rcases S.par n (List.of_mem_zip hy).1 with q|q
  · exact .inl q
  · exact .inr ⟨q,PySem.W.cellsFrom_some _ _ _ (.inl q)⟩
 refine codeAny_call_function hr.depth (KX _ _ lk) rfl S.co S.gen rfl (PySem.W.codeRec_of KX hcd) (hb _ _ _ _ ?_);refine wpAny_newFunctionEnv_cells S.kind hkind λenv he s1 x => ?_
 subst he;refine⟨lim.keeps x.toInCall.keep,codeAny_func ?_⟩;obtain⟨t,ht,hq⟩:=hbody A outer s H vs Q E (hr.deeper _) hsp;have I:Inv (YU CX P w K mg base N qual scope f cdv A outer s H E) [] (start N vs) H s1:=Ze8 S hr.hd e0 hl r x;refine wpAny_mono (ht [] s1 (start N vs) H _ I hq) (λfl s' hs => ?_) λe s' hs=>hs
 have fin:∀{σ':St}{H':Hp}{v:V}{u:Value},Inv (YU CX P w K mg base N qual scope f cdv A outer s H E) [] σ' H' s'->RelV v u->Q v H'->CE outer P w H s Q u s':=
  λ{σ' H' v u} J rv q=>⟨v,H',J.os,J.bare,J.base,J.hok,rv,q⟩
 cases fl with
 |ret u=>
  obtain⟨v,σ',H',J,rv,q⟩:=hs;exact fin J rv q
 |next=>
  obtain⟨σ',H',J,q⟩:=hs;exact fin (v:=V.non) (u:=Value.none) J rfl q
 |brk=>
  obtain⟨_,_,_,q⟩:=hs;exact False.elim q
 |cont=>
  obtain⟨_,_,_,q⟩:=hs;exact False.elim q
end L2
namespace L2
open PySem PySem.Spec PyProof.Rows
section
variable{X:Cx}{x:Str}{p pos:Pos}{e:Expr}{es:List Expr}{t:TA}{id T:String}{r:List V->Hp->VK->Prop}
def tCB(r:List V->Hp->VK->Prop)(t:TA):TE:=λσ H Q=>t σ H λvs H1=>r vs H1 Q
theorem ZZ (hc:YI X (.builtin id) r) (hg:Gl X x) (hm:X.mg x=none) (hv:bootBuiltins x=some (.builtin id)) (ha:PA X (e::es) t) (hn:x ≠ "__name__" := by decide) (hdb:(x == ("__debug__" : Str))=false:=by decide)
 (he:starEach (e::es) X.env=(false,eval e X.env)::starEach es X.env:=by rfl) (hpl:(backTo pos (starEach es X.env)).any (·.1)=false:=by rfl):PE X (.Call (.Name x p) (e::es) [] pos) (tCB r t):=by
 intro pins s σ H Q I h;refine wpAny_Call_Name_kw (U0 I hg hm hv ?_ hn hdb);exact PyProof.Rows.callWith_builtin1 (thn (ha pos pins s σ H _ I h) λus s1 ⟨vs,H1,I1,r1,q1⟩=>hc pins s1 σ H1 vs us Q I1 r1 q1) he hpl
theorem Xv (hc:YI X (.type T) r) (hg:Gl X x) (hm:X.mg x=none) (hv:bootBuiltins x=some (.type T)) (ha:PA X (e::es) t) (hn:x ≠ "__name__" := by decide) (hdb:(x == ("__debug__" : Str))=false:=by decide)
 (he:starEach (e::es) X.env=(false,eval e X.env)::starEach es X.env:=by rfl) (hpl:(backTo pos (starEach es X.env)).any (·.1)=false:=by rfl):PE X (.Call (.Name x p) (e::es) [] pos) (tCB r t):=by
 intro pins s σ H Q I h;refine wpAny_Call_Name_kw (U0 I hg hm hv ?_ hn hdb);exact PyProof.Rows.callWith_type1 (thn (ha pos pins s σ H _ I h) λus s1 ⟨vs,H1,I1,r1,q1⟩=>hc pins s1 σ H1 vs us Q I1 r1 q1) he hpl
end
end L2
namespace HT
open PySem PyProof.Rows
section
open PySem.SeqAt
open PySem.AutoSeq1 (wpAny_loadPart')
open PySem.MeetsSeq PySem.MeetsSeq2 PySem.MeetsSeq3
end
section
variable{prog:Program}{w:World}{A:Around}{E:Value->Shared->Prop}{s:Shared}
def sIx(n d:Nat):Option Int->Nat
 |none=>d
 |some v=>if v<0 then(v+(n:Int)).toNat else min v.toNat n
theorem Zjd(n d:Nat)(hd:d<=n)(o:Option Int):sIx n d o<=n:=by
 cases o with
 |none=>exact hd
 |some v=>
  show(if v<0 then(v+(n:Int)).toNat else min v.toNat n)<=n
  by_cases hv:v<0
  · rw [if_pos hv];omega
  · rw [if_neg hv];exact Nat.min_le_right _ _
theorem Zev(v:Int)(n d:Nat):(if v<0 then max (v+(n:Int)) 0 else min v (n:Int))=((sIx n d (some v):Nat):Int):=by
 show(if v<0 then max (v+(n:Int)) 0 else min v (n:Int))=(((if v<0 then(v+(n:Int)).toNat else min v.toNat n):Nat):Int)
 by_cases hv:v<0
 · simp only [if_pos hv];omega
 · simp only [if_neg hv];omega
theorem ZdL(lo hi:Option Int)(n:Nat):Builtin.Slice.sliceAdjust lo hi 1 (n:Int)=(((sIx n 0 lo:Nat):Int),((sIx n n hi:Nat):Int)):=by
 have h1:¬((1:Int)<0):=by omega
 unfold Builtin.Slice.sliceAdjust;simp only [h1,if_false];refine Prod.ext ?_ ?_
 · cases lo with
   |none=>rfl
   |some v=>exact Zev v n 0
 · cases hi with
   |none=>rfl
   |some v=>exact Zev v n n
theorem ZdM(i j:Nat):Builtin.Slice.slicePlaces (i:Int) (j:Int) 1=j-i:=by
 unfold Builtin.Slice.slicePlaces;have h1:(1:Int)>0:=by omega
 simp only [h1,if_true,Int.ediv_one]
 split<;>omega
theorem Za3{v:Value}{o:Option Int}{Q:Option Int->Shared->Prop}(p:IsPart v o)(h:Q o s):wpAny (model prog w) A (Builtin.Slice.slicePartIndex v) Q E s:=by
 cases p with
 |none=>exact slicePart_none h
 |int i t=>exact slicePart_int h
theorem ZaA {sl:Addr} {vl vu:Value} {lo hi:Option Int} {n:Nat} {Q:Int×Int×Nat->Shared->Prop} (hs:s.heap.IsSliceOf sl vl vu .none) (pl:IsPart vl lo) (pu:IsPart vu hi)
 (h:Q (((sIx n 0 lo:Nat):Int),1,sIx n n hi-sIx n 0 lo) s):wpAny (model prog w) A (Builtin.Slice.sliceApplied (.ref sl) (pure (n:Int))) Q E s:=by
 obtain⟨os,hos,hcs,hds⟩:=id hs;unfold Builtin.Slice.sliceApplied Builtin.Slice.sliceFields;refine wpAny_bind (wpAny_bind (wpAny_field hos hds (x:=vl) rfl (wpAny_bind (wpAny_field hos hds (x:=vu) rfl (wpAny_bind (wpAny_field hos hds (x:=.none) rfl (wpAny_pure ?_)))))));refine wpAny_bind (slicePart_none ?_);show wpAny _ _ (if((1:Int) == 0)=true then _ else _) _ _ s;rw [if_neg (by decide)]
 refine wpAny_bind (Za3 pl (wpAny_bind (Za3 pu (wpAny_bind (wpAny_pure ?_)))));show wpAny _ _ (match Builtin.Slice.sliceAdjust lo hi 1 (n:Int)with|(lo,hi)=>pure (lo,(1:Int),Builtin.Slice.slicePlaces lo hi 1)) _ _ s;rw [ZdL lo hi n];show wpAny _ _ (pure (((sIx n 0 lo:Nat):Int),(1:Int),Builtin.Slice.slicePlaces ((sIx n 0 lo:Nat):Int) ((sIx n n hi:Nat):Int) 1)) _ _ s;rw [ZdM]
 exact wpAny_pure h
theorem ZfQ(xs:Array Value)(i k:Nat):((List.range k).filterMap λ(m:Nat)=>xs[((i:Int)+(m:Int)*1).toNat]?).toArray=((xs.toList.drop i).take k).toArray:=by
 have e:(λ(m:Nat)=>xs[((i:Int)+(m:Int)*1).toNat]?)=λm=>xs[i+m]? := by
  funext m
  have:((i:Int)+(m:Int)*1).toNat=i+m:=by omega
  rw [this]
 rw [e];have:=pick_run xs i k;rw [List.filterMap_map]at this;have e2:((λx=>xs[x]?)∘λx=>i+x)=λm=>xs[i+m]? := rfl
 rw [e2]at this;rw [this]
theorem getItem_tuple_cut {t sl:Addr} {items:Array Value} {vl vu:Value} {lo hi:Option Int} {Q:Value->Shared->Prop} (ht:IsTup s.heap t items) (hs:s.heap.IsSliceOf sl vl vu .none) (pl:IsPart vl lo) (pu:IsPart vu hi)
 (hw:¬(sIx items.size 0 lo=0/\sIx items.size items.size hi=items.size))
 (h:Q (.ref s.heap.objs.size) { s with heap:=s.heap.push { cls := .type "tuple",data := .seq ((items.toList.drop (sIx items.size 0 lo)).take (sIx items.size items.size hi-sIx items.size 0 lo)).toArray } })
 (hsz:items.size<=sizeLine):wpAny (model prog w) A (getItem (.ref t) (.ref sl)) Q E s:=by
 have htake:sizeOk (.seq ((items.toList.drop (sIx items.size 0 lo)).take (sIx items.size items.size hi-sIx items.size 0 lo)).toArray):=by
  show((items.toList.drop (sIx items.size 0 lo)).take (sIx items.size items.size hi-sIx items.size 0 lo)).toArray.size<=sizeLine;rw [List.size_toArray,List.length_take,List.length_drop,Array.length_toList];omega
 have hj:sIx items.size items.size hi<=items.size:=Zjd _ _ (Nat.le_refl _) hi;obtain⟨os,hos,hcs,hds⟩:=id hs;have hTs:s.TypeIs (.ref sl) "slice" := ⟨os,hos,hcs⟩
 unfold getItem
 try with_reducible refine wpAny_holding ?_
 first|refine wpAny_bind (wpAny_pure ?_)|skip
 refine wpAny_bind (wpAny_sequenceKey ht.typeIs (by decide) ?_)
 refine wpAny_bind (wpAny_callSpecial?_slot (name:=Str.ofString "__getitem__") ht.typeIs PyProof.Rows.slot_tuple_getitem
  (wpAny_call_entry PyProof.Rows.slot_tuple_getitem ht.typeIs entry_tuple_getitem ?_ (args_tuple_getitem _ _)))
 show wpAny _ _ (Builtin.Tuple.tupleItemsOf (.ref t) >>= _) _ _ s;refine wpAny_bind (tupleItemsOf_ ht ?_);refine wpAny_bind (wpAny_typeOf hTs ?_);rw [if_pos (by decide)];refine wpAny_bind (ZaA hs pl pu ?_)
 have hno:¬((((sIx items.size 0 lo:Nat):Int) == 0&&(1:Int) == 1&&(sIx items.size items.size hi-sIx items.size 0 lo) == items.size)=true):=by
  intro q;rw [Bool.and_eq_true,Bool.and_eq_true]at q;have q1:((sIx items.size 0 lo:Nat):Int)=0:=eq_of_beq q.1.1;have q2:sIx items.size items.size hi-sIx items.size 0 lo=items.size:=eq_of_beq q.2;exact hw ⟨by omega,by omega⟩
 show wpAny _ _ (if(((sIx items.size 0 lo:Nat):Int) == 0&&(1:Int) == 1&&(sIx items.size items.size hi-sIx items.size 0 lo) == items.size)=true then _ else _) _ _ s;rw [if_neg hno,ZfQ]
 first
  |exact wpAny_bind (m:=Builtin.Tuple.tupleExact _) (wpAny_newObj_type (wpAny_pure ⟨_,rfl,wpAny_pure h⟩) htake)
  |exact wpAny_bind (m:=Builtin.Tuple.tupleExact _) (wpAny_newObj_type (wpAny_bind (wpAny_pure (wpAny_pure ⟨_,rfl,wpAny_pure h⟩))) htake)
  |exact wpAny_bind (wpAny_bind (m:=Builtin.Tuple.tupleExact _) (wpAny_newObj_type (wpAny_pure (wpAny_pure ⟨_,rfl,wpAny_pure h⟩)) htake))
  |exact wpAny_bind (wpAny_bind (m:=Builtin.Tuple.tupleExact _) (wpAny_newObj_type (wpAny_pure ⟨_,rfl,wpAny_pure h⟩) htake))
end
end HT
namespace L2
open PySem PySem.Spec PyProof.Rows
abbrev TO:=St->Hp->(Option Int->Hp->Prop)->Prop
def PO(X:Cx)(e:Option Expr)(t:TO):Prop:=
 ∀(pins:List (Addr×Obj))(s:Shared)(σ:St)(H:Hp)(Q:Option Int->Hp->Prop),Inv X pins σ H s->t σ H Q ->
  wpAny (model X.prog X.w) X.A (evalPart e X.env) (λu s'=>∃o H',Inv X pins σ H' s'/\IsPart u o/\Q o H') X.xe s
def tNoPart:TO:=λ_ H Q=>Q none H
def Ziz(t:TE):TO:=λσ H Q=>t σ H λx H1=>∃i,x = .int i/\Q (some i) H1
section
variable{X:Cx}{e:Expr}{te:TE}{lo hi:Option Expr}{tl th:TO}{pos p2:Pos}
theorem XI:PO X none tNoPart:=by
 intro pins s σ H Q I h;rw [evalPart_none];exact wpAny_pure ⟨none,H,I,.none,h⟩
theorem XJ(h:PE X e te):PO X (some e) (Ziz te):=by
 intro pins s σ H Q I hw;rw [evalPart_some];refine thn (h pins s σ H _ I hw) λu s1 ⟨x,H1,I1,r1,q1⟩ => ?_
 obtain⟨i,rfl,q⟩:=q1;obtain⟨t,rfl⟩:=r1;exact⟨some i,H1,I1,.int i t,q⟩
def SlR(X:Cx)(r:V->Option Int->Option Int->Hp->VK->Prop):Prop:=
 ∀(pins:List (Addr×Obj))(s:Shared)(σ:St)(H:Hp)(x:V)(v vl vu:Value)(lo hi:Option Int)(sl:Addr)(Q:VK),Inv X pins σ H s->RelV x v->s.heap.IsSliceOf sl vl vu .none->IsPart vl lo->IsPart vu hi->r x lo hi H Q ->
  ∃T id,typeLookup (.type T) "__getitem__" = pure (some (.builtin id))/\s.TypeIs v T/\wpAny (model X.prog X.w) X.A (getItem v (.ref sl)) (EP X pins σ Q) X.xe s
theorem SlR.or{r r':V->Option Int->Option Int->Hp->VK->Prop}(h:SlR X r)(h':SlR X r'):SlR X (λx lo hi H Q=>r x lo hi H Q\/r' x lo hi H Q):=by
 intro pins s σ H x v vl vu lo hi sl Q I rx hs pl pu q;rcases q with q|q
 · exact h pins s σ H x v vl vu lo hi sl Q I rx hs pl pu q
 · exact h' pins s σ H x v vl vu lo hi sl Q I rx hs pl pu q
def tSl(r:V->Option Int->Option Int->Hp->VK->Prop)(te:TE)(tl th:TO):TE:=λσ H Q=>te σ H λx H1=>tl σ H1 λl H2=>th σ H2 λu H3=>r x l u H3 Q
theorem XM{r:V->Option Int->Option Int->Hp->VK->Prop}(hr:SlR X r)(he:PE X e te)(hl:PO X lo tl)(hu:PO X hi th):PE X (.Subscript e (.Slice lo hi none p2) pos) (tSl r te tl th):=by
 intro pins s σ H Q I h;refine Subscript_ (thn (he pins s σ H _ I h) λv s1 ⟨x,H1,I1,r1,q1⟩ => ?_);refine wpAny_Slice (thn (hl pins s1 σ H1 _ I1 q1) λvl s2 ⟨l,H2,I2,pl,q2⟩=>thn (hu pins s2 σ H2 _ I2 q2) λvu s3 ⟨u,H3,I3,pu,q3⟩ => ?_);rw [evalPart_none];refine wpAny_pure ?_;have I4:Inv X pins σ H3 { s3 with heap:=s3.heap.push { cls := .type "slice",data := .fields #[vl,vu,.none] } }:=I3.kept (t':=s3.toks) λb ob q=>Heap.get?_push_of_some _ q
 obtain⟨T,id,hT,ht,hg⟩:=hr pins { s3 with heap:=s3.heap.push { cls := .type "slice",data := .fields #[vl,vu,.none] } } σ H3 x v vl vu l u s3.heap.objs.size Q I4 r1 (Heap.IsSliceOf.new ..) pl pu q3;show wpAny (model X.prog X.w) X.A (subscriptTail e (.Slice lo hi none p2) v (.ref s3.heap.objs.size)) (EP X pins σ Q) X.xe { s3 with heap:=s3.heap.push { cls := .type "slice",data := .fields #[vl,vu,.none] } }
 exact tail_any (ops:=[.ref s3.heap.objs.size,v]) ht hT hg (by with_unfolding_all rfl)
def V9(xs:List V)(lo hi:Option Int):List V:=(xs.drop (HT.sIx xs.length 0 lo)).take (HT.sIx xs.length xs.length hi-HT.sIx xs.length 0 lo)
theorem ZaY(xs:List V)(lo hi:Option Int):(V9 xs lo hi).length<=xs.length:=by
 unfold V9;rw [List.length_take,List.length_drop];omega
def ZmJ(K:PySem.W.Frag):V->Option Int->Option Int->Hp->VK->Prop:=λx lo hi H Q=>∃a xs,x = .ref a/\SqT K H a xs /\
 ¬(HT.sIx xs.length 0 lo=0/\HT.sIx xs.length xs.length hi=xs.length)/\∀p,H p=none->Q (.ref p) (upd H p (.tup (V9 xs lo hi)))
theorem Zje:SlR X (ZmJ X.K):=by
 intro pins s σ H x v vl vu lo hi sl Q I rx hs pl pu h;obtain⟨a,xs,rfl,hx,hw,q⟩:=h;cases rx;obtain⟨its,r,ht,hz⟩:=I.tuple hx;have hlen:its.toArray.size=xs.length:=by rw [List.size_toArray];exact r.length.symm
 refine⟨"tuple",_,PyProof.Rows.slot_tuple_getitem.lookup,ht.typeIs,?_⟩;refine HT.getItem_tuple_cut ht hs pl pu (by rw [hlen];exact hw) ?_ (by rw [hlen];exact hz);rw [hlen];refine⟨.ref s.heap.objs.size,_,I.laid (t':=s.toks) (o:=.tup (V9 xs lo hi)) (λb ob q=>Heap.get?_push_of_some _ q) (Nat.le_refl _) ?_,rfl,q _ (I.hok.fresh (Nat.le_refl _))⟩;exact⟨Nat.le_trans (ZaY xs lo hi) hz,_,(r.drop (HT.sIx xs.length 0 lo)).take (HT.sIx xs.length xs.length hi-HT.sIx xs.length 0 lo),TupN.new _ _⟩
end
end L2
namespace L2
open PySem PySem.Spec PyProof.Rows
def ixN(n:Nat)(i:Int):Option Nat:=if 0<=i then(if i<n then some i.toNat else none)else if -(n:Int)<=i then some (i+n).toNat else none
def atI{α:Type}(xs:List α)(i:Int):Option α:=(ixN xs.length i).bind λj=>xs[j]?
theorem Zhs{n:Nat}{i:Int}{j:Nat}(h:ixN n i=some j):seqIndex? i n=some j/\j<n /\ -(n:Int)<=i/\i<n:=by
 unfold ixN at h
 by_cases h0:0<=i
 · rw [if_pos h0]at h
   by_cases h1:i<n
   · rw [if_pos h1]at h
     have e:i.toNat=j:=Option.some.inj h;exact⟨by rw [seqIndex_of h0 h1,e],by omega,by omega,h1⟩
   · rw [if_neg h1]at h;cases h
 · rw [if_neg h0]at h
   by_cases h1 : -(n:Int)<=i
   · rw [if_pos h1]at h
     have e:(i+n).toNat=j:=Option.some.inj h;exact⟨by rw [seqIndex_neg (by omega) h1,e],by omega,h1,by omega⟩
   · rw [if_neg h1]at h;cases h
theorem Zcr{α:Type}{xs:List α}{i:Int}{v:α}(h:atI xs i=some v):∃j,seqIndex? i xs.length=some j/\xs[j]? = some v/\j<xs.length /\ -(xs.length:Int)<=i/\i<xs.length:=by
 unfold atI at h;cases e:ixN xs.length i with
 |none=>rw [e]at h;cases h
 |some j=>
  rw [e]at h;obtain⟨h1,h2,h3,h4⟩:=Zhs e;exact⟨j,h1,h,h2,h3,h4⟩
theorem JV{α:Type}{xs:List α}{j:Nat}{v:α}(h:xs[j]? = some v):atI xs (j:Int)=some v:=by
 have hj:j<xs.length:=(List.getElem?_eq_some_iff.mp h).1
 have e:ixN xs.length (j:Int)=some j:=by
  unfold ixN;rw [if_pos (by omega),if_pos (by omega)];simp
 unfold atI;rw [e];exact h
def Zht(b:Expr):Prop:=∀o i,subscripted b false o i=operate [o,i] (getItem o i)
def IxR(X:Cx)(r:R2):Prop:=
 ∀(value slice:Expr)(pins:List (Addr×Obj))(s:Shared)(σ:St)(H:Hp)(x y:V)(v u:Value)(Q:VK),Inv X pins σ H s->RelV x v->RelV y u->r x y H Q ->
  subscripted slice false v u=operate [v,u] (getItem v u)->wpAny (model X.prog X.w) X.A (subscriptTail value slice v u) (EP X pins σ Q) X.xe s
def MtR(X:Cx)(id:String)(r:V->List V->Hp->VK->Prop):Prop:=
 ∀(pins:List (Addr×Obj))(s:Shared)(σ:St)(H:Hp)(x:V)(xs:List V)(v:Value)(us:List Value)(Q:VK),Inv X pins σ H s->RelV x v->Vals xs us->r x xs H Q ->
  wpAny (model X.prog X.w) X.A (call (.builtin id) (v::us)) (EP X pins σ Q) X.xe s
section
variable{X:Cx}{a b:Expr}{ta tb:TE}{pos:Pos}
theorem IxR.or{r r':R2}(h:IxR X r)(h':IxR X r'):IxR X (λx y H Q=>r x y H Q\/r' x y H Q):=by
 intro value slice pins s σ H x y v u Q I rx ry q hs;rcases q with q|q
 · exact h value slice pins s σ H x y v u Q I rx ry q hs
 · exact h' value slice pins s σ H x y v u Q I rx ry q hs
theorem ZC{r:R2}(hr:IxR X r)(ha:PE X a ta)(hb:PE X b tb)(hs:Zht b):PE X (.Subscript a b pos) (tOp r ta tb):=by
 intro pins s σ H Q I h;exact Subscript_ (ZkR ha hb I h λv u s2 x y H2 I2 rx ry q=>hr a b pins s2 σ H2 x y v u Q I2 rx ry q (hs _ _))
def ZmK(K:PySem.W.Frag):R2:=λx y H Q=>∃p xs i v,x = .ref p/\y = .int i/\SqL K H p xs/\atI xs i=some v/\Q v H
def ZmL(K:PySem.W.Frag):R2:=λx y H Q=>∃p xs i v,x = .ref p/\y = .int i/\SqT K H p xs/\atI xs i=some v/\Q v H
def rIxS:R2:=λx y H Q=>∃z i c,x = .str z/\y = .int i/\z.length<=sizeLine/\atI z.cps.toList i=some c/\Q (.str ⟨#[c]⟩) H
theorem ix_list:IxR X (ZmK X.K):=by
 intro value slice pins s σ H x y v u Q I rx ry h hs;obtain⟨p,xs,i,z,rfl,rfl,hq,he,q⟩:=h;cases rx;obtain⟨t,rfl⟩:=ry;obtain⟨its,r,pl,hz⟩:=I.list hq;obtain⟨j,h1,h2,h3,h4,h5⟩:=Zcr he;obtain⟨w,ew,rw'⟩:=r.get h2;have hl:=r.length;have hn:=QQ;have fin:EP X pins σ Q w s:=⟨z,H,I,rw',q⟩
 by_cases h0:0<=i
 · have hj : i.toNat = j := by
    rw [seqIndex_of h0 h5]at h1;exact Option.some.inj h1
   exact item_listR pl.isList h0 (by omega) (by rw [hj];simpa using ew) fin hs
 · have hj : (i + (its.toArray.size : Int)).toNat = j := by
    rw [seqIndex_neg (by omega) h4]at h1;rw [List.size_toArray,<-hl];exact Option.some.inj h1
   exact subscriptTail_builtinR (x:=w) pl.isList.typeIs slot_list_getitem.lookup
    (wpAny_getItem_list_neg (Q:=λr s'=>r=w/\EP X pins σ Q r s') pl.isList (by omega) (by rw [List.size_toArray]<;>omega) (by omega) (by rw [hj];simpa using ew) ⟨rfl,fin⟩) hs
theorem ix_tup:IxR X (ZmL X.K):=by
 intro value slice pins s σ H x y v u Q I rx ry h hs;obtain⟨p,xs,i,z,rfl,rfl,hq,he,q⟩:=h;cases rx;obtain⟨t,rfl⟩:=ry;obtain⟨its,r,pl,hz⟩:=I.tuple hq;obtain⟨j,h1,h2,h3,h4,h5⟩:=Zcr he;obtain⟨w,ew,rw'⟩:=r.get h2;have hl:=r.length;have hn:=QQ;have fin:EP X pins σ Q w s:=⟨z,H,I,rw',q⟩
 exact subscriptTail_builtinR (x:=w) pl.typeIs slot_tuple_getitem.lookup
  (getItem_tuple (j:=j) (Q:=λr s'=>r=w/\EP X pins σ Q r s') pl (by omega) (by omega) (by rw [List.size_toArray,<-hl];exact h1) (by simpa using ew) ⟨rfl,fin⟩) hs
theorem ix_str:IxR X rIxS:=by
 intro value slice pins s σ H x y v u Q I rx ry h hs;obtain⟨z,i,c,rfl,rfl,hz,he,q⟩:=h;obtain⟨t,rfl⟩:=rx;obtain⟨t',rfl⟩:=ry;obtain⟨j,h1,h2,h3,h4,h5⟩:=Zcr he;have hl:z.cps.toList.length=z.length:=by simp [Str.length]
 rw [hl]at h1 h4 h5;have hn:=QQ
 exact tail_any (typeIs_str s z t) slot_str_getitem.lookup (getItem_str (c:=c) (by
  have e1:decide (i < -(2 ^ 63:Int))=false:=decide_eq_false (by omega);have e2:decide (i ≥ 2 ^ 63)=false:=decide_eq_false (by omega);rw [e1,e2,Bool.or_false]) (by rw [h1];simpa using h2) ⟨.str ⟨#[c]⟩,H,I.tok _,⟨_,rfl⟩,q⟩) hs
theorem Inv.lst{pins:List (Addr×Obj)}{σ:St}{H:Hp}{s:Shared}{p:Addr}{xs:List V}(I:Inv X pins σ H s)(h:H p=some (.lst xs)) :
 ∃(its:List Value) (n:Nat),Vals xs its/\s.heap.get? p=some { cls := .type "list",data := .seq its.toArray n }/\xs.length<=sizeLine:=by
 obtain⟨z,its,n,r,e⟩:=I.hok p _ h;exact⟨its,n,r,e,z⟩
theorem Zci(lo hi:Option Int)(n:Nat):(sliceBounds lo hi none n).1=((HT.sIx n 0 lo:Nat):Int)/\(sliceBounds lo hi none n).2.1=((HT.sIx n n hi:Nat):Int)/\(sliceBounds lo hi none n).2.2=1:=by
 refine⟨?_,?_,rfl⟩
 · cases lo with
   |none=>simp [sliceBounds,HT.sIx]
   |some i=>
    simp only [sliceBounds,HT.sIx,Option.getD_none,show(1:Int)>0 by decide,if_true]
    by_cases h:i<0
    · simp only [h,if_true]<;>omega
    · simp only [h,if_false]<;>omega
 · cases hi with
   |none=>simp [sliceBounds,HT.sIx]
   |some i=>
    simp only [sliceBounds,HT.sIx,Option.getD_none,show(1:Int)>0 by decide,if_true]
    by_cases h:i<0
    · simp only [h,if_true]<;>omega
    · simp only [h,if_false]<;>omega
theorem ZbG(its:List Value)(lo hi:Option Int):slicePick its.toArray lo hi none=((its.drop (HT.sIx its.length 0 lo)).take (HT.sIx its.length its.length hi-HT.sIx its.length 0 lo)).toArray:=by
 obtain⟨h1,h2,h3⟩:=Zci lo hi its.toArray.size;unfold slicePick;rw [h1,h2,h3];simp only [sliceRange_one,pick_run,List.size_toArray]<;>rfl
def ZmM(K:PySem.W.Frag):V->Option Int->Option Int->Hp->VK->Prop:=λx lo hi H Q=>∃a xs,x = .ref a/\SqL K H a xs/\∀p,H p=none->Q (.ref p) (upd H p (.lst (V9 xs lo hi)))
theorem sl_list:SlR X (ZmM X.K):=by
 intro pins s σ H x v vl vu lo hi sl Q I rx hs pl pu h;obtain⟨a,xs,rfl,hx,q⟩:=h;cases rx;obtain⟨its,r,ht,hz⟩:=I.list hx;have hlen:=r.length;refine⟨"list",_,slot_list_getitem.lookup,ht.isList.typeIs,?_⟩;refine wpAny_getItem_list_slice ht.isList hs pl pu .none (by simp) ?_ (by rw [List.size_toArray]<;>omega);rw [ZbG,<-hlen];refine⟨.ref s.heap.objs.size,_,I.laid (t':=s.toks) (o:=.lst (V9 xs lo hi)) (λb ob q=>Heap.get?_push_of_some _ q) (Nat.le_refl _) ?_,rfl,q _ (I.hok.fresh (Nat.le_refl _))⟩
 exact⟨Nat.le_trans (ZaY xs lo hi) hz,_,0,(r.drop (HT.sIx xs.length 0 lo)).take (HT.sIx xs.length xs.length hi-HT.sIx xs.length 0 lo),Heap.get?_push_size _ rfl⟩
def Vm:V->Bool
 | .non=>true
 | .bl _=>true
 | .int _=>true
 | .str _=>true
 |_=>false
def eqV:V->V->Bool
 | .non,.non=>true
 | .bl a,.bl b=>a == b
 | .bl a,.int b=>(if a then 1 else 0) == b
 | .int a,.bl b=>a == (if b then 1 else 0)
 | .int a,.int b=>a == b
 | .str a,.str b=>a == b
 |_,_=>false
theorem Zjf{A:Around}{s:Shared}{y x:V}{u v:Value}(ry:RelV y u)(rx:RelV x v)(fy:Vm y=true)(fx:Vm x=true):SeqAt.EqAt A s u v (eqV y x):=by
 cases y with
 |non=>
  cases ry;cases x with
  |non=>cases rx;exact SeqAt.EqAt.same _
  |bl b=>cases rx;exact SeqAt.EqAt.none_bool b
  |int b=>obtain⟨t,rfl⟩:=rx;exact SeqAt.EqAt.none_int b t
  |str b=>obtain⟨t,rfl⟩:=rx;exact SeqAt.EqAt.none_str b t
  |_=>exact absurd (show false=true from fx) Bool.false_ne_true
 |bl a=>
  cases ry;cases x with
  |non=>cases rx;exact SeqAt.EqAt.bool_none a
  |bl b=>cases rx;exact SeqAt.EqAt.bool_bool a b
  |int b=>obtain⟨t,rfl⟩:=rx;exact SeqAt.EqAt.bool_int a b t
  |str b=>obtain⟨t,rfl⟩:=rx;exact SeqAt.EqAt.bool_str a b t
  |_=>exact absurd (show false=true from fx) Bool.false_ne_true
 |int a=>
  obtain⟨t',rfl⟩:=ry;cases x with
  |non=>cases rx;exact SeqAt.EqAt.int_none a t'
  |bl b=>cases rx;exact SeqAt.EqAt.int_bool a t' b
  |int b=>obtain⟨t,rfl⟩:=rx;exact SeqAt.EqAt.int_int a t' b t
  |str b=>obtain⟨t,rfl⟩:=rx;exact SeqAt.EqAt.int_str a t' b t
  |_=>exact absurd (show false=true from fx) Bool.false_ne_true
 |str a=>
  obtain⟨t',rfl⟩:=ry;cases x with
  |non=>cases rx;exact SeqAt.EqAt.str_none a t'
  |bl b=>cases rx;exact SeqAt.EqAt.str_bool a t' b
  |int b=>obtain⟨t,rfl⟩:=rx;exact SeqAt.EqAt.str_int a t' b t
  |str b=>obtain⟨t,rfl⟩:=rx;exact SeqAt.EqAt.str_str a t' b t
  |_=>exact absurd (show false=true from fx) Bool.false_ne_true
 |_=>exact absurd (show false=true from fy) Bool.false_ne_true
def eqU(x:V)(u:Value):Bool:=match u with
 | .none=>eqV .non x
 | .bool b=>eqV (.bl b) x
 | .int i _=>eqV (.int i) x
 | .str z _=>eqV (.str z) x
 |_=>false
theorem Zgq{x y:V}{u:Value}(r:RelV y u)(f:Vm y=true):eqU x u=eqV y x:=by
 cases y with
 |non=>cases r;rfl
 |bl b=>cases r;rfl
 |int i=>obtain⟨t,rfl⟩:=r;rfl
 |str z=>obtain⟨t,rfl⟩:=r;rfl
 |_=>exact absurd (show false=true from f) Bool.false_ne_true
theorem QT{x:V}:∀{xs:List V}{us:List Value},Vals xs us->xs.all Vm=true->us.any (eqU x)=xs.any λy=>eqV y x
 |_,_,.nil,_=>rfl
 |y::xs,u::us,.cons r t,f=>by
  rw [List.all_cons,Bool.and_eq_true]at f;rw [List.any_cons,List.any_cons,Zgq r f.1,QT t f.2]
theorem QU{A:Around}{s:Shared}{x:V}{v:Value}(rx:RelV x v)(fx:Vm x=true):∀{xs:List V}{us:List Value},Vals xs us->xs.all Vm=true->∀u∈us,SeqAt.EqAt A s u v (eqU x u)
 |_,_,.nil,_=>λu hu=>by cases hu
 |y::xs,u::us,.cons r t,f=>λu' hu=>by
  rw [List.all_cons,Bool.and_eq_true]at f;rcases List.mem_cons.mp hu with rfl|hu
  · rw [Zgq r f.1];exact Zjf r rx f.1 fx
  · exact QU rx fx t f.2 u' hu
def inV(x:V)(xs:List V):Bool:=xs.any λy=>eqV y x
def rIn(K:PySem.W.Frag)(neg:Bool):R2:=λx y H Q=>∃p xs,y = .ref p/\(SqL K H p xs\/SqT K H p xs)/\Vm x=true/\xs.all Vm=true/\Q (.bl (if neg then !inV x xs else inV x xs)) H
theorem Ze9:OpR X (compareOp .In) (rIn X.K false):=by
 intro pins s σ H x y v u Q I rx ry h;obtain⟨p,xs,rfl,hq,fx,fs,q⟩:=h;cases ry;rcases hq with hq|hq
 · obtain⟨its,r,pl,hz⟩:=I.list hq
   refine SeqAt.in_listAt (eqU x) pl.isList (λw hw=>QU rx fx r fs w (by simpa using hw)) ⟨.bl _,H,I,rfl,?_⟩;rw [show its.toArray.any (eqU x)=its.any (eqU x) by simp,QT r fs];exact q
 · obtain⟨its,r,pl,hz⟩:=I.tuple hq
   refine SeqAt.in_tupleAt (eqU x) pl (λw hw=>QU rx fx r fs w (by simpa using hw)) ⟨.bl _,H,I,rfl,?_⟩;rw [show its.toArray.any (eqU x)=its.any (eqU x) by simp,QT r fs];exact q
theorem Zcj:OpR X (compareOp .NotIn) (rIn X.K true):=by
 intro pins s σ H x y v u Q I rx ry h;obtain⟨p,xs,rfl,hq,fx,fs,q⟩:=h;cases ry;rcases hq with hq|hq
 · obtain⟨its,r,pl,hz⟩:=I.list hq
   refine SeqAt.notIn_listAt (eqU x) pl.isList (λw hw=>QU rx fx r fs w (by simpa using hw)) ⟨.bl _,H,I,rfl,?_⟩;rw [show its.toArray.any (eqU x)=its.any (eqU x) by simp,QT r fs];exact q
 · obtain⟨its,r,pl,hz⟩:=I.tuple hq
   refine SeqAt.notIn_tupleAt (eqU x) pl (λw hw=>QU rx fx r fs w (by simpa using hw)) ⟨.bl _,H,I,rfl,?_⟩;rw [show its.toArray.any (eqU x)=its.any (eqU x) by simp,QT r fs];exact q
theorem Zck:YI X (.builtin "len") (λxs H Q=>∃p ys,xs=[.ref p]/\(SqL X.K H p ys\/SqT X.K H p ys)/\Q (.int ys.length) H):=by
 intro pins s σ H xs us Q I r h;obtain⟨p,ys,rfl,hq,q⟩:=h;obtain⟨u,rfl,rx⟩:=XH r;cases rx;have hn:=QQ;rcases hq with hq|hq
 · obtain⟨its,r',pl,hz⟩:=I.list hq
   have hlen:=r'.length;exact Calls.call_len_list pl.isList (by simp only [List.size_toArray]<;>omega) ⟨.int ys.length,H,I.tok _,⟨s.toks+1,by rw [List.size_toArray,hlen]⟩,q⟩
 · obtain⟨its,r',pl,hz⟩:=I.tuple hq
   have hlen:=r'.length;exact len_tuple pl (by simp only [List.size_toArray]<;>omega) ⟨.int ys.length,H,I.tok _,⟨s.toks+1,by rw [List.size_toArray,hlen]⟩,q⟩
theorem Zcl:YI X (.builtin "len") (λxs H Q=>∃z,xs=[.str z]/\z.length<=sizeLine/\Q (.int z.length) H):=by
 intro pins s σ H xs us Q I r h;obtain⟨z,rfl,hz,q⟩:=h;obtain⟨u,rfl,t,rfl⟩:=XH r;have hn:=QQ;exact len_str (by omega) ⟨.int z.length,H,I.tok _,⟨_,rfl⟩,q⟩
theorem ZbH:YI X (.type "tuple") (λxs H Q=>∃p ys,xs=[.ref p]/\((SqL X.K H p ys/\∀l,H l=none->Q (.ref l) (upd H l (.tup ys)))\/(SqT X.K H p ys/\Q (.ref p) H))):=by
 intro pins s σ H xs us Q I r h;obtain⟨p,ys,rfl,h⟩:=h;obtain⟨u,rfl,rx⟩:=XH r;cases rx;rcases h with⟨hq,q⟩|⟨hq,q⟩
 · obtain⟨its,r',pl,hz⟩:=I.list hq
   have hlen:=r'.length;refine call_tuple_list pl.isList (λh' kp => ?_) (by simp only [List.size_toArray]<;>omega);have I1:Inv X pins σ H { s with heap:=h' }:=I.kept (t':=s.toks) kp
   have I2:Inv X pins σ (upd H h'.objs.size (.tup ys)) { s with heap:=h'.push { cls := .type "tuple",data := .seq its.toArray } }:=
    I1.laid (t':=s.toks) (λb o e=>Heap.get?_push_of_some _ e) (Nat.le_refl _) (show ObjOk X.prog X.w _ _ _ (.tup ys)from⟨hz,its,r',TupN.new _ _⟩)
   exact⟨.ref h'.objs.size,_,I2,rfl,q _ (I1.hok.fresh (Nat.le_refl _))⟩
 · obtain⟨its,r',pl,hz⟩:=I.tuple hq
   exact call_tuple_same pl ⟨.ref p,H,I,rfl,q⟩
def tyV(K:PySem.W.Frag)(T:String)(x:V)(H:Hp):Prop:=match x with
 | .str _=>T = "str"
 | .int _=>T = "int"
 | .ref p=>(T = "list" /\ ∃xs,SqL K H p xs)\/(T = "tuple" /\ ∃o,K.lookup p=some o/\o.cls = .type "tuple" /\ o.dict=none) \/
  (T = "dict" /\ ((∃kvs,H p=some (.dK kvs))\/∃kvs,H p=some (.dT kvs)))\/(T = "set" /\ ∃S n,H p=some (.set S n))\/(T = "tuple" /\ ∃xs,H p=some (.tup xs))
 |_=>False
theorem Zgr{pins:List (Addr×Obj)}{σ:St}{H:Hp}{s:Shared}{T:String}{x:V}{v:Value}(I:Inv X pins σ H s)(r:RelV x v)(ty:tyV X.K T x H) :
 s.TypeIs v T/\∀a,v = .ref a->∃ob,s.heap.get? a=some ob/\ob.dict=none:=by
 cases x with
 |str z=>
  obtain⟨t,rfl⟩:=r;cases(show T = "str" from ty);exact⟨typeIs_str s z t,λ_ e=>nomatch e⟩
 |int i=>
  obtain⟨t,rfl⟩:=r;cases(show T = "int" from ty);exact⟨typeIs_int s i t,λ_ e=>nomatch e⟩
 |ref p=>
  cases r;rcases ty with⟨rfl,xs,hq⟩|⟨rfl,o,hk,hc,hd⟩|⟨rfl,hk⟩|⟨rfl,S,n,hk⟩|⟨rfl,xs,hk⟩
  · obtain⟨its,_,pl,_⟩:=I.list hq
    refine⟨pl.isList.typeIs,λa e => ?_⟩;cases e;obtain⟨o,n,e,c,hd,_⟩:=pl;exact⟨o,e,hd⟩
  · refine⟨⟨o,I.kIn p o hk,hc⟩,λa e => ?_⟩
    cases e;exact⟨o,I.kIn _ o hk,hd⟩
  · have z : ∃ o, s.heap.get? p = some o /\ o.ExactDict := by
     rcases hk with⟨kvs,hk⟩|⟨kvs,hk⟩
     · obtain⟨_,_,_,_,o,_,_,e,ex,_⟩:=I.hok p _ hk
       exact⟨o,e,ex⟩
     · obtain⟨_,_,_,_,o,_,_,e,ex,_⟩:=I.hok p _ hk
       exact⟨o,e,ex⟩
    obtain⟨o,e,ex⟩:=z;refine⟨⟨o,e,ex.1⟩,λa e2 => ?_⟩;cases e2;exact⟨o,e,ex.2.1⟩
  · obtain⟨o,_,_,_,e,ex,_⟩:=I.hok p _ hk
    refine⟨⟨o,e,ex.1⟩,λa e2 => ?_⟩;cases e2;exact⟨o,e,ex.2.1⟩
  · obtain⟨_,its,_,o,e,c,_,dn⟩:=(show ObjOk X.prog X.w H s.heap p (.tup xs)from I.hok p _ hk)
    refine⟨⟨o,e,c⟩,λa e2 => ?_⟩;cases e2;exact⟨o,e,dn⟩
 |_=>exact False.elim ty
def ZkU(K:PySem.W.Frag)(T:String)(r:V->List V->Hp->VK->Prop)(to:TE):TE:=λσ H Q=>to σ H λx H1=>tyV K T x H1/\r x [] H1 Q
def tBM(K:PySem.W.Frag)(T:String)(r:V->List V->Hp->VK->Prop)(to:TE)(t:TA):TE:=λσ H Q=>to σ H λx H1=>tyV K T x H1/\t σ H1 λxs H2=>r x xs H2 Q
variable{o e:Expr}{es:List Expr}{to:TE}{t:TA}{name:Str}{apos cpos:Pos}{T id:String}{r:V->List V->Hp->VK->Prop}
theorem Zjg (pa:PlainAttrs T) (slot:Slot T name id) (hty:typeOf (.builtin id)=pure (.type "method_descriptor")) (hm:MtR X id r) (ho:PE X o to)
 (hbase:attributeBase o name X.env (eval o X.env)=eval o X.env:=by rfl) (hline:(apos.endLine == cpos.line)=true:=by rfl):PE X (.Call (.Attribute o name apos) [] [] cpos) (ZkU X.K T r to):=by
 intro pins s σ H Q I h;refine wpAny_Call_method0_late hbase hline (thn (ho pins s σ H _ I h) λv s1 ⟨x,H1,I1,r1,ty,q1⟩ => ?_);obtain⟨h1,h2⟩:=Zgr I1 r1 ty;exact⟨T,id,pa,slot,hty,h1,h2,Calls.callWith_builtin rfl (PySem.evalArgs_none (hm pins s1 σ H1 x [] v [] Q I1 r1 .nil q1))⟩
theorem Zlm (pa:PlainAttrs T) (slot:Slot T name id) (hty:typeOf (.builtin id)=pure (.type "method_descriptor")) (hm:MtR X id r) (ho:PE X o to) (ha:PA X (e::es) t)
 (hbase:attributeBase o name X.env (eval o X.env)=eval o X.env:=by rfl)
 (hfew:((backTo cpos (starEach (e::es) X.env)).all (λx => !x.1)&&(backToKw cpos (keywordEach [] X.env)).all (λx=>x.1.isSome)
   && decide ((e::es).length+([]:List Keyword).length+(if([]:List Keyword).isEmpty then 0 else 1)<30))=true:=by rfl)
 (hline:(apos.endLine == cpos.line)=true:=by rfl) (hs:starEach (e::es) X.env=(false,eval e X.env)::starEach es X.env:=by rfl) (hplain:(backTo cpos (starEach es X.env)).any (·.1)=false:=by rfl) :
 PE X (.Call (.Attribute o name apos) (e::es) [] cpos) (tBM X.K T r to t):=by
 intro pins s σ H Q I h;refine wpAny_Call_method_late hbase hfew hline rfl (thn (ho pins s σ H _ I h) λv s1 ⟨x,H1,I1,r1,ty,q1⟩ => ?_);obtain⟨h1,h2⟩:=Zgr I1 r1 ty;refine⟨T,id,pa,slot,hty,h1,h2,?_⟩;have hA:=ha cpos pins s1 σ H1 _ I1 q1;rw [hs]at hA ⊢;refine Calls.callWith_builtin (by show(false||(backTo cpos (starEach es X.env)).any (·.1))=false;rw [hplain]<;>rfl) (Calls.evalArgs_plain ?_)
 exact thn hA λus s2 ⟨vs,H2,I2,r2,q2⟩=>hm pins s2 σ H2 x vs v us Q I2 r1 r2 q2
end
end L2
namespace L2
open PySem PySem.Spec PyProof.Rows
def MtM(X:Cx)(id:String)(r:V->List V->Hp->VK->Prop):Prop:=
 ∀(pins:List (Addr×Obj))(s:Shared)(σ:St)(H:Hp)(x:V)(xs:List V)(v:Value)(us:List Value)(Q:VK),Inv X pins σ H s->RelV x v->Vals xs us->r x xs H Q ->
  wpAny (model X.prog X.w) X.A (call (.builtin id) (v::us)) (EP X pins σ Q) X.xe s
theorem Vals.one:∀{x:V}{us:List Value},Vals [x] us->∃u,us=[u]/\RelV x u
 |_,_,.cons r .nil=>⟨_,rfl,r⟩
theorem Vals.rep{xs:List V}{us:List Value}(h:Vals xs us):∀k:Nat,Vals (List.replicate k xs).flatten (List.replicate k us).flatten
 |0 => .nil
 |k+1=>by
  rw [List.replicate_succ,List.replicate_succ,List.flatten_cons,List.flatten_cons];exact Vals.append h (Vals.rep h k)
theorem ZbQ(its:List Value):∀(k:Nat)(acc:List Value),
 List.foldl (λx1 x2=>x1++x2) acc.toArray (List.replicate k its.toArray)=(acc++(List.replicate k its).flatten).toArray
 |0,acc=>by simp
 |k+1,acc=>by
  have e:acc.toArray++its.toArray=(acc++its).toArray:=by simp
  have e2:(acc++its)++(List.replicate k its).flatten=acc++(List.replicate (k+1) its).flatten:=by
   rw [List.replicate_succ,List.flatten_cons,List.append_assoc]
  rw [<-e2,<-ZbQ its k (acc++its),<-e,List.replicate_succ,List.foldl_cons]
section
variable{X:Cx}{pins:List (Addr×Obj)}{σ:St}{H:Hp}{s:Shared}{l b:Addr}{xs ys zs:List V}
theorem Inv.lset {its its':List Value} {n:Nat} {f:Array Value->Array Value} {t':Nat} (I:Inv X pins σ H s) (hH:H l=some (.lst xs))
 (e:s.heap.get? l=some { cls := .type "list",data := .seq its.toArray n }) (hf:f its.toArray=its'.toArray) (hv:Vals ys its') (hz:ys.length<=sizeLine) :
 Inv X pins σ (upd H l (.lst ys)) { s with heap:=s.heap.update l (Obj.mapSeq f),toks:=t' }:=by
 have q:=PySem.IsL.update e f;rw [hf]at q;refine I.write (x:=l) (e:=l) (by rw [hH];exact trivial) (.inl rfl) (λb' u hb hu=>(Heap.get?_update_other s.heap (Obj.mapSeq f) (Ne.symm hb)).trans hu) ⟨_,q⟩ ?_;exact⟨hz,its',_,hv,q⟩
theorem Inv.lnew{its:List Value}{t':Nat}(I:Inv X pins σ H s)(hv:Vals ys its)(hz:ys.length<=sizeLine) :
 Inv X pins σ (upd H s.heap.objs.size (.lst ys)) { s with heap:=s.heap.push { cls := .type "list",data := .seq its.toArray },toks:=t' }:=
 I.laid (λ_ _ q=>Heap.get?_push_of_some _ q) (Nat.le_refl _) ⟨hz,its,0,hv,Heap.get?_push_size _ rfl⟩
theorem Inv.fresh(I:Inv X pins σ H s):H s.heap.objs.size=none:=I.hok.fresh (Nat.le_refl _)
theorem Inv.lstM(I:Inv X pins σ H s)(hH:H l=some (.lst xs)):xs.length<=sizeLine/\∃(its:List Value) (n:Nat),Vals xs its/\xs.length=its.length/\s.heap.get? l=some { cls := .type "list",data := .seq its.toArray n }:=by
 obtain⟨z,its,n,r,e⟩:=I.hok l _ hH;exact⟨z,its,n,r,r.length,e⟩
theorem Zc3{n:Nat}(h:n<=sizeLine):Builtin.List.listTooLong n=false:=by
 unfold Builtin.List.listTooLong;exact decide_eq_false (by omega)
end
section
variable{X:Cx}
def rAppend:V->List V->Hp->VK->Prop:=λx vs H Q=>∃l xs y,x = .ref l/\vs=[y]/\H l=some (.lst xs)/\xs.length<sizeLine/\Q .non (upd H l (.lst (xs++[y])))
theorem X4:MtM X "list.append" rAppend:=by
 intro pins s σ H x vs v us Q I rx rv h;obtain⟨l,xs,y,rfl,rfl,hH,hz,q⟩:=h;cases rx;obtain⟨u,rfl,ru⟩:=rv.one;obtain⟨z,its,n,r,hl,e⟩:=I.lstM hH;refine call_meets F.slot_list_append ⟨_,e,rfl⟩ F.entry_list_append (F.args_list_append_2 _ _) (PySem.list_append l its.toArray n u (by rw [List.size_toArray];omega)) ⟨e,?_⟩;refine⟨.non,_,I.lset (its':=its++[u]) hH e (by simp) (r.append (.cons ru .nil)) ?_,rfl,q⟩
 rw [List.length_append,List.length_singleton];omega
def rExtend:V->List V->Hp->VK->Prop:=λx vs H Q=>∃l b xs zs,x = .ref l/\vs=[.ref b]/\H l=some (.lst xs)/\H b=some (.lst zs)/\xs.length+zs.length<=sizeLine/\Q .non (upd H l (.lst (xs++zs)))
theorem Zfa:MtM X "list.extend" rExtend:=by
 intro pins s σ H x vs v us Q I rx rv h;obtain⟨l,b,xs,zs,rfl,rfl,hH,hB,hz,q⟩:=h;cases rx;obtain⟨u,rfl,ru⟩:=rv.one;cases ru;obtain⟨z,its,n,r,hl,e⟩:=I.lstM hH;obtain⟨z2,its2,n2,r2,hl2,e2⟩:=I.lstM hB;have hsz:its.toArray.size+its2.toArray.size<=sizeLine:=by rw [List.size_toArray,List.size_toArray];omega
 have hlong:¬(!its.toArray.isEmpty&&Builtin.List.listTooLong (its.toArray.size+its2.toArray.size))=true:=by
  rw [Zc3 hsz,Bool.and_false];exact Bool.false_ne_true
 refine call_meets F.slot_list_extend ⟨_,e,rfl⟩ F.entry_list_extend (F.args_list_extend_2 _ _)
  (AutoSeq1.list_extend_list_list_0 l its.toArray n b its2.toArray n2 hlong (by rw [List.size_toArray];omega) (by omega)) ⟨e,e2,?_⟩
 refine⟨.non,_,I.lset (its':=its++its2) hH e (by simp) (r.append r2) ?_,rfl,q⟩;rw [List.length_append];omega
def Zm5:R2:=λx y H Q=>∃l b xs zs,x = .ref l/\y = .ref b/\H l=some (.lst xs)/\H b=some (.lst zs)/\xs.length+zs.length<=sizeLine/\∀p,H p=none->Q (.ref p) (upd H p (.lst (xs++zs)))
theorem Zhu{α:Type}(xs:List α)(k:Nat):(List.replicate k xs).flatten.length=k*xs.length:=by
 induction k with
 |zero=>simp
 |succ k ih=>rw [List.replicate_succ,List.flatten_cons,List.length_append,ih,Nat.succ_mul,Nat.add_comm]
end
section
variable{prog:Program}{w:World}{A:Around}{E:Value->Shared->Prop}{s:Shared}
set_option maxRecDepth 100000 in
end
section
variable{X:Cx}
end
end L2
namespace Att
open PySem PySem.W PySem.Calls PyProof.Rows
theorem Za1{P:Params}{h:Heap}:∀(ns:List Int)(vs:List Value),WellAll P h vs (ns.map WData.int)->IntsAre vs ns:=by
 intro ns
 induction ns with
 |nil=>
  intro vs w;rw [List.map_nil]at w;cases w;exact .nil
 |cons n ns ih=>
  intro vs w;rw [List.map_cons]at w;cases w with
  |cons a b=>
   cases a;exact .cons _ _ (ih _ b)
theorem Zfb {l:OpenLaw} {n:Nat} (hn:l.most=some n) {P:Params} {h:Heap} {args:List WData} {vals:List Value}
 (hpre:l.row.toRowW.claim.pre args=true) (hwl:WellAll P h vals args) :
 ∃a vs ns,vals=[Value.ref a]/\args=[WData.list (ns.map WData.int)]/\h.get? a=some { cls := .type "list",data := .seq vs.toArray }/\IntsAre vs ns/\ns.length<=n:=by
 have hsh:WShape.hasAll [] args [.list .int]=true:=(pre_splitW hpre).1;have hc:l.pre.holds [] { args:=args }=true:=(pre_splitW hpre).2;obtain⟨d,r,rfl,h1,h2⟩:=hasAllW_cons hsh;obtain rfl:=hasAllW_nil h2;obtain⟨xs,rfl,h3⟩:=hasW_list h1;obtain⟨ns,rfl⟩:=items_int h3
 have hlen:ns.length<=n:=by
  unfold OpenLaw.pre at hc
  have h4:(WTm.not (.lt (.lit (.int (n:Int))) (.len (.arg 0)))).holds [] { args:=[.list (ns.map .int)] }=true:=by
   have h4:=(holds_andW hc).1;rw [hn]at h4;exact h4
  have h5:=condW_of h4 (w_not (w_lt w_lit (w_len_list (w_arg rfl))));rw [List.length_map]at h5;refine Nat.le_of_not_lt λq => ?_
  have q':(n:Int)<((ns.length:Nat):Int):=by omega
  first
   |(rw [decide_eq_true q']at h5;exact absurd h5 (by decide))
   |(simp at h5;omega)
 cases hwl with
 |cons w1 w2=>
  cases w2;cases w1 with
  |list ho hall=>exact⟨_,_,ns,rfl,rfl,ho,Za1 ns _ hall,hlen⟩
theorem Zfc(l:OpenLaw)(args:List WData):l.row.toRowW.claim.post args (.bool true) args=true:=
 postW_of (r:=l.row.toRowW) (X:=(true == true))
  (show WShape.has [] (.bool true) .bool=true by first|rfl|decide|simp [WShape.has,WShape.arms,WShape.armsAll])
  (show(WTm.eq .res (.lit (.bool true))).value [] { args:=args,res:=some (.bool true),after:=args }=some (.bool (true == true))from w_eq_bool (w_res rfl) w_lit) rfl
theorem attach_call {l:OpenLaw} {n:Nat} {q:Program} {loose:List Str} {XP:(Str->Option Value)->Heap->Prop} {YP:World->Heap->Prop} {d:DefRec}
 (hn:l.most=some n) (hdf:d.params.defaults=[])
 (call:∀(w:World)(s₀ s₁:Shared)(mg mb:Str->Option Value)(fa:Addr)(o:Obj)(pm cd doc:Value)(a:Addr)(vs:List Value)(ns:List Int),
   Ground q loose [] XP w s₀ mg mb s₁.heap->YP w s₁.heap ->
   s₁.heap.get? fa=some o->o.data = .func (docDef d.name d.params d.body d.scope pm cd doc)->s₁.heap.CodeRec cd d.name->mg d.name=some (.ref fa) ->
   s₁.heap.get? a=some { cls := .type "list",data := .seq vs.toArray }->IntsAre vs ns->ns.length<=n->s₁.gens = #[] ->
   codeAny (model l.prog w) callerA (.call (.ref fa) ⟨[.ref a],[]⟩) (λr s'=>r = .ok (.ret (.bool true))/\OldK s₁.heap s'.heap/\s'.os=s₁.os/\AllBare s'.gens) s₁) :
 WalkO q loose XP YP l.row.toRowW d [] (λf vs=>PySem.call f vs):=by
 intro w s₀ s₁ mg mb G Y fa o pm cd doc dV kV ho hd hcd hD hmg hg args vals as hpre hlay hrd hwl hlo;obtain rfl:dV = .none:=Dflts.none hD hdf;obtain rfl:kV = .none:=Dflts.noKw hD;obtain⟨a,vs,ns,rfl,rfl,hobj,hints,hlen⟩:=Zfb hn hpre hwl;refine enter_call (codeAny_mono (call w s₀ s₁ mg mb fa o pm cd doc a vs ns G Y ho (fd_plain hd) hcd hmg hobj hints hlen hg) λr s' hq => ?_);obtain⟨rfl,h2,h3,h4⟩:=hq
 exact⟨.inl ⟨.bool true,.bool true,[],rfl,λ_=>rfl,.bool true,Zfc l _,λ_=>⟨List.Pairwise.nil,λ_ hm=>(nomatch hm)⟩⟩,h2,h3,h4⟩
section
variable{prog:Program}{w:World}{A:Around}{E:Value->Shared->Prop}{s:Shared}{K:Frag}
end
end Att
namespace L2
open PySem PySem.Spec PyProof.Rows
theorem ZbR:∀{vs:List Value}{ns:List Int},IntsAre vs ns->Vals (ns.map V.int) vs
 |_,_,.nil => .nil
 |_,_,.cons n t h => .cons ⟨t,rfl⟩ (ZbR h)
def ZkV(H:Hp):Prop:=∀b,H b=none\/∃o xs,H b=some (.frz o (.lst xs))
theorem ZfR {P:Program} {w:World} {K:PySem.W.Frag} {mg mb:Str->Option Value} {CX:CXT} {k:Nat} {fa a:Addr} {fd:FuncData} {x:Str} {sp:Sp} {s₁:Shared} {vs:List Value} {ns:List Int}
 (KX:K.In s₁.heap) (hns:s₁.heap.Ns mainGlobals mg) (hb:s₁.heap.Ns builtinsNs mb) (hbb:∀x:Str,x ≠ "__name__" -> mb x=bootBuiltins x) (hlim:s₁.heap.NoLimit) (hg:s₁.gens = #[])
 (ha:s₁.heap.get? a=some { cls := .type "list",data := .seq vs.toArray }) (hi:IntsAre vs ns) (hl:ns.length<=sizeLine) (hr:Room k callerA)
 (F:∀base:Heap,K.In base->base.Ns mainGlobals mg->FnOk P w K mg base CX k fa fd [x] sp) (hbind:∀(s:Shared)(u:Value),BindsTo s fd ⟨[u],[]⟩ [(x,u)])
 (hsp:∀H:Hp,ZkV H->SqL K H a (ns.map V.int)->sp [.ref a] H (λv _=>v = .bl true) λ_ _ _=>False)
 (hCX:∀H e s',CX [] H s₁ (λ_ _ _=>False) e s'->False) :
 codeAny (model P w) callerA (.call (.ref fa) ⟨[.ref a],[]⟩) (λr s'=>r = .ok (.ret (.bool true))/\OldK s₁.heap s'.heap/\s'.os=s₁.os/\AllBare s'.gens) s₁:=by
 have rv:=ZbR hi;have lenV:=hi.length
 have core:∀H:Hp,ZkV H->SqL K H a (ns.map V.int)->HOk P w H s₁.heap->(∀b,H b≠none->b=a)->(H a≠none->K.lookup a=none) ->
  codeAny (model P w) callerA (.call (.ref fa) ⟨[.ref a],[]⟩) (λr s'=>r = .ok (.ret (.bool true))/\OldK s₁.heap s'.heap/\s'.os=s₁.os/\AllBare s'.gens) s₁:=by
  intro H hO hS hok hA hK;have base_of:∀{b:Addr}{o:Obj},s₁.heap.get? b=some o->H b=none->(VD s₁.heap H).get? b=some o:=λe n=>ZfL e n
  have noA:∀{b:Addr}{o:Obj}{es:Array DictEntry}{ep:Nat},s₁.heap.get? b=some o->o.data = .dict es ep->H b=none:=λ{b o es ep} e d=>by
   cases q:H b with
   |none=>rfl
   |some u=>
    have e':b=a:=hA b (by rw [q];simp);subst e';rw [ha]at e;cases e;have d':Data.seq vs.toArray _=Data.dict es ep:=d;cases d'
  have nsK:∀{b:Addr}{m:Str->Option Value},s₁.heap.Ns b m->(VD s₁.heap H).Ns b m:=λ{b m} ⟨o,es,ep,e,d,r⟩=>⟨o,es,ep,base_of e (noA e d),d,r⟩
  have hKb:K.In (VD s₁.heap H):=λb o e=>base_of (KX b o e) (by
   cases q:H b with
   |none=>rfl
   |some u=>
    have e':b=a:=hA b (by rw [q];simp);subst e';rw [hK (by rw [q];simp)]at e;cases e)
  have hM:Mod K mg (VD s₁.heap H):=⟨hKb,nsK hns,⟨mb,nsK hb,hbb⟩,let⟨mc,h1,h2⟩:=hlim;⟨mc,nsK h1,h2⟩⟩
  have e0:Env0 P w K mg (VD s₁.heap H) callerA [] s₁ H:=⟨rfl,hM,λb o e=>Zho e,Nat.le_of_eq (Ze3 _ _),trivial,λb hb=>absurd (show b∈([]:List Addr)from hb) (by simp),hok,.of_eq hg⟩
  refine codeAny_mono ((F _ hKb (nsK hns)).run callerA [] s₁ H ⟨[.ref a],[]⟩ [.ref a] [.ref a] _ _ hr e0 (hbind s₁ (.ref a)) (.cons rfl .nil) (hsp H hO hS)) λr s' h => ?_
  cases r with
  |error e=>exact(hCX H e s' h).elim
  |ok fl=>
   cases fl with
   |next=>exact False.elim h
   |brk=>exact False.elim h
   |cont=>exact False.elim h
   |ret u=>
    obtain⟨v,H',os,bare,un,hok',r',q⟩:=h;have q':v = .bl true:=q;subst q';obtain rfl:u=Value.bool true:=r';refine⟨rfl,OldK.of_keep λb o e => ?_,os,bare⟩;cases q:H b with
    |none=>exact un.keep b o e q (by intro z;exact absurd (show b∈([]:List Addr)from z) (by simp)) (by simp)
    |some u=>
     rcases hO b with z|⟨ob,xs,z⟩
     · rw [q]at z;cases z
     · have z2:=un.frzs b ob _ z
       obtain⟨e1,_⟩:=hok b _ z;obtain⟨e2,_⟩:=hok' b _ z2;rw [e]at e1;cases e1;exact e2
 cases hk:K.lookup a with
 |some o=>
  have e:=KX a o hk;rw [ha]at e;cases e;refine core (λ_=>none) (λ_ => .inl rfl) (.inr ⟨_,vs.toArray,_,hk,rfl,rfl,rfl,by rw [List.size_toArray,lenV];exact hl,by simpa using rv⟩) (λb u z=>by have z':(none:Option HO)=some u:=z;cases z') (λb z=>absurd rfl z) λz=>absurd rfl z
 |none=>
  refine core (λb=>if b=a then some (.frz { cls := .type "list",data := .seq vs.toArray } (.lst (ns.map V.int)))else none) (λb => ?_) (.inl (.inr ⟨{ cls := .type "list",data := .seq vs.toArray },if_pos rfl⟩)) (λb u z => ?_) (λb z => ?_) λ_=>hk
  · by_cases hb:b=a
    · exact .inr ⟨_,_,if_pos hb⟩
    · exact .inl (if_neg hb)
  · by_cases hb:b=a
    · have z':=(if_pos hb).symm.trans z
      cases z';subst hb;exact⟨ha,by rw [List.length_map];exact hl,vs,_,rv,ha⟩
    · have z':=(if_neg hb).symm.trans z
      cases z'
  · by_cases hb:b=a
    · exact hb
    · exact absurd (if_neg hb) z
end L2
namespace L2
open PySem PySem.Spec PyProof.Rows
theorem walk_of {l:PySem.W.OpenLaw} {n k:Nat} {q:Program} {loose:List Str} {XP:(Str->Option Value)->Heap->Prop} {YP:World->Heap->Prop} {d:DefRec} {K:Params->PySem.W.Frag} {CX:World->CXT} {sp:World->Sp} {x:Str}
 (hn:l.most=some n) (hn2:n<=sizeLine) (hdf:d.params.defaults=[]) (hr:Room k callerA)
 (hY:∀(w:World)(h:Heap),YP w h->(K w.params).In h)
 (F:∀(w:World)(mg:Str->Option Value)(fa:Addr)(h:Heap),(K w.params).In h->h.Ns mainGlobals mg->mg d.name=some (.ref fa) ->
   ∃fd:FuncData,(∀(s:Shared)(u:Value),BindsTo s fd ⟨[u],[]⟩ [(x,u)]) /\
    ∀base:Heap,(K w.params).In base->base.Ns mainGlobals mg->FnOk l.prog w (K w.params) mg base (CX w) k fa fd [x] (sp w))
 (hsp:∀(w:World)(H:Hp)(a:Addr)(ns:List Int),ns.length<=n->ZkV H->SqL (K w.params) H a (ns.map V.int)->sp w [.ref a] H (λv _=>v = .bl true) λ_ _ _=>False)
 (hCX:∀(w:World)(H:Hp)(s:Shared)(e:Value)(s':Shared),CX w [] H s (λ_ _ _=>False) e s'->False) :
 PySem.W.WalkO q loose XP YP l.row.toRowW d [] (λf vs=>PySem.call f vs):=by
 refine Att.attach_call hn hdf λw s₀ s₁ mg mb fa o pm cd doc a vs ns G Y ho hd hcd hmg hobj hints hlen hg => ?_
 have KX:=hY w _ Y;obtain⟨fd,hb,hF⟩:=F w mg fa _ KX G.T.g hmg;exact ZfR KX G.T.g G.T.b G.T.builtins G.T.nolimit hg hobj hints (Nat.le_trans hlen hn2) hr hF hb (λH hO hS=>hsp w H a ns hlen hO hS) λH e s'=>hCX w H s₁ e s'
end L2
namespace L2
open PySem PySem.Spec PyProof.Rows
def JW(s:Stmt)(j:Nat):Stmt:=match s with
 | .ClassDef _ _ _ body _ _ _ _ _ _ _=>body.getD j (.Pass ⟨0,0,0,0⟩)
 |_ => .Pass ⟨0,0,0,0⟩
def defArgs(s:Stmt):Arguments:=match s with
 | .FunctionDef _ a _ _ _ _ _ _ _ _=>a
 |_=>{ posonlyargs:=[],args:=[],vararg:=none,kwonlyargs:=[],kw_defaults:=[],kwarg:=none,defaults:=[] }
def defBody(s:Stmt):List Stmt:=match s with
 | .FunctionDef _ _ b _ _ _ _ _ _ _=>b
 |_=>[]
def defScope(s:Stmt):Scope:=match s with
 | .FunctionDef _ _ _ _ _ _ sc _ _ _=>sc
 |_=>{ kind := .function,names:=[],isGenerator:=false,isCoroutine:=false }
abbrev CX0:CXT:=λ_ _ _ _ _ _=>False
abbrev E0:XK:=λ_ _ _=>False
theorem ZM{X:Cx}:UB CX0 X E0:=λ_ _ _ _ _ _ _ h=>h.elim
structure Fun(K:PySem.W.Frag)(x qual:Str)(st:Stmt)(f:Addr)(fd:FuncData):Prop where
 ex:∃(oc:Value) (od:Option Addr) (kV doc pm:Value) (an:Option Addr) (cdv ct:Value) (osl:Array (Option Value)),
  fd=fnOf x qual (defArgs st) (defBody st) (defScope st) .none kV doc pm an cdv ct/\K.lookup f=some ⟨oc,od,.func fd,osl⟩/\codeIn K cdv qual=true
 kp:PySem.W.keepIn K (.ref f)=true
section
variable{P:Program}{w:World}{K:PySem.W.Frag}{mg:Str->Option Value}{base:Heap}
theorem Fun.ok {x qual:Str} {st:Stmt} {f:Addr} {fd:FuncData} {N ps:List Str} {k:Nat} {sp:Sp} (F:Fun K x qual st f fd) (S:FnScope N ps (defScope st)) (len:∀vs H Q E,sp vs H Q E->vs.length=ps.length)
 (hbody:∀(cdv:Value)(A:Around)(outer:List Env)(s:Shared)(H:Hp)(vs:List V)(Q:VK)(E:XK),Room k (A.deeper (envOfC qual (defScope st) s.heap.objs.size f cdv))->sp vs H Q E ->
   ∃t,PSs (YU CX0 P w K mg base N qual (defScope st) f cdv A outer s H E).nox (defBody st) t/\t { nx:=λ_ H'=>Q .non H',rt:=Q } (start N vs) H):FnOk P w K mg base CX0 (k+1) f fd ps sp:=by
 obtain⟨oc,od,kV,doc,pm,an,cdv,ct,osl,rfl,lk,hcd⟩:=F.ex;refine Zg9 lk hcd S len λA outer s H vs Q E hr hsp => ?_
 obtain⟨t,h,q⟩:=hbody cdv A outer s H vs Q E hr hsp;exact⟨t,h.nox,q⟩
theorem Fun.binds {x qual:Str} {st:Stmt} {f:Addr} {fd:FuncData} {ps:List Str} (F:Fun K x qual st f fd)
 (h:∀(kV doc pm:Value)(an:Option Addr)(cdv ct:Value)(us:List Value),us.length=ps.length->bindArgs (fnOf x qual (defArgs st) (defBody st) (defScope st) .none kV doc pm an cdv ct) ⟨us,[]⟩=pure (ps.zip us)):Binds K fd ps []:=by
 obtain⟨oc,od,kV,doc,pm,an,cdv,ct,osl,rfl,lk,hcd⟩:=F.ex;exact .all (h kV doc pm an cdv ct)
theorem fun_mk {x qual:Str} {st:Stmt} {f:Addr} {oc:Value} {od an:Option Addr} {osl:Array (Option Value)} {kV doc pm cdv ct:Value} (l:K.lookup f=some ⟨oc,od,.func (fnOf x qual (defArgs st) (defBody st) (defScope st) .none kV doc pm an cdv ct),osl⟩)
 (c:codeIn K cdv qual=true) (k:PySem.W.keepIn K (.ref f)=true):Fun K x qual st f (fnOf x qual (defArgs st) (defBody st) (defScope st) .none kV doc pm an cdv ct):=⟨⟨oc,od,kV,doc,pm,an,cdv,ct,osl,rfl,l,c⟩,k⟩
end
section
variable{X:Cx}
theorem pv (i:Nat) {x:Str} {pos:Pos} (hN:X.N[i]? = some x:=by rfl) (hv:Vis X.env.scope x:=by first|exact Or.inl rfl|exact Or.inr (Or.inl rfl)|exact Or.inr (Or.inr rfl)) (hd:(x == ("__debug__" : Str))=false:=by decide)
 (hcd:(x == ("__classdict__" : Str))=false:=by decide):PE X (.Name x pos) (Xk i):=Zi7 hN hv hd hcd
end
theorem Ua{A B:Prop}(h:B):if false=true then A else B:=by
 rw [if_neg Bool.false_ne_true];exact h
theorem X5{A B:Prop}(h:A):if true=true then A else B:=by
 rw [if_pos rfl];exact h
def Same(H H':Hp):Prop:=∀b o,H b=some o->H' b=some o
theorem Same.refl(H:Hp):Same H H:=λ_ _ h=>h
theorem Same.trans{H H1 H2:Hp}(a:Same H H1)(b:Same H1 H2):Same H H2:=λc o h=>b c o (a c o h)
theorem Same.free{H H':Hp}(e:Same H H'){l:Addr}(h:H' l=Option.none):H l=Option.none:=by
 cases q:H l with
 |none=>rfl
 |some o=>
  rw [e l o q]at h;cases h
theorem Same.seq{K:PySem.W.Frag}{H H':Hp}{a:Addr}{xs:List V}(e:Same H H')(h:SqL K H a xs):SqL K H' a xs:=by
 rcases h with(h|⟨o,h⟩)|h
 · exact .inl (.inl (e _ _ h))
 · exact .inl (.inr ⟨o,e _ _ h⟩)
 · exact .inr h
end L2
namespace HT
open PySem PySem.W PySem.Calls PyProof.Rows
def de(P:Params)(x:Str)(t:Nat)(v:Value):DictEntry:=⟨PyData.keyHash P x,.str x t,v⟩
def dO(c:Value)(es:List DictEntry)(n:Nat):Obj:=⟨c,none,.dict es.toArray n,#[]⟩
def cO(vs:List Value):Obj:=⟨.type "code",none,.fields vs.toArray,#[]⟩
def fO(x q:Str)(st:Stmt)(dv kv doc pm:Value)(an:Option Addr)(cd ct:Value):Obj:=⟨.type "function",none,.func (fnOf x q (L2.defArgs st) (L2.defBody st) (L2.defScope st) dv kv doc pm an cd ct),#[]⟩
def c3(x q:Str)(t l a n r:Nat)(r2:Nat)(v w:Value)(r3 k k2:Nat):Obj:=cO [.str x t,.str q (t+1),.str "/claim/cut.py" (t+2),.int l 0,.int a 0,.int 0 0,.int 0 0,.int n 0,.ref r,.bool true,.int 181 0,.ref r2,.none,v,w,.ref r3,.int k 0,.int l 0,.str "/claim/cut.py" k2]
def f3(x q:Str)(st:Stmt)(m:Str)(t c:Nat):Obj:=fO x q st .none .none .none (.str m t) none (.ref c) .none
def x3(P:Params)(m:Str)(t a b l c d r e n:Nat):Obj:=dO (.type "dict") [de P "__module__" a (.str m t),de P "__firstlineno__" b (.int l c),de P "__static_attributes__" d (.ref r),de P "__doc__" e .none] n
def k3(x:Str)(a b n r t u:Nat):Obj:=⟨.type "type",none,.cls ⟨x,[.ref b],[.ref a,.ref b,.type "ValueError",.type "Exception",.type "BaseException",.type "object"],n,x,true,[],[],false,none,false⟩,#[some (.ref r),none,some (.str x t),some (.str x u),some (.builtin "ValueError.__new__"),some (.bool true)]⟩
def met{α:Type}(_:α):Bool:=true
noncomputable def Zln(P:Params):BT:=
 ((((((((((BT.nil.ins 0 (boot_o_0 P)).ins 1 (boot_o_1 P)).ins 2 (boot_o_2 P)).ins 3 (boot_o_3 P)).ins 4 (boot_o_4 P)).ins 5 (boot_o_5 P)).ins 6 (boot_o_6 P)).ins 7 (boot_o_7 P)).ins 8 (boot_o_8 P)).ins 9 (boot_o_9 P)).ins 10 (boot_o_10 P)
noncomputable abbrev S0(w:World)(os:OsState):Shared:=⟨boot_heap w.params,Array.mk [],boot_drawn,boot_toks,os⟩
noncomputable abbrev S0T(w:World)(os:OsState):SharedT:=⟨Zln w.params,11,(boot_heap w.params).life,Array.mk [],boot_drawn,boot_toks,os⟩
theorem Zm6(w:World)(os:OsState):(S0T w os).abs=S0 w os:=rfl
noncomputable def ZkW(thr ok:Thread->Bool)(st:SharedT->Thread->Option (SharedT×Thread))(n:Nat):SharedT->Thread->Option SharedT:=
 @Nat.rec (λ_=>SharedT->Thread->Option SharedT) (λ_ _=>none)
  (λ_ ih s t => @Bool.rec (λ_=>Option SharedT) (@Bool.rec (λ_=>Option SharedT) none (@Option.rec (SharedT×Thread) (λ_=>Option SharedT) none (λr=>ih r.1 r.2) (st s t)) (ok t)) (some s) (thr t)) n
theorem Zc4{tb:String->Option Builtin}{p:Program}{w:World}{n₀:Nat}{ann:Option Value}:∀{n:Nat}{s s':SharedT}{t:Thread},ZkW through (stepOk n₀ ann) (stepT (denote tb) p w) n s t=some s'->topRun tb p w n₀ ann n s.abs t=some s'.abs
 |0,_,_,_,h=>by cases h
 |n+1,s,s',t,h=>by
  replace h : @Bool.rec (λ_=>Option SharedT) (@Bool.rec (λ_=>Option SharedT) none (@Option.rec (SharedT×Thread) (λ_=>Option SharedT) none (λr=>ZkW through (stepOk n₀ ann) (stepT (denote tb) p w) n r.1 r.2) (stepT (denote tb) p w s t)) (stepOk n₀ ann t)) (some s) (through t)=some s':=h;unfold topRun;cases ht:through t with
  |true=>rw [ht]at h;cases h;rfl
  |false=>
   rw [ht]at h;cases hk:stepOk n₀ ann t with
   |false=>rw [hk]at h;cases h
   |true=>
    rw [hk]at h;cases hs:stepT (denote tb) p w s t with
    |none=>rw [hs]at h;cases h
    |some r=>obtain⟨s₂,t₂⟩:=r;rw [hs]at h;rw [stepT_spec hs];exact Zc4 h
theorem left_of {p q:Program} {loose:List Str} {Xt:Shared->Bool} {α:Type} {Yf:Shared->α} {Ya:World->α} {N:Nat}
 (e:opening p=plainProg p.main.scope.names) (hN:Nat.ble 600 N=true) (f:∀s,fenceModules? p s=some s)
 (run:∀w:World,(λos=>(ZkW through (stepOk 11 (some (.ref 6))) (stepT (denote treeTable) p w) N (S0T w os) (topStub p)).map λs=>((staticsOk (importedModules p.main.body) (boot_heap w.params) s.abs.heap&&namesBound p s.abs.heap&&gensDone s.abs&&laidKept (boot_heap w.params) s.abs.heap),
   openSeen q loose (importedModules p.main.body) Xt true s.abs,Yf s.abs))=λ_=>some (true,openGood q loose,Ya w)):LeftO p q loose Xt Yf Ya N:=λw=>by
 obtain⟨⟨h,gs,d,k,os⟩,e,e'⟩:=Option.map_eq_some_iff.mp (boot_open e hN f w);obtain⟨rfl,rfl,rfl,rfl⟩:h=boot_heap w.params/\gs=Array.mk []/\d=boot_drawn/\k=boot_toks:=by simpa using e'
 obtain⟨s1,r,l⟩:=Option.map_eq_some_iff.mp (congrFun (run w) os);obtain⟨l1,l2,l3⟩:_/\_/\_:=by simpa only [Prod.mk.injEq]using l
 have r:=Zc4 r;rw [Zm6]at r;have z1:((boot_heap w.params).isNs mainGlobals&&(Array.mk []:Array GenState).size == 0)=true:=by kernel_rfl
 have z2:(boot_heap w.params).objs.size=11:=rfl;have z3:(boot_heap w.params).nsMap mainGlobals "__annotations__" = some (.ref 6):=by kernel_rfl
 have t:topFrom treeTable p w N (S0 w os)=some s1.abs:=by
  unfold topFrom;dsimp only;rw [z1,z2,z3,r];show(match staticsOk (importedModules p.main.body) (boot_heap w.params) s1.abs.heap&&namesBound p s1.abs.heap&&gensDone s1.abs&&laidKept (boot_heap w.params) s1.abs.heap with|true=>_|false=>_)=_;rw [l1]
 unfold openEnds;rw [e];show(topFrom treeTable p w N _).map _=_;rw [t];exact congrArg some (Prod.ext l2 l3)
end HT
namespace L2
open PySem Builtin Builtin.Str
abbrev tx(cs:List Nat):Str:=⟨cs.toArray⟩
theorem tx_inj{a b:List Nat}:tx a=tx b ↔ a=b:=by
 constructor
 · intro h
   have h2:a.toArray=b.toArray:=congrArg Str.cps h;simpa using h2
 · rintro rfl;rfl
theorem Zbq(x:Str):tx x.cps.toList=x:=by
 obtain⟨a⟩:=x;show Str.mk a.toList.toArray=Str.mk a;simp
theorem Xw(cs:List Nat):(tx cs).cps.toList=cs:=by simp [tx]
theorem YD(cs:List Nat):(tx cs).length=cs.length:=by simp [tx,Str.length]
theorem Zd6(a b:List Nat):tx a++tx b=tx (a++b):=by
 show Str.mk (a.toArray++b.toArray)=Str.mk (a++b).toArray;simp
def YA(n d:Nat):Option Int->Nat
 |none=>d
 |some v=>if v<0 then(v+(n:Int)).toNat else min v.toNat n
def cutL{α:Type}(xs:List α)(lo hi:Option Int):List α:=(xs.drop (YA xs.length 0 lo)).take (YA xs.length xs.length hi-YA xs.length 0 lo)
theorem Zgs(lo hi:Option Int)(n:Nat):strSliceIndices lo hi 1 n=(List.range (YA n n hi-YA n 0 lo)).map λk=>YA n 0 lo+k:=by
 have clip:∀v:Int,max 0 (min (if v<0 then v+(n:Int)else v) (n:Int))=(((if v<0 then(v+(n:Int)).toNat else min v.toNat n):Nat):Int):=by
  intro v
  by_cases h:v<0
  · rw [if_pos h,if_pos h];omega
  · rw [if_neg h,if_neg h];omega
 have key:∀(a b:Nat),sliceRange (a:Int) (b:Int) 1=(List.range (b-a)).map λk=>a+k:=by
  intro a b;unfold sliceRange;simp only [show(1:Int)>0 by decide,if_true]
  have e:(if(a:Int)<(b:Int)then((b:Int)-(a:Int)+1-1) / 1 else 0).toNat=b-a:=by
   split
   · rw [Int.ediv_one];omega
   · omega
  rw [e];refine List.map_congr_left λk _ => ?_
  omega
 unfold strSliceIndices;simp only [show(1:Int)>0 by decide,if_true];cases lo with
 |none=>
  cases hi with
  |none=>exact key 0 n
  |some v=>
   have:=key 0 (YA n n (some v));refine Eq.trans ?_ this;show sliceRange 0 (max 0 (min (if v<0 then v+(n:Int)else v) (n:Int))) 1=_;rw [clip v];rfl
 |some u=>
  cases hi with
  |none=>
   have:=key (YA n 0 (some u)) n;refine Eq.trans ?_ this;show sliceRange (max 0 (min (if u<0 then u+(n:Int)else u) (n:Int))) n 1=_;rw [clip u];rfl
  |some v=>
   have:=key (YA n 0 (some u)) (YA n n (some v));refine Eq.trans ?_ this;show sliceRange (max 0 (min (if u<0 then u+(n:Int)else u) (n:Int))) (max 0 (min (if v<0 then v+(n:Int)else v) (n:Int))) 1=_;rw [clip u,clip v];rfl
theorem Zc5{α:Type}(xs:List α)(l:Nat):∀k,l+k<=xs.length->((List.range k).map λj=>l+j).filterMap (λj=>xs[j]?)=(xs.drop l).take k
 |0,_=>by simp
 |k+1,h=>by
  rw [List.range_succ,List.map_append,List.filterMap_append,Zc5 xs l k (by omega)];have hx:xs[l+k]? = some (xs[l+k]'(by omega)):=List.getElem?_eq_getElem (by omega);rw [List.take_add_one,List.getElem?_drop,hx];simp [hx]
theorem Zfd(n:Nat)(o:Option Int):YA n n o<=n:=by
 cases o with
 |none=>exact Nat.le_refl _
 |some v=>
  show(if v<0 then(v+(n:Int)).toNat else min v.toNat n)<=n
  split<;>omega
theorem ZfS(cs:List Nat)(lo hi:Option Int):Txt.slice (tx cs) lo hi=tx (cutL cs lo hi):=by
 have hn:(tx cs).length=cs.length:=YD cs;have hb:=Zfd cs.length hi
 have hp:((strSliceIndices lo hi 1 cs.length).filterMap λj=>cs[j]?)=cutL cs lo hi:=by
  rw [Zgs];unfold cutL
  by_cases h:YA cs.length 0 lo<=YA cs.length cs.length hi
  · exact Zc5 cs _ _ (by omega)
  · have e:YA cs.length cs.length hi-YA cs.length 0 lo=0:=by omega
    rw [e];simp
 unfold Txt.slice;rw [hn]
 by_cases hc:((1:Int) == 1&&(strSliceIndices lo hi 1 cs.length).length == cs.length)=true
 · rw [if_pos hc]
   have hl:(strSliceIndices lo hi 1 cs.length).length=cs.length:=by simpa using hc
   rw [Zgs,List.length_map,List.length_range]at hl;have e0:YA cs.length 0 lo=0\/cs.length=0:=by omega
   rw [tx_inj];unfold cutL;rw [hl];rcases e0 with e0|e0
   · rw [e0];simp
   · have:cs=[]:=List.eq_nil_of_length_eq_zero e0
     subst this;simp
 · rw [if_neg hc]
   have:((strSliceIndices lo hi 1 cs.length).filterMap λj=>(tx cs).cps[j]?)=cutL cs lo hi:=by
    rw [<-hp];simp [tx]
   rw [this]
theorem JX{α:Type}(xs:List α)(k:Nat):cutL xs (some (k:Int)) none=xs.drop k:=by
 unfold cutL YA;simp only [show ¬((k:Int)<0) by omega,if_false,Int.toNat_natCast]
 by_cases h:k<=xs.length
 · rw [Nat.min_eq_left h,List.take_of_length_le (by simp)]
 · rw [Nat.min_eq_right (by omega),List.drop_eq_nil_of_le (Nat.le_refl _),List.drop_eq_nil_of_le (by omega)]
   simp
theorem Zjh{α:Type}(xs:List α)(k:Nat):cutL xs none (some (k:Int))=xs.take k:=by
 unfold cutL YA;simp only [show ¬((k:Int)<0) by omega,if_false,Int.toNat_natCast,List.drop_zero,Nat.sub_zero]
 by_cases h:k<=xs.length
 · rw [Nat.min_eq_left h]
 · rw [Nat.min_eq_right (by omega),List.take_of_length_le (Nat.le_refl _),List.take_of_length_le (by omega)]
end L2
namespace L2
open PySem Builtin Builtin.Str
def Zo(n:Nat):List Nat:=(Nat.toDigits 10 n).map Char.toNat
def UC(c:Nat):Bool:=decide (48<=c)&&decide (c<=57)
def Y5(cs:List Nat):Nat:=cs.foldl (λacc c=>acc*10+(c-48)) 0
theorem JY(cs:List Nat)(c i:Nat):StrLaws.At (tx cs) (tx [c]) (tx cs).length i ↔ cs[i]? = some c:=by
 have:=StrLaws.subAt_one (tx cs) c i;rw [Xw]at this;exact this
theorem ZaM(cs:List Nat)(a b:Nat):strSub (tx cs) a b=tx ((cs.drop a).take (b-a)):=by
 rw [<-Zbq (strSub (tx cs) a b),StrLaws.strSub_toList,Xw]
def ZU(c:Nat):List Nat->List (List Nat)
 | []=>[[]]
 |x::xs=>if x=c then []::ZU c xs else match ZU c xs with
  | []=>[[x]]
  |p::ps=>(x::p)::ps
theorem U6(c:Nat):∀cs,ZU c cs≠[]
 | []=>by simp [ZU]
 |x::xs=>by
  unfold ZU
  split
  · simp
  · split<;>simp
theorem JZ{c:Nat}:∀{cs:List Nat},c∉cs->ZU c cs=[cs]
 | [],_=>rfl
 |x::xs,h=>by
  have hx:¬x=c:=λe=>h (by rw [e];exact List.mem_cons_self)
  unfold ZU;rw [if_neg hx,JZ λm=>h (List.mem_cons_of_mem _ m)]
theorem Zas{c:Nat}:∀{p r:List Nat},c∉p->ZU c (p++c::r)=p::ZU c r
 | [],r,_=>by
  show ZU c (c::r)=_;rw [ZU,if_pos rfl]
 |x::p,r,h=>by
  have hx:¬x=c:=λe=>h (by rw [e];exact List.mem_cons_self)
  show ZU c (x::(p++c::r))=_;rw [ZU,if_neg hx,Zas λm=>h (List.mem_cons_of_mem _ m)]
theorem Zhv{cs:List Nat}{d c:Nat}(h:cs[d]? = some c):cs.drop d=c::cs.drop (d+1):=by
 have hl:d<cs.length:=(List.getElem?_eq_some_iff.mp h).1;rw [List.drop_eq_getElem_cons hl];have:=(List.getElem?_eq_some_iff.mp h).2;rw [this]
theorem ZfT{cs:List Nat}{c a d:Nat}(h:∀k,a<=k->k<d->¬cs[k]? = some c):c∉(cs.drop a).take (d-a):=by
 intro hm;obtain⟨j,hj⟩:=List.getElem?_of_mem hm
 have hlt:j<d-a:=by
  have h1:=(List.getElem?_eq_some_iff.mp hj).1;rw [List.length_take]at h1;omega
 rw [List.getElem?_take_of_lt hlt,List.getElem?_drop]at hj;exact h (a+j) (by omega) (by omega) hj
theorem Zfe{cs:List Nat}{c a:Nat}(h:∀k,a<=k->¬cs[k]? = some c):c∉cs.drop a:=by
 intro hm;obtain⟨j,hj⟩:=List.getElem?_of_mem hm;rw [List.getElem?_drop]at hj;exact h (a+j) (by omega) hj
theorem Zc6(cs:List Nat)(c:Nat):∀(cuts:List Nat)(a f:Nat),StrLaws.ChainG (tx cs) (tx [c]) (tx cs).length a cuts f->(∀k,f<=k->¬StrLaws.At (tx cs) (tx [c]) (tx cs).length k) ->
 StrLaws.partsFrom (tx cs) (tx [c]).length a cuts=(ZU c (cs.drop a)).map tx
 | [],a,f,h,hn=>by
  have e:f=a:=h;subst e;have hf:c∉cs.drop f:=Zfe λk hk=>λz=>hn k hk ((JY cs c k).mpr z)
  rw [JZ hf];show [strSub (tx cs) f (tx cs).length]=[tx (cs.drop f)]
  rw [ZaM,YD,List.take_of_length_le (by rw [List.length_drop];exact Nat.le_refl _)]
 |d::r,a,f,h,hn=>by
  obtain⟨had,hAt,hgap,hrest⟩:=h;have hd:=(JY cs c d).mp hAt;have ih:=Zc6 cs c r _ f hrest hn
  have e:cs.drop a=(cs.drop a).take (d-a)++c::cs.drop (d+1):=by
   have e1:(cs.drop a).drop (d-a)=cs.drop d:=by rw [List.drop_drop];congr 1;omega
   rw [<-Zhv hd,<-e1,List.take_append_drop]
  have hg:c∉(cs.drop a).take (d-a):=ZfT λk h1 h2 z=>hgap k h1 h2 ((JY cs c k).mpr z)
  rw [e,Zas hg,List.map_cons];show strSub (tx cs) a d::StrLaws.partsFrom (tx cs) (tx [c]).length (d+(tx [c]).length) r=_;rw [ih,ZaM];rfl
theorem ZfU(cs:List Nat)(c:Nat):Txt.split (tx cs) (tx [c])=(ZU c cs).map tx:=by
 have one:c∉cs->[tx cs]=(ZU c cs).map tx:=λh=>by rw [JZ h];rfl
 unfold Txt.split
 split
 · rename_i h
   refine one ?_;rw [Bool.or_eq_true,decide_eq_true_eq,decide_eq_true_eq]at h;rcases h with h|h
   · rw [YD]at h
     have:cs=[]:=List.eq_nil_of_length_eq_zero (by rw [YD]at h;have h':cs.length<1:=h;omega);subst this;simp
   · have:=StrLaws.kind_free (tx cs) c h
     rw [Xw]at this;exact this
 · split
   · rename_i h1 h2
     refine one λhm => ?_
     obtain⟨j,hj⟩:=List.getElem?_of_mem hm;obtain⟨f,hc,hn⟩:=StrLaws.occ_tight (tx cs) (tx [c]) (by rw [YD];exact Nat.le_refl _);rw [List.isEmpty_iff.mp h2]at hc;have e:f=0:=hc;exact hn j (by omega) ((JY cs c j).mpr hj)
   · obtain⟨f,hc,hn⟩:=StrLaws.occ_tight (tx cs) (tx [c]) (by rw [YD];exact Nat.le_refl _)
     have:=Zc6 cs c _ 0 f hc hn;rw [List.drop_zero]at this;rw [<-this];exact StrLaws.zip_parts _ _ _ _
def ZL(sep:List Nat):List (List Nat)->List Nat
 | []=>[]
 | [x]=>x
 |x::y::r=>x++sep++ZL sep (y::r)
theorem Zcs(sep:List Nat):∀l:List (List Nat),Str.join (tx sep) (l.map tx)=tx (ZL sep l)
 | []=>rfl
 | [x]=>rfl
 |x::y::r=>by
  show tx x++tx sep++Str.join (tx sep) ((y::r).map tx)=_;rw [Zcs sep (y::r),Zd6,Zd6];rfl
theorem ZbS:∀l:List (List Nat),ZL [] l=l.flatten
 | []=>rfl
 | [x]=>by simp [ZL]
 |x::y::r=>by
  show x++[]++ZL [] (y::r)=_;rw [ZbS (y::r)];simp
theorem Zal(c:Nat):∀l:List (List Nat),l≠[]->(∀p∈l,c∉p)->ZU c (ZL [c] l)=l
 | [],h,_=>absurd rfl h
 | [x],_,h=>JZ (h x List.mem_cons_self)
 |x::y::r,_,h=>by
  show ZU c (x++[c]++ZL [c] (y::r))=_;rw [List.append_assoc];show ZU c (x++c::ZL [c] (y::r))=_;rw [Zas (h x List.mem_cons_self),Zal c (y::r) (by simp) λp hp=>h p (List.mem_cons_of_mem _ hp)]
end L2
namespace L2
open PySem PySem.Spec PyProof.Rows
section
variable{prog:Program}{w:World}{A:Around}{R:Result->Shared->Prop}{s:Shared}
theorem Zcm {elt target iter:Expr} {ifs:List Expr} {scope:Scope} {pos:Pos} {it acc:Value} {env:Env} (I:Nat->Shared->Prop)
 (turn:∀n s,I n s->wpAny (model prog w) A (pyNext it) (λr s₁=>match r with
   |none=>R (.ok .next) s₁
   |some v=>wpAny (model prog w) A (letOwnedTupleGo target it v) (λ_ s₀=>wpAny (model prog w) A (assign target env v) (λ_ s₂=>
    wpAny (model prog w) A (forIn ifs true λc r=>if r=true then do let ok <-isTrue c env (eval c env);pure (ForInStep.yield ok)else pure (ForInStep.yield r)) (λok s₃=>
     if ok=true then wpAny (model prog w) A (eval elt env) (λx s₄=>
      wpAny (model prog w) A (call (.builtin "list.append") [acc,x]) (λ_ s₅=>∃m,m<n/\I m s₅) (notedBy (model prog w) A env λe s'=>R (.error e) s') s₄) (notedBy (model prog w) A env λe s'=>R (.error e) s') s₃
     else ∃m,m<n/\I m s₃) (notedBy (model prog w) A env λe s'=>R (.error e) s') s₂) (notedBy (model prog w) A env λe s'=>R (.error e) s') s₀) (notedBy (model prog w) A env λe s'=>R (.error e) s') s₁) (notedBy (model prog w) A env λe s'=>R (.error e) s') s)
 (n:Nat) (h:I n s) :
 codeAny (model prog w) A (.compLoop (.ListComp elt [⟨target,iter,ifs,0⟩] scope pos) 0 it acc env) R s:=by
 refine codeAny_loop rfl I (λn s hI => ?_) n h;show wpAny _ A ((compTurn (.ListComp elt [⟨target,iter,ifs,0⟩] scope pos) 0 it acc env).onRaise (λx=>do noteFrame x env;theTreesLotGoes x)) _ _ s;refine wpAny_noted ?_;rw [compTurn_list];refine wpAny_bind (wpAny_standAt (wpAny_bind (wpAny_mono (turn n s hI) (λr s₁ h₁ => ?_) λ_ _ h'=>h')));cases r with
 |none=>exact wpAny_pure h₁
 |some v=>
  refine wpAny_bind (wpAny_mono h₁ (λ_ s₀ h₀ => ?_) λ_ _ h'=>h');refine wpAny_bind (wpAny_mono h₀ (λ_ s₂ h₂=>wpAny_bind (wpAny_mono h₂ (λok s₃ h₃ => ?_) λ_ _ h'=>h')) λ_ _ h'=>h');cases ok with
  |false=>exact wpAny_pure ⟨rfl,h₃⟩
  |true=>
   exact wpAny_bind (wpAny_bind (wpAny_mono h₃ (λx s₄ h₄=>wpAny_bind (wpAny_mono h₄ (λ_ s₅ h₅=>wpAny_pure (wpAny_pure ⟨rfl,h₅⟩)) λ_ _ h'=>h')) λ_ _ h'=>h'))
end
def Xh(cells:List (Str×Addr)):List (Str×NameKind)->List (Str×Addr)->List (Str×Addr)
 | [],acc=>acc
 |(n,k)::r,acc=>Xh cells r (if(k == .free)=true then(n,(cells.lookup n).getD 0)::acc else acc)
theorem Zaf{env:Env}:∀(names:List (Str×NameKind))(acc:List (Str×Addr)),(∀x∈names,x.2 = .free->∃c,env.cells.lookup x.1=some c) ->
 (forIn names acc λ(x:Str×NameKind) (r:List (Str×Addr))=>match x with
   |(name,kind)=>if(kind == .free)=true then(do let c <-cellOf env name;pure (ForInStep.yield ((name,c)::r)))else pure (ForInStep.yield r))=(pure (Xh env.cells names acc):Sem _)
 | [],acc,_=>rfl
 |(n,k)::r,acc,h=>by
  rw [List.forIn_cons];show((if(k == .free)=true then(do let c <-cellOf env n;pure (ForInStep.yield ((n,c)::acc)))else pure (ForInStep.yield acc)) >>= _)=_
  by_cases hk:(k == .free)=true
  · obtain⟨c,hc⟩:=h (n,k) List.mem_cons_self (by simpa using hk)
    have e:cellOf env n=pure c:=by
     unfold cellOf;rw [hc]
    rw [if_pos hk,e];show(forIn r ((n,c)::acc) _:Sem _)=_;rw [Zaf r _ λx hx=>h x (List.mem_cons_of_mem _ hx)]
    conv=>rhs;unfold Xh
    rw [if_pos hk,hc];rfl
  · rw [if_neg hk]
    show(forIn r acc _:Sem _)=_;rw [Zaf r _ λx hx=>h x (List.mem_cons_of_mem _ hx)]
    conv=>rhs;unfold Xh
    rw [if_neg hk]
theorem Zap{scope:Scope}{env:Env}(h:∀x∈scope.names,x.2 = .free->∃c,env.cells.lookup x.1=some c):closureFor scope env=pure (Xh env.cells scope.names []):=by
 have e:=Zaf (env:=env) scope.names [] h;unfold closureFor;show((forIn scope.names ([]:List (Str×Addr)) _:Sem _) >>= λcs=>pure cs)=_
 have e2:(forIn scope.names ([]:List (Str×Addr)) λ(x:Str×NameKind) (r:List (Str×Addr))=>match x with
  |(name,kind)=>if(kind == .free)=true then(do let c <-cellOf env name;pure (ForInStep.yield ((name,c)::r)))else pure (ForInStep.yield r))=(pure (Xh env.cells scope.names []):Sem _):=e
 rw [e2];rfl
theorem QV{cells:List (Str×Addr)}{x:Str}{c:Addr}:∀(names:List (Str×NameKind))(acc:List (Str×Addr)),(∀y∈names,y.2 = .free->∃c,cells.lookup y.1=some c) ->
 (∀c,acc.lookup x=some c->cells.lookup x=some c)->(Xh cells names acc).lookup x=some c->cells.lookup x=some c
 | [],acc,_,ha,h=>ha c h
 |(n,k)::r,acc,hf,ha,h=>by
  unfold Xh at h;refine QV r _ (λy hy=>hf y (List.mem_cons_of_mem _ hy)) (λc' h' => ?_) h
  by_cases hk:(k == .free)=true
  · rw [if_pos hk]at h'
    obtain⟨c0,hc0⟩:=hf (n,k) List.mem_cons_self (by simpa using hk);rw [List.lookup_cons]at h';cases hx:x == n with
    |true=>
     rw [hx]at h';have e:x=n:=eq_of_beq hx;subst e;have h'':(cells.lookup x).getD 0=c':=Option.some.inj h';have hc0':cells.lookup x=some c0:=hc0;rw [hc0']at h'' ⊢;exact congrArg some h''
    |false=>
     rw [hx]at h';exact ha c' h'
  · rw [if_neg hk]at h'
    exact ha c' h'
theorem ZaN{cells:List (Str×Addr)}{x:Str}:∀(names:List (Str×NameKind))(acc:List (Str×Addr)),((x,NameKind.free)∈names\/∃c,acc.lookup x=some c)->∃c,(Xh cells names acc).lookup x=some c
 | [],acc,h=>by
  rcases h with h|h
  · cases h
  · exact h
 |(n,k)::r,acc,h=>by
  unfold Xh;refine ZaN r _ ?_;rcases h with h|⟨c,h⟩
  · rcases List.mem_cons.mp h with e|e
    · cases e
      refine .inr ⟨(cells.lookup x).getD 0,?_⟩;rw [if_pos (by rfl),List.lookup_cons];simp
    · exact .inl e
  · refine .inr ?_
    by_cases hk:(k == .free)=true
    · rw [if_pos hk,List.lookup_cons]
      cases hx:x == n with
      |true=>exact⟨_,rfl⟩
      |false=>exact⟨c,h⟩
    · rw [if_neg hk]
      exact⟨c,h⟩
structure CompSc(X:Cx)(scope:Scope)(tn cn:List Str)(js:List Nat):Prop where
 kind:scope.kind = .function
 nocell:∀y∈scope.names,y.2 ≠ .cell
 names:∀y∈scope.names,y.2 = .local->scope.names.lookup y.1=some .local
 free:∀y∈scope.names,y.2 = .free->X.env.kindOf y.1=some .cell\/X.env.kindOf y.1=some .free
 cap:∀(k:Nat)(x:Str),cn[k]? = some x->∃j,js[k]? = some j/\X.N[j]? = some x/\(X.env.kindOf x=some .cell\/X.env.kindOf x=some .free)/\scope.names.lookup x=some .free
 len:cn.length=js.length
def U7(σ:St)(js:List Nat):St:=js.map λj=>(σ[j]?).getD none
def blk(n:Nat)(σ:St)(js:List Nat):St:=List.replicate n none++U7 σ js
section
variable{X:Cx}{pins:List (Addr×Obj)}{σ:St}{H₂:Hp}{s₂:Shared}{scope:Scope}{tn cn:List Str}{js:List Nat}
theorem Zaw{env:Env}:∀{names:List (Str×NameKind)}{x:Str},names.lookup x=some .free ->
 (names.map λ(n,k)=>if(k == NameKind.free&&env.scope.kind == .function&&env.kindOf n == some .cell)then(n,NameKind.cell)else(n,k)).lookup x=some .cell \/
 (names.map λ(n,k)=>if(k == NameKind.free&&env.scope.kind == .function&&env.kindOf n == some .cell)then(n,NameKind.cell)else(n,k)).lookup x=some .free
 | [],_,h=>by simp at h
 |(n,k0)::r,x,h=>by
  have ih := @Zaw env r x
  show List.lookup x ((if(k0 == NameKind.free&&env.scope.kind == .function&&env.kindOf n == some .cell)=true then(n,NameKind.cell)else(n,k0))::_)=_ \/
   List.lookup x ((if(k0 == NameKind.free&&env.scope.kind == .function&&env.kindOf n == some .cell)=true then(n,NameKind.cell)else(n,k0))::_)=_
  cases hx:x == n with
  |true=>
   simp only [List.lookup_cons,hx]at h;cases h
   by_cases hb:(NameKind.free == NameKind.free&&env.scope.kind == .function&&env.kindOf n == some .cell)=true
   · rw [if_pos hb];simp [List.lookup_cons,hx]
   · rw [if_neg hb];simp [List.lookup_cons,hx]
  |false=>
   simp only [List.lookup_cons,hx]at h
   by_cases hb:(k0 == NameKind.free&&env.scope.kind == .function&&env.kindOf n == some .cell)=true
   · rw [if_pos hb];simp only [List.lookup_cons,hx];exact ih h
   · rw [if_neg hb];simp only [List.lookup_cons,hx];exact ih h
theorem blk_len(S:CompSc X scope tn cn js):(blk tn.length σ js).length=(tn++cn).length:=by
 unfold blk U7;rw [List.length_append,List.length_append,List.length_replicate,List.length_map,S.len]
end
def PTs(X:Cx)(ifs:List Expr)(t:TT):Prop:=
 ∀(pins:List (Addr×Obj))(s:Shared)(σ:St)(H:Hp)(Q:Bool->Hp->Prop),Inv X pins σ H s->t σ H Q ->
  wpAny (model X.prog X.w) X.A (forIn ifs true λc r=>if r=true then do let ok <-isTrue c X.env (eval c X.env);pure (ForInStep.yield ok)else pure (ForInStep.yield r)) (TP X pins σ Q) X.xe s
def tYes:TT:=λ_ H Q=>Q true H
theorem X6{X:Cx}:PTs X [] tYes:=λ_ _ _ H _ I h=>wpAny_tests_nil ⟨H,I,h⟩
theorem Zhw{X:Cx}{c:Expr}{t:TT}(h:PT X c t):PTs X [c] t:=λpins s σ H Q I q=>wpAny_tests_one (h pins s σ H Q I q)
def Zha(wi:TI)(g:TG)(tt:TT)(te:TE)(n:Nat)(js:List Nat):TE:=λσ H Q=>wi σ H λJ H1=>
 ∃W:Nat->Nat->List V->Hp->Prop,(∃m,W 0 m [] H1)/\∀i m ys H,W i m ys H ->
  (J.stop i H/\∀p,H p=none->Q (.ref p) (upd H p (.lst ys))) \/
  (J.go i H/\∀x H',J.yld i H x H'->g x (blk n σ js) H' λσ2 H2=>tt σ2 H2 λb H3=>
    if b=true then te σ2 H3 λy H4=>ys.length<sizeLine/\∃m',m'<m/\W (i+1) m' (ys++[y]) H4 else ∃m',m'<m/\W (i+1) m' ys H3)
section
variable{X:Cx}{tg iter elt:Expr}{ifs:List Expr}{scope:Scope}{pos:Pos}{wi:TI}{g:TG}{tt:TT}{te:TE}{tn cn:List Str}{js:List Nat}
theorem U8{α:Type}{M:Model}{A:Around}{m:Sem α}{Q:α->Shared->Prop}{E:Value->Shared->Prop}{s:Shared}(h:wpAny M A m Q (λ_ _=>False) s):wpAny M A m Q E s:=wpAny_mono h (λ_ _ q=>q) λ_ _ z=>z.elim
end
end L2
namespace L2
open PySem PySem.Spec PyProof.Rows
abbrev S(cs:List Nat):V := .str (tx cs)
theorem Zlo{a b:List Nat}:S a=S b ↔ a=b:=by
 constructor
 · intro h
   exact tx_inj.mp (V.str.inj h)
 · rintro rfl;rfl
section
variable{X:Cx}{pos:Pos}
theorem Zu{x:Str}{j:Nat}(cs:List Nat)(h:x=tx cs):PE X (.Constant (.str x) j pos) (tC (S cs)):=by
 subst h;exact Zi8
def Its(cs:List Nat):It:=⟨λi _=>i<cs.length,λi H v H'=>H'=H/\∃c,cs[i]? = some c/\v=S [c],λi _=>cs.length<=i⟩
theorem J0(x:Str):strIterType x = "str_ascii_iterator" \/ strIterType x = "str_iterator" := by
 unfold strIterType
 split
 · exact .inl rfl
 · exact .inr rfl
theorem ZfV{P:Program}{w:World}{K:PySem.W.Frag}{tg:Expr}(it:Addr)(cs:List Nat)(t:Tok):Turn P w K tg (Its cs) [it] it (λi h=>h.IsStrIter it (strIterType (tx cs)) (tx cs) t i) where
 mem:=by simp
 obj:=λi h st b hb=>by
  have e:b=it:=by simpa using hb
  subst e;obtain⟨o,e,c,d⟩:=st;exact⟨o,e,λv z=>by rw [d]at z;cases z⟩
 keep:=λi h h' st k=>by
  obtain⟨o,e,r⟩:=st;exact⟨o,k it (by simp) o e,r⟩
 item:=by
  intro X hP hw hK hc i pins s σ H E I hf st hg;subst hP hw hK;obtain⟨f0,f1,f2,f3,f4,f5⟩:=hf it (by simp);have hg:i<cs.length:=hg;have hx:(tx cs).cps[i]? = some cs[i]:=by simp [tx,hg]
  have fin:∀(h':Heap),h'.IsStrIter it (strIterType (tx cs)) (tx cs) t (i+1)->Heap.SameBut it s.heap h' ->
   ∃u,some (Value.str ⟨#[cs[i]]⟩ s.toks)=some u/\wpAny (model X.prog X.w) X.A (letOwnedTupleGo tg (.ref it) u) (λ_ s2=>∃x H',Inv X pins σ H' s2/\RelV x u/\(Its cs).yld i H x H'/\s2.heap.IsStrIter it (strIterType (tx cs)) (tx cs) t (i+1)/\∀b∈[it],H' b=none) E { s with heap:=h',toks:=s.toks+1 }:=λh' st' sb=>by
   have I1:Inv X pins σ H { s with heap:=h',toks:=s.toks+1 }:=I.turned (λb o hb e=>(sb.2 b hb).trans e) f0 f1 f3 f4 f5;obtain⟨o,e,hc',d⟩:=id st';refine⟨_,rfl,JQ (s:={ s with heap:=h',toks:=s.toks+1 }) e hc' d ?_ ⟨S [cs[i]],H,I1,⟨s.toks,rfl⟩,⟨rfl,cs[i],by simp [hg],rfl⟩,st',λb hb=>(hf b hb).1⟩⟩;rcases J0 (tx cs)with z|z<;>rw [z]<;>decide
  rcases J0 (tx cs)with z|z
  · rw [z]at st
    refine wpAny_pyNext_ascii_item st hx λh' st' sb=>fin h' (by rw [z];exact st') sb
  · rw [z]at st
    refine wpAny_pyNext_wide_item st hx λh' st' sb=>fin h' (by rw [z];exact st') sb
 done:=by
  intro X hP hw hK hc i pins s σ H E I hf st hg;subst hP hw hK;obtain⟨f0,f1,f2,f3,f4,f5⟩:=hf it (by simp);have hg:cs.length<=i:=hg;have hx:(tx cs).cps[i]? = none:=by simp [tx];omega
  rcases J0 (tx cs)with z|z
  · rw [z]at st
    exact wpAny_pyNext_ascii_end (I.ok.hd hc) st hx λh' eb=>⟨rfl,I.turned (t':=s.toks) (λb o hb e=>eb b o hb e) f0 f1 f3 f4 f5⟩
  · rw [z]at st
    exact wpAny_pyNext_wide_end (I.ok.hd hc) st hx λh' eb=>⟨rfl,I.turned (t':=s.toks) (λb o hb e=>eb b o hb e) f0 f1 f3 f4 f5⟩
 self:=λ_ i _ _ _ st h=>by
  rcases J0 (tx cs)with z|z
  · rw [z]at st
    exact wpAny_pyIter_striter_ascii st h
  · rw [z]at st
    exact wpAny_pyIter_striter_wide st h
variable{tg:Expr}
def ZkX(K:PySem.W.Frag)(tl:TE):TI:=λσ H R=>tl σ H λx H1=>(∃a xs,x = .ref a/\SqL K H1 a xs/\R (Itl K a) H1)\/(∃a xs,x = .ref a/\SqT K H1 a xs/\R (Itt K a) H1)\/∃cs,x=S cs/\R (Its cs) H1
theorem Zji{l:Expr}{tl:TE}(hl:PE X l tl):PI X tg l (ZkX X.K tl):=by
 intro pins s σ H R I h;refine thn (hl pins s σ H _ I h) λv s1 ⟨x,H1,I1,r1,q1⟩ => ?_
 rcases q1 with⟨a,xs,e,hq,q⟩|⟨a,xs,e,hq,q⟩|⟨cs,e,q⟩
 · subst e
   cases r1;obtain⟨its,rv,p,hz⟩:=I1.list hq;refine wpAny_pyIter_list p.isList ?_;refine⟨s1.heap.objs.size,[s1.heap.objs.size],_,_,H1,rfl,I1.kept (t':=s1.toks) λb o e=>Heap.get?_push_of_some _ e,Ze4 a _,⟨_,Heap.get?_push_size _ rfl,rfl,rfl⟩,λb hb => ?_,q⟩;have e:b=s1.heap.objs.size:=by simpa using hb
   subst e;exact I1.fpOk (Nat.le_refl _) (I1.hok.fresh (Nat.le_refl _))
 · have hpi:=Zjb (X:=X) (tg:=tg) (l:=l) (tl:=λ_ H Q=>Q (.ref a) H)
   subst e;cases r1;obtain⟨its,rv,p,hz⟩:=I1.tuple hq;refine wpAny_pyIter_tuple (show s1.heap.IsTuple a its.toArray from p) ?_;refine⟨s1.heap.objs.size,[s1.heap.objs.size],_,_,H1,rfl,I1.kept (t':=s1.toks) λb o e=>Heap.get?_push_of_some _ e,Za2 a _,⟨_,Heap.get?_push_size _ rfl,rfl,rfl⟩,λb hb => ?_,q⟩;have e:b=s1.heap.objs.size:=by simpa using hb
   subst e;exact I1.fpOk (Nat.le_refl _) (I1.hok.fresh (Nat.le_refl _))
 · subst e
   obtain⟨t,rfl⟩:=r1;refine wpAny_pyIter_strU ?_;refine⟨s1.heap.objs.size,[s1.heap.objs.size],_,_,H1,rfl,I1.kept (t':=s1.toks) λb o e=>Heap.get?_push_of_some _ e,ZfV _ cs t,⟨_,Heap.get?_push_size _ rfl,rfl,rfl⟩,λb hb => ?_,q⟩;have e:b=s1.heap.objs.size:=by simpa using hb
   subst e;exact I1.fpOk (Nat.le_refl _) (I1.hok.fresh (Nat.le_refl _))
def rAddS:R2:=λx y H Q=>∃a b,x=S a/\y=S b/\a.length+b.length<=sizeLine/\Q (S (a++b)) H
theorem op_addS:OpR X (binaryOp .Add) rAddS:=by
 intro pins s σ H x y v u Q I rx ry h;obtain⟨a,b,rfl,rfl,hz,q⟩:=h;refine ZdF pins s σ H _ _ v u Q I rx ry ⟨tx a,tx b,rfl,rfl,by rw [YD,YD];exact hz,?_⟩;rw [Zd6];exact q
def Zlp:R2:=λx y H Q=>rI0 (λi j => .int (i+j)) x y H Q\/rAddS x y H Q\/Zm5 x y H Q
def ZkY(neg:Bool):R2:=λx y H Q=>∃c b,x=S [c]/\y=S b/\Q (.bl (neg != decide (c∈b))) H
theorem op_inS:OpR X (compareOp .In) (ZkY false):=by
 intro pins s σ H x y v u Q I rx ry h;obtain⟨c,b,rfl,rfl,q⟩:=h;refine Ze5 pins s σ H _ _ v u Q I rx ry ⟨tx [c],tx b,rfl,rfl,?_⟩;have e:=StrLaws.found_one (tx b) c;rw [Xw]at e;rw [show tx [c]=(⟨#[c]⟩:Str)from rfl,e];simpa using q
theorem op_notInS:OpR X (compareOp .NotIn) (ZkY true):=by
 intro pins s σ H x y v u Q I rx ry h;obtain⟨c,b,rfl,rfl,q⟩:=h;refine Zcg pins s σ H _ _ v u Q I rx ry ⟨tx [c],tx b,rfl,rfl,?_⟩;have e:=StrLaws.found_one (tx b) c;rw [Xw]at e;rw [show tx [c]=(⟨#[c]⟩:Str)from rfl,e];simpa using q
def U9(K:PySem.W.Frag)(neg:Bool):R2:=λx y H Q=>ZkY neg x y H Q\/rIn K neg x y H Q
theorem Zjj:OpR X (compareOp .In) (U9 X.K false):=op_inS.or Ze9
theorem Zff:OpR X (compareOp .NotIn) (U9 X.K true):=op_notInS.or Zcj
def rIxSt:R2:=λx y H Q=>∃a i c,x=S a/\y = .int i/\a.length<=sizeLine/\atI a i=some c/\Q (S [c]) H
theorem Zm7:IxR X rIxSt:=by
 intro value slice pins s σ H x y v u Q I rx ry h hs;obtain⟨a,i,c,rfl,rfl,hz,he,q⟩:=h;exact ix_str value slice pins s σ H _ _ v u Q I rx ry ⟨tx a,i,c,rfl,rfl,by rw [YD];exact hz,by rw [Xw];exact he,q⟩ hs
def ZkZ(K:PySem.W.Frag):R2:=λx y H Q=>ZmK K x y H Q\/ZmL K x y H Q\/rIxSt x y H Q
theorem Zm8:IxR X (ZkZ X.K):=ix_list.or (ix_tup.or Zm7)
def rSlS:V->Option Int->Option Int->Hp->VK->Prop:=λx lo hi H Q=>∃a,x=S a/\a.length<=sizeLine/\Q (S (cutL a lo hi)) H
theorem sl_S:SlR X rSlS:=by
 intro pins s σ H x v vl vu lo hi sl Q I rx hs pl pu h;obtain⟨a,rfl,hz,q⟩:=h;obtain⟨t,rfl⟩:=rx;refine⟨"str",_,F.slot_str_getitem.lookup,typeIs_str _ _ _,?_⟩;have fin:∀t' k,EP X pins σ Q (.str (Txt.slice (tx a) lo hi) t') { s with toks:=k }:=λt' k=>⟨S (cutL a lo hi),H,I.tok _,⟨t',by rw [ZfS]⟩,q⟩
 have hle:(Txt.slice (tx a) lo hi).length<=sizeLine:=Nat.le_trans (Txt.slice_le _ _ _) (by rw [YD];exact hz);cases pl with
 |none=>
  cases pu with
  |none=>exact wpAny_getItem_str_slice (l:=none) (u:=none) (st:=none) hs rfl (post_val_or_str ⟨hle,fin⟩)
  |int j uj=>exact wpAny_getItem_str_slice (l:=none) (u:=some (j,uj)) (st:=none) hs rfl (post_val_or_str ⟨hle,fin⟩)
 |int i ui=>
  cases pu with
  |none=>exact wpAny_getItem_str_slice (l:=some (i,ui)) (u:=none) (st:=none) hs rfl (post_val_or_str ⟨hle,fin⟩)
  |int j uj=>exact wpAny_getItem_str_slice (l:=some (i,ui)) (u:=some (j,uj)) (st:=none) hs rfl (post_val_or_str ⟨hle,fin⟩)
def Zk0(K:PySem.W.Frag):V->Option Int->Option Int->Hp->VK->Prop:=λx lo hi H Q=>rSlS x lo hi H Q\/ZmM K x lo hi H Q\/ZmJ K x lo hi H Q
theorem Zm9:SlR X (Zk0 X.K):=sl_S.or (sl_list.or Zje)
def Zhb(K:PySem.W.Frag):List V->Hp->VK->Prop:=λxs H Q=>(∃a,xs=[S a]/\a.length<=sizeLine/\Q (.int a.length) H)\/∃p ys,xs=[.ref p]/\(SqL K H p ys\/SqT K H p ys)/\Q (.int ys.length) H
theorem Zfg:YI X (.builtin "len") (Zhb X.K):=by
 intro pins s σ H xs us Q I rs q;rcases q with⟨a,rfl,hz,q⟩|q
 · exact Zcl pins s σ H _ us Q I rs ⟨tx a,rfl,by rw [YD];exact hz,by rw [YD];exact q⟩
 · exact Zck pins s σ H xs us Q I rs q
theorem Zgt(n:Nat):(toString (n:Int):Str)=tx (Zo n):=by
 rw [<-Zbq (toString (n:Int):Str)]
 congr 1
 exact PySem.W.KIN.signs_num n
def rStrI:List V->Hp->VK->Prop:=λxs H Q=>∃n:Nat,xs=[.int n]/\n<10 ^ 10/\Q (S (Zo n)) H
theorem Qa:YI X (.type "str") rStrI:=by
 intro pins s σ H xs us Q I rs h;obtain⟨n,rfl,hn,q⟩:=h;refine Zch pins s σ H _ us Q I rs ⟨(n:Int),rfl,?_,?_⟩
 · have h1 : n.log2 < 40 := by
    by_cases h0:n=0
    · subst h0;decide
    · exact(Nat.log2_lt h0).mpr (Nat.lt_trans hn (by decide))
   show(n:Int).natAbs.log2<1920;rw [Int.natAbs_natCast];omega
 · rw [Zgt]
   exact q
def rIntX:List V->Hp->VK->Prop:=λxs H Q=>(∃a,xs=[S a]/\a.length<=640/\a≠[]/\a.all UC=true/\Q (.int (Y5 a:Nat)) H)\/(∃k,xs=[.bl k]/\Q (.int (if k then 1 else 0)) H)
theorem ZaO:YI X (.type "int") rIntX:=by
 intro pins s σ H xs us Q I rs h;rcases h with⟨a,rfl,hl,hne,hd,q⟩|h
 · obtain⟨u,rfl,t,rfl⟩:=XH rs
   have hd':PySem.NumText.AllDigits (tx a).cps.toList:=by
    rw [Xw];intro c hc;have:=List.all_eq_true.mp hd c hc;unfold UC at this;rw [Bool.and_eq_true,decide_eq_true_eq,decide_eq_true_eq]at this;exact this
   have e:=PySem.intText_digits hd' (by rw [Xw];exact hne) (by rw [YD];omega);rw [Xw]at e;exact PySem.W.KIN.call_text e (by rw [YD];exact hl) ⟨.int (Y5 a:Nat),H,I.tok _,⟨_,rfl⟩,q⟩
 · exact Ze6 pins s σ H xs us Q I rs (.inr h)
theorem Zhx(bs:List Bool):∀(its:List Value),Vals (bs.map V.bl) its->its=bs.map Value.bool:=by
 induction bs with
 |nil=>intro its r;cases r;rfl
 |cons b bs ih=>
  intro its r;cases r with
  |cons r1 r2=>
   rw [ih _ r2];cases r1;rfl
theorem Zfh(bs:List Bool):((List.range bs.length).all λi=>bs.getD i false)=bs.all id:=by
 rw [Bool.eq_iff_iff,List.all_eq_true,List.all_eq_true];constructor
 · intro h b hb
   obtain⟨i,hi⟩:=List.getElem?_of_mem hb;have hl:i<bs.length:=(List.getElem?_eq_some_iff.mp hi).1;have:=h i (List.mem_range.mpr hl);rw [List.getD_eq_getElem?_getD,hi]at this;exact this
 · intro h i hi
   have hl:=List.mem_range.mp hi;have:=h bs[i] (List.getElem_mem hl);rw [List.getD_eq_getElem?_getD,List.getElem?_eq_getElem hl];exact this
def Zhc(K:PySem.W.Frag)(f:List Bool->Bool):List V->Hp->VK->Prop:=λxs H Q=>∃p bs,xs=[.ref p]/\SqL K H p (bs.map V.bl)/\Q (.bl (f bs)) H
theorem ZdN {pins:List (Addr×Obj)} {σ:St} {H:Hp} {s:Shared} {p:Addr} {bs:List Bool} {Q:Value->Shared->Prop} {E:Value->Shared->Prop} {f:(Nat->Bool)->Bool} (hc:X.calm=true) (I:Inv X pins σ H s) (hq:SqL X.K H p (bs.map V.bl))
 (q:∀h' tk,(∀b o,s.heap.get? b=some o->h'.get? b=some o)->Q (.bool (f λi=>bs.getD i false)) { s with heap:=h',toks:=tk }) :
 wpAny (model X.prog X.w) X.A.in1 (pyIter (.ref p)) (λit s₂=>∃I fp wr n P St tr,it = .ref I/\Walks X.prog X.w X.A.in1 I fp wr n P St/\St 0 s₂.heap/\TruthOf X.prog X.w X.A.in1 P tr /\
  n=bs.length/\tr=(λi=>bs.getD i false)/\∀h' tk,(∀b o,b∉wr->s₂.heap.get? b=some o->h'.get? b=some o)->Q (.bool (f tr)) { s₂ with heap:=h',toks:=tk }) E s:=by
 obtain⟨its,rv,pl,hz⟩:=I.list hq;have e:=Zhx bs its rv;subst e;refine wpAny_pyIter_list pl.isList ?_;have hlt:p<s.heap.objs.size:=pl.lt;have hh:X.A.in1.handled=none:=I.ok.hd hc;refine⟨s.heap.objs.size,_,_,_,_,_,λi=>bs.getD i false,rfl,Walks.list hh _ p (Nat.ne_of_lt hlt) (bs.map Value.bool).toArray,⟨⟨_,Heap.get?_push_size _ rfl,rfl,rfl⟩,(pl.keeps λb o e=>Heap.get?_push_of_some _ e).isList⟩,?_,by simp,rfl,λh' tk k => ?_⟩
 · intro i v s' Q' E' hv hq'
   have:v=Value.bool (bs.getD i false):=by
    have hv':(bs.map Value.bool)[i]? = some v:=by simpa using hv
    rw [List.getElem?_map]at hv';rw [List.getD_eq_getElem?_getD];cases e:bs[i]? with
    |none=>rw [e]at hv';cases hv'
    |some b=>rw [e]at hv';exact(Option.some.inj hv').symm
   subst this;exact wpAny_truthy_bool hq'
 · refine q h' tk λb o e=>k b o (λz => ?_) (Heap.get?_push_of_some _ e)
   have h1:=Heap.lt_size e;have h2:b=s.heap.objs.size:=by simpa using z
   rw [h2]at h1;exact Nat.lt_irrefl _ h1
theorem Zfi(hc:X.calm=true):YI X (.builtin "all") (Zhc X.K λbs=>bs.all id):=by
 intro pins s σ H xs us Q I rs h;obtain⟨p,bs,rfl,hq,q⟩:=h;obtain⟨u,rfl,rx⟩:=XH rs;cases rx;have z:=ZdN (f:=λtr=>(List.range bs.length).all tr) (Q:=EP X pins σ Q) (E:=X.xe) hc I hq λh' tk k=>⟨.bl _,H,I.kept k,rfl,by rw [Zfh];exact q⟩
 refine call_all_walk (wpAny_mono z (λit s₂ z2 => ?_) λ_ _ z=>z);obtain⟨I',fp,wr,n,P,St,tr,e1,W,st,ht,en,et,hq'⟩:=z2;exact⟨I',fp,wr,n,P,St,tr,e1,W,st,ht,λh' tk k=>by rw [en];exact hq' h' tk k⟩
theorem ZfW:YI X (.builtin "isinstance") (λxs H Q=>∃x c cv t b,xs=[x,c]/\(∀v,RelV c v->v=cv)/\TyOf X.K H x t/\kitOne X.K t cv=some b/\Q (.bl b) H):=by
 intro pins s σ H xs us Q I rs h;obtain⟨x,c,cv,t,b,rfl,hc,ty,e,q⟩:=h;obtain⟨u,w',rfl,rx,rc⟩:=QR rs;have ec:=hc _ rc;subst ec;exact Ze7 I rx ty e λtk=>⟨.bl b,H,I.tok tk,rfl,q⟩
end
section
variable{X:Cx}{K:PySem.W.Frag}{pos:Pos}{tg:Expr}
theorem J4(hK:X.K=K:=by rfl):OpR X (compareOp .In) (U9 K false):=hK▸Zjj
theorem Zc7(hK:X.K=K:=by rfl):OpR X (compareOp .NotIn) (U9 K true):=hK▸Zff
theorem ZD(hK:X.K=K:=by rfl):IxR X (ZkZ K):=hK▸Zm8
theorem XN(hK:X.K=K:=by rfl):SlR X (Zk0 K):=hK▸Zm9
theorem Yi(hK:X.K=K:=by rfl):YI X (.builtin "len") (Zhb K):=hK▸Zfg
theorem ZiA(hc:X.calm=true:=by rfl)(hK:X.K=K:=by rfl):YI X (.builtin "all") (Zhc K λbs=>bs.all id):=hK▸Zfi hc
def Zna(K:PySem.W.Frag):List V->Hp->VK->Prop:=λxs H Q=>∃x c cv t b,xs=[x,c]/\(∀v,RelV c v->v=cv)/\TyOf K H x t/\kitOne K t cv=some b/\Q (.bl b) H
theorem XO{l:Expr}{tl:TE}(hl:PE X l tl)(hK:X.K=K:=by rfl):PI X tg l (ZkX K tl):=hK▸Zji hl
theorem VM{e:Expr}{ta:TE}{f:Str}(he:PE X e ta)(hb:attributeBase e f X.env (eval e X.env)=eval e X.env:=by rfl)(hK:X.K=K:=by rfl):PE X (.Attribute e f pos) (ZkS K ta f):=hK▸Zjc he hb
def Zgu(K:PySem.W.Frag):List V->Hp->VK->Prop:=λxs H Q=>∃p ys,xs=[.ref p]/\((SqL K H p ys/\∀l,H l=none->Q (.ref l) (upd H l (.tup ys)))\/(SqT K H p ys/\Q (.ref p) H))
theorem J5(hK:X.K=K:=by rfl):YI X (.type "tuple") (Zgu K):=hK▸ZbH
theorem YE {o e:Expr} {es:List Expr} {to:TE} {t:TA} {name:Str} {apos cpos:Pos} {T id:String} {r:V->List V->Hp->VK->Prop} (pa:PlainAttrs T) (slot:Slot T name id) (hty:typeOf (.builtin id)=pure (.type "method_descriptor")) (hm:MtR X id r) (ho:PE X o to) (ha:PA X (e::es) t)
 (hbase:attributeBase o name X.env (eval o X.env)=eval o X.env:=by rfl)
 (hfew:((backTo cpos (starEach (e::es) X.env)).all (λx => !x.1)&&(backToKw cpos (keywordEach [] X.env)).all (λx=>x.1.isSome)
   && decide ((e::es).length+([]:List Keyword).length+(if([]:List Keyword).isEmpty then 0 else 1)<30))=true:=by rfl)
 (hline:(apos.endLine == cpos.line)=true:=by rfl) (hs:starEach (e::es) X.env=(false,eval e X.env)::starEach es X.env:=by rfl) (hplain:(backTo cpos (starEach es X.env)).any (·.1)=false:=by rfl) (hK:X.K=K:=by rfl) :
 PE X (.Call (.Attribute o name apos) (e::es) [] cpos) (tBM K T r to t):=hK▸Zlm pa slot hty hm ho ha hbase hfew hline hs hplain
theorem Zhd {es:List Expr} {k:Nat} {t:TGs} {n:Nat} (h:PGs X es t) (hc:X.calm=true:=by rfl)
 (hn:(assignEach es X.env).length=n:=by rfl) (hst:(assignEach es X.env).findIdx? (·.1)=none:=by rfl) (hK:X.K=K:=by rfl):PG X (.Tuple es k pos) (ZkP K n t):=hK▸Zja hc h hn hst
end
end L2
namespace L2
open PySem PySem.Spec PyProof.Rows
theorem ZfX{H:Hp}{q:Addr}{o:HO}(h:H q=none):Same H (upd H q o):=λb u e=>by
 rw [ZI (Xb e h)];exact e
structure Walk(J:It)(xs:List V)(H:Hp):Prop where
 go:∀i,i<xs.length->J.go i H
 yld:∀(i:Nat)v H',i<xs.length->J.yld i H v H'->H'=H/\xs[i]? = some v
 stop:∀i,xs.length<=i->J.stop i H
end L2
namespace L2
open PySem PySem.Spec PyProof.Rows
section
variable{X:Cx}{tg:Expr}
end
end L2
namespace L2
open PySem PySem.Spec PyProof.Rows
section
variable{X:Cx}{elts:List Expr}{x1:Nat}{tpos:Pos}
end
end L2
namespace L2
open PySem PySem.Spec PyProof.Rows
section
variable{κ:Type} [DecidableEq κ]
def X7(kvs:List (κ×V))(k:κ):Option V:=(kvs.find? λkv=>decide (kv.1=k)).map (·.2)
def J6(kvs:List (κ×V))(k:κ)(v:V):List (κ×V):=
 if(kvs.any λkv=>decide (kv.1=k))=true then kvs.map (λkv=>if kv.1=k then(kv.1,v)else kv)else kvs++[(k,v)]
theorem Zc8{p:κ×V}{r:List (κ×V)}{k:κ}(e:p.1=k):X7 (p::r) k=some p.2:=by simp [X7,List.find?_cons,e]
theorem Zc9{p:κ×V}{r:List (κ×V)}{k:κ}(e:¬p.1=k):X7 (p::r) k=X7 r k:=by simp [X7,List.find?_cons,e]
theorem RelO.getD{o:Option V}{u:Option Value}{d:V}{d':Value}(r:RelO o u)(rd:RelV d d'):RelV (o.getD d) (u.getD d'):=by
 cases o with
 |none=>cases u with
  |none=>exact rd
  |some _=>exact(show False from r).elim
 |some _=>cases u with
  |none=>exact(show False from r).elim
  |some _=>exact r
theorem KV.val{kvs:List (κ×V)}{vs:List (κ×Value)}(r:KV kvs vs)(k:κ):RelO (X7 kvs k) (valueAt vs k):=by
 unfold KV at r
 induction r with
 |nil=>exact True.intro
 | @cons p q ps qs h t ih=>
  obtain⟨h1,h2⟩:=h
  by_cases e:p.1=k
  · have e':q.1=k:=h1.symm.trans e
    have b:valueAt (q::qs) k=some q.2:=by simp [valueAt,List.find?_cons,e']
    rw [Zc8 e,b];exact h2
  · have e':¬q.1=k:=λz=>e (h1.trans z)
    have b:valueAt (q::qs) k=valueAt qs k:=by simp [valueAt,List.find?_cons,e']
    rw [Zc9 e,b];exact ih
theorem KV.any{kvs:List (κ×V)}{vs:List (κ×Value)}(r:KV kvs vs)(k:κ):(kvs.any λkv=>decide (kv.1=k))=vs.any λkv=>decide (kv.1=k):=by
 unfold KV at r
 induction r with
 |nil=>rfl
 |cons h t ih=>rw [List.any_cons,List.any_cons,ih,h.1]
theorem KV.length{kvs:List (κ×V)}{vs:List (κ×Value)}(r:KV kvs vs):kvs.length=vs.length:=Paired.length r
end
abbrev KT(H:Hp):List (List Key×V)->List (List Key×Addr×Value)->Prop:=Paired λp q=>p.1=q.1/\H q.2.1=some (.tup (p.1.map kV))/\RelV p.2 q.2.2
theorem KT.val{H:Hp}{kvs:List (List Key×V)}{xs:List (List Key×Addr×Value)}(r:KT H kvs xs)(k:List Key):RelO (X7 kvs k) ((atKey xs k).map (·.2)):=by
 induction r with
 |nil=>exact True.intro
 | @cons p q ps qs h t ih=>
  obtain⟨h1,_,h2⟩:=h
  by_cases e:p.1=k
  · have e':q.1=k:=h1.symm.trans e
    have b:atKey (q::qs) k=some q.2:=by simp [atKey,List.find?_cons,e']
    rw [Zc8 e,b];exact h2
  · have e':¬q.1=k:=λz=>e (h1.trans z)
    have b:atKey (q::qs) k=atKey qs k:=by simp [atKey,List.find?_cons,e']
    rw [Zc9 e,b];exact ih
section
variable{P:Program}{w:World}{H:Hp}{h:Heap}{a:Addr}
end
def DGet(H:Hp)(a:Addr)(y:V)(r:Option V):Prop:=
 (∃kvs k,Rd H a (.dK kvs)/\y=kV k/\r=X7 kvs k)\/∃kvs k b,Rd H a (.dT kvs)/\y = .ref b/\H b=some (.tup (k.map kV))/\r=X7 kvs k
def DPut(H:Hp)(a:Addr)(y v:V)(H':Hp):Prop:=
 (∃kvs k,H a=some (.dK kvs)/\y=kV k/\kvs.length<sizeLine/\H'=upd H a (.dK (J6 kvs k v))) \/
 ∃kvs k b,H a=some (.dT kvs)/\y = .ref b/\H b=some (.tup (k.map kV))/\kvs.length<sizeLine/\H'=upd H a (.dT (J6 kvs k v))
theorem DGet.k{H:Hp}{a:Addr}{kvs:List (Key×V)}{k:Key}(e:H a=some (.dK kvs)):DGet H a (kV k) (X7 kvs k) := .inl ⟨kvs,k,.inl e,rfl,rfl⟩
theorem DGet.t{H:Hp}{a b:Addr}{kvs:List (List Key×V)}{k:List Key}(e:H a=some (.dT kvs))(eb:H b=some (.tup (k.map kV))):DGet H a (.ref b) (X7 kvs k) := .inr ⟨kvs,k,b,.inl e,rfl,eb,rfl⟩
theorem DPut.k{H:Hp}{a:Addr}{kvs:List (Key×V)}{k:Key}{v:V}(e:H a=some (.dK kvs))(hl:kvs.length<sizeLine):DPut H a (kV k) v (upd H a (.dK (J6 kvs k v))) := .inl ⟨kvs,k,e,rfl,hl,rfl⟩
theorem DPut.t{H:Hp}{a b:Addr}{kvs:List (List Key×V)}{k:List Key}{v:V}(e:H a=some (.dT kvs))(eb:H b=some (.tup (k.map kV)))(hl:kvs.length<sizeLine) :
 DPut H a (.ref b) v (upd H a (.dT (J6 kvs k v))) := .inr ⟨kvs,k,b,e,rfl,eb,hl,rfl⟩
section
variable{X:Cx}{pins:List (Addr×Obj)}{σ:St}{H:Hp}{s:Shared}{a:Addr}{y v:V}{u r:Value}{o:Option V}{A:Around}{E:Value->Shared->Prop}
end
section
variable{X:Cx}{pins:List (Addr×Obj)}{σ:St}{H:Hp}{s:Shared}{a:Addr}{kvs:List (Key×V)}{k:Key}{u:Value}{A:Around}{E:Value->Shared->Prop}
end
section
variable{X:Cx}{o i e value:Expr}{pos pos' tpos:Pos}{td ty tv:TE}
end
section
variable{X:Cx}{pos:Pos}
end
structure M1(X:Cx)(o:Expr)(m:Str)(apos:Pos)(e:Expr)(cpos:Pos):Prop where
 base:attributeBase o m X.env (eval o X.env)=eval o X.env
 few:((backTo cpos (starEach [e] X.env)).all (λx => !x.1)&&(backToKw cpos (keywordEach [] X.env)).all (λx=>x.1.isSome)
  && decide (([e]:List Expr).length+([]:List Keyword).length+(if([]:List Keyword).isEmpty then 0 else 1)<30))=true
 line:(apos.endLine == cpos.line)=true
 trees:backTo cpos (starEach [e] X.env)=[(false,eval e X.env)]
structure M2(X:Cx)(o:Expr)(m:Str)(apos:Pos)(e f:Expr)(cpos:Pos):Prop where
 base:attributeBase o m X.env (eval o X.env)=eval o X.env
 few:((backTo cpos (starEach [e,f] X.env)).all (λx => !x.1)&&(backToKw cpos (keywordEach [] X.env)).all (λx=>x.1.isSome)
  && decide (([e,f]:List Expr).length+([]:List Keyword).length+(if([]:List Keyword).isEmpty then 0 else 1)<30))=true
 line:(apos.endLine == cpos.line)=true
 trees:backTo cpos (starEach [e,f] X.env)=[(false,eval e X.env),(false,eval f X.env)]
section
variable{X:Cx}{pins:List (Addr×Obj)}{σ:St}{H:Hp}{s:Shared}{a:Addr}{y d:V}{u r:Value}{o:Option V}{A:Around}{E:Value->Shared->Prop}
end
section
variable{X:Cx}{o e f:Expr}{apos cpos:Pos}{td ty tx:TE}
end
section
variable{X:Cx}{pins:List (Addr×Obj)}{σ:St}{H:Hp}{s:Shared}{a:Addr}{kvs:List (Key×V)}{A:Around}{E:Value->Shared->Prop}
end
section
variable{X:Cx}{pins:List (Addr×Obj)}{σ:St}{H:Hp}{s:Shared}{a:Addr}{y:V}{u:Value}{A:Around}{E:Value->Shared->Prop}
end
end L2
namespace DL
open PySem PySem.Spec L2
inductive D where
 |non
 |bl (b:Bool)
 |int (i:Int)
 |str (cs:List Nat)
 |lst (xs:List D)
 |tup (xs:List D)
 |obj (c:String) (ks:List String) (xs:List D)
 |dct (ks:List Key) (xs:List D)
 |dtt (ks:List (List Key)) (xs:List D)
def KL(K:PySem.W.Frag)(a:Addr)(vs:List V):Prop:=∃(o:Obj) (its:Array Value) (n:Nat),K.lookup a=some o/\o.cls = .type "list" /\ o.dict=none/\o.data = .seq its n/\its.size<=sizeLine/\Vals vs its.toList
structure Kn where
 c:String->Addr
 K:PySem.W.Frag
def ZW:D->Bool
 | .non=>true
 | .bl _=>true
 | .int _=>true
 | .str _=>true
 |_=>false
mutual
def Rep(cA:Kn)(av:Addr->Prop)(H:Hp):D->V->Prop
 | .non,v=>v = .non
 | .bl b,v=>v = .bl b
 | .int i,v=>v = .int i
 | .str cs,v=>v=S cs
 | .lst xs,v=>∃a vs,v = .ref a/\(av a->KL cA.K a vs)/\SqL cA.K H a vs/\RepL cA av H xs vs
 | .tup xs,v=>∃a vs,v = .ref a/\¬av a/\H a=some (.tup vs)/\RepL cA av H xs vs
 | .obj c ks xs,v=>∃a dx vs,v = .ref a/\¬av a/\H a=some (.ins (cA.c c) dx ((ks.map Str.ofString).zip vs))/\ks.length=xs.length/\RepL cA av H xs vs
 | .dct ks xs,v=>∃a vs,v = .ref a/\¬av a/\H a=some (.dK (ks.zip vs))/\ks.length=xs.length/\RepL cA av H xs vs
 | .dtt ks xs,v=>∃a vs,v = .ref a/\¬av a/\H a=some (.dT (ks.zip vs))/\ks.length=xs.length/\RepL cA av H xs vs
def RepL(cA:Kn)(av:Addr->Prop)(H:Hp):List D->List V->Prop
 | [],vs=>vs=[]
 |x::xs,vs=>∃v r,vs=v::r/\Rep cA av H x v/\RepL cA av H xs r
end
section
variable{cA:Kn}{G:Cn}{av av':Addr->Prop}{H H':Hp}
theorem Rd.ext{a:Addr}{u:HO}(h:Rd H a u)(k:∀o,H a=some o->H' a=some o):Rd H' a u:=by
 rcases h with h|⟨o,h⟩
 · exact .inl (k _ h)
 · exact .inr ⟨o,k _ h⟩
theorem Rd.there{a:Addr}{u:HO}(h:Rd H a u):H a≠none:=by
 rcases h with h|⟨o,h⟩<;>rw [h]<;>exact λz=>by cases z
theorem Zd7{K:PySem.W.Frag}{a:Addr}{vs:List V}(n:av a->KL K a vs)(r:SqL K H a vs)(k:∀b o,¬av b->H b=some o->H' b=some o):SqL K H' a vs:=by
 by_cases h:av a
 · exact .inr (n h)
 · rcases r with r|r
   · exact .inl (Rd.ext r λo=>k a o h)
   · exact .inr r
theorem Zlq{K:PySem.W.Frag}{a:Addr}{vs:List V}(n:av a->KL K a vs)(r:SqL K H a vs)(k:∀b,av' b->av b\/H b=none):av' a->KL K a vs:=λz=>by
 rcases k a z with z|z
 · exact n z
 · rcases r with r|r
   · exact absurd z (Rd.there r)
   · exact r
mutual
theorem Rep.ext:∀{d:D}{v:V},(∀b o,¬av b->H b=some o->H' b=some o)->Rep cA av H d v->Rep cA av H' d v
 | .non,_,_,h=>h
 | .bl _,_,_,h=>h
 | .int _,_,_,h=>h
 | .str _,_,_,h=>h
 | .lst xs,v,k,h=>by
  unfold Rep at h ⊢;obtain⟨a,vs,e,n,r,l⟩:=h;exact⟨a,vs,e,n,Zd7 n r k,RepL.ext k l⟩
 | .tup xs,v,k,h=>by
  unfold Rep at h ⊢;obtain⟨a,vs,e,n,r,l⟩:=h;exact⟨a,vs,e,n,k a _ n r,RepL.ext k l⟩
 | .obj c ks xs,v,k,h=>by
  unfold Rep at h ⊢;obtain⟨a,dx,vs,e,n,r,z,l⟩:=h;exact⟨a,dx,vs,e,n,k a _ n r,z,RepL.ext k l⟩
 | .dct ks xs,v,k,h=>by
  unfold Rep at h ⊢;obtain⟨a,vs,e,n,r,z,l⟩:=h;exact⟨a,vs,e,n,k a _ n r,z,RepL.ext k l⟩
 | .dtt ks xs,v,k,h=>by
  unfold Rep at h ⊢;obtain⟨a,vs,e,n,r,z,l⟩:=h;exact⟨a,vs,e,n,k a _ n r,z,RepL.ext k l⟩
theorem RepL.ext:∀{xs:List D}{vs:List V},(∀b o,¬av b->H b=some o->H' b=some o)->RepL cA av H xs vs->RepL cA av H' xs vs
 | [],_,_,h=>h
 |x::xs,vs,k,h=>by
  unfold RepL at h ⊢;obtain⟨v,r,e,h1,h2⟩:=h;exact⟨v,r,e,Rep.ext k h1,RepL.ext k h2⟩
end
mutual
theorem Rep.av:∀{d:D}{v:V},(∀b,av' b->av b\/H b=none)->Rep cA av H d v->Rep cA av' H d v
 | .non,_,_,h=>h
 | .bl _,_,_,h=>h
 | .int _,_,_,h=>h
 | .str _,_,_,h=>h
 | .lst xs,v,k,h=>by
  unfold Rep at h ⊢;obtain⟨a,vs,e,n,r,l⟩:=h;exact⟨a,vs,e,Zlq n r k,r,RepL.av k l⟩
 | .tup xs,v,k,h=>by
  unfold Rep at h ⊢;obtain⟨a,vs,e,n,r,l⟩:=h;exact⟨a,vs,e,λz=>(k a z).elim n (by rw [r];exact λz=>by cases z),r,RepL.av k l⟩
 | .obj c ks xs,v,k,h=>by
  unfold Rep at h ⊢;obtain⟨a,dx,vs,e,n,r,z,l⟩:=h;exact⟨a,dx,vs,e,λy=>(k a y).elim n (by rw [r];exact λz=>by cases z),r,z,RepL.av k l⟩
 | .dct ks xs,v,k,h=>by
  unfold Rep at h ⊢;obtain⟨a,vs,e,n,r,z,l⟩:=h;exact⟨a,vs,e,λy=>(k a y).elim n (by rw [r];exact λz=>by cases z),r,z,RepL.av k l⟩
 | .dtt ks xs,v,k,h=>by
  unfold Rep at h ⊢;obtain⟨a,vs,e,n,r,z,l⟩:=h;exact⟨a,vs,e,λy=>(k a y).elim n (by rw [r];exact λz=>by cases z),r,z,RepL.av k l⟩
theorem RepL.av:∀{xs:List D}{vs:List V},(∀b,av' b->av b\/H b=none)->RepL cA av H xs vs->RepL cA av' H xs vs
 | [],_,_,h=>h
 |x::xs,vs,k,h=>by
  unfold RepL at h ⊢;obtain⟨v,r,e,h1,h2⟩:=h;exact⟨v,r,e,Rep.av k h1,RepL.av k h2⟩
end
theorem Rep.same{d:D}{v:V}(k:Same H H')(h:Rep cA av H d v):Rep cA av H' d v:=h.ext λb o _=>k b o
theorem RepL.same{xs:List D}{vs:List V}(k:Same H H')(h:RepL cA av H xs vs):RepL cA av H' xs vs:=h.ext λb o _=>k b o
theorem RepL.nil:RepL cA av H [] []:=by unfold RepL;rfl
theorem RepL.cons{d:D}{v:V}{xs:List D}{vs:List V}(h:Rep cA av H d v)(t:RepL cA av H xs vs):RepL cA av H (d::xs) (v::vs):=by
 unfold RepL;exact⟨v,vs,rfl,h,t⟩
theorem RepL.uncons{d:D}{xs:List D}{vs:List V}(h:RepL cA av H (d::xs) vs):∃v r,vs=v::r/\Rep cA av H d v/\RepL cA av H xs r:=by
 unfold RepL at h;exact h
theorem RepL.nil_of{vs:List V}(h:RepL cA av H [] vs):vs=[]:=by
 unfold RepL at h;exact h
theorem RepL.length:∀{xs:List D}{vs:List V},RepL cA av H xs vs->xs.length=vs.length
 | [],vs,h=>by rw [h.nil_of];rfl
 |x::xs,vs,h=>by
  obtain⟨v,r,rfl,_,t⟩:=h.uncons;rw [List.length_cons,List.length_cons,RepL.length t]
theorem RepL.get:∀{xs:List D}{vs:List V}{i:Nat}{x:D},RepL cA av H xs vs->xs[i]? = some x->∃v,vs[i]? = some v/\Rep cA av H x v
 | [],_,_,_,_,e=>by simp at e
 |y::xs,vs,0,x,h,e=>by
  obtain⟨v,r,rfl,h1,_⟩:=h.uncons;simp at e;subst e;exact⟨v,rfl,h1⟩
 |y::xs,vs,i+1,x,h,e=>by
  obtain⟨v,r,rfl,_,t⟩:=h.uncons;obtain⟨u,h1,h2⟩:=RepL.get (i:=i) t (by simpa using e);exact⟨u,by simpa using h1,h2⟩
theorem RepL.append:∀{xs ys:List D}{vs ws:List V},RepL cA av H xs vs->RepL cA av H ys ws->RepL cA av H (xs++ys) (vs++ws)
 | [],_,vs,_,h,t=>by rw [h.nil_of];exact t
 |x::xs,ys,vs,ws,h,t=>by
  obtain⟨v,r,rfl,h1,h2⟩:=h.uncons;exact .cons h1 (RepL.append h2 t)
theorem RepL.drop:∀{xs:List D}{vs:List V}(n:Nat),RepL cA av H xs vs->RepL cA av H (xs.drop n) (vs.drop n)
 |_,_,0,h=>h
 | [],vs,n+1,h=>by rw [h.nil_of];exact .nil
 |x::xs,vs,n+1,h=>by
  obtain⟨v,r,rfl,_,h2⟩:=h.uncons;exact RepL.drop n h2
theorem RepL.take:∀{xs:List D}{vs:List V}(n:Nat),RepL cA av H xs vs->RepL cA av H (xs.take n) (vs.take n)
 |_,_,0,h=>by simp;exact .nil
 | [],vs,n+1,h=>by rw [h.nil_of];exact .nil
 |x::xs,vs,n+1,h=>by
  obtain⟨v,r,rfl,h1,h2⟩:=h.uncons;exact .cons h1 (RepL.take n h2)
theorem RepL.set{d:D}{v:V}(hd:Rep cA av H d v):∀{xs:List D}{vs:List V}(i:Nat),RepL cA av H xs vs->RepL cA av H (xs.set i d) (vs.set i v)
 | [],vs,_,h=>by rw [h.nil_of];exact .nil
 |x::xs,vs,0,h=>by
  obtain⟨v',r,rfl,h1,h2⟩:=h.uncons;exact .cons hd h2
 |x::xs,vs,i+1,h=>by
  obtain⟨v',r,rfl,h1,h2⟩:=h.uncons;exact .cons h1 (RepL.set hd i h2)
def val:D->V
 | .bl b => .bl b
 | .int i => .int i
 | .str cs=>S cs
 |_ => .non
theorem Rep.val{d:D}{v:V}(hs:ZW d=true)(h:Rep cA av H d v):v=DL.val d:=by
 cases d<;>first|exact h|cases hs
theorem Rep.of_val{d:D}(hs:ZW d=true):Rep cA av H d (DL.val d):=by
 cases d<;>first|rfl|cases hs
theorem RepL.vals:∀{xs:List D}{vs:List V},xs.all ZW=true->RepL cA av H xs vs->vs=xs.map DL.val
 | [],vs,_,h=>h.nil_of
 |x::xs,vs,hs,h=>by
  rw [List.all_cons,Bool.and_eq_true]at hs;obtain⟨v,r,rfl,h1,h2⟩:=h.uncons;rw [List.map_cons,h1.val hs.1,RepL.vals hs.2 h2]
theorem RepL.of_vals:∀{xs:List D},xs.all ZW=true->RepL cA av H xs (xs.map DL.val)
 | [],_ => .nil
 |x::xs,hs=>by
  rw [List.all_cons,Bool.and_eq_true]at hs;exact .cons (.of_val hs.1) (RepL.of_vals hs.2)
def RepT(cA:Kn)(t i:Addr->Prop)(H:Hp):D->V->Prop
 | .lst xs,v=>∃a vs,v = .ref a/\(t a->KL cA.K a vs)/\SqL cA.K H a vs/\RepL cA i H xs vs
 | .tup xs,v=>∃a vs,v = .ref a/\¬t a/\H a=some (.tup vs)/\RepL cA i H xs vs
 | .obj c ks xs,v=>∃a dx vs,v = .ref a/\¬t a/\H a=some (.ins (cA.c c) dx ((ks.map Str.ofString).zip vs))/\ks.length=xs.length/\RepL cA i H xs vs
 | .dct ks xs,v=>∃a vs,v = .ref a/\¬t a/\H a=some (.dK (ks.zip vs))/\ks.length=xs.length/\RepL cA i H xs vs
 | .dtt ks xs,v=>∃a vs,v = .ref a/\¬t a/\H a=some (.dT (ks.zip vs))/\ks.length=xs.length/\RepL cA i H xs vs
 |d,v=>v=DL.val d
theorem Rep.t{d:D}{v:V}(h:Rep cA av H d v):RepT cA av av H d v:=by
 cases d<;>first|exact h|(unfold Rep at h;exact h)
theorem RepT.r{d:D}{v:V}(h:RepT cA av av H d v):Rep cA av H d v:=by
 cases d<;>first|exact h|(unfold Rep;exact h)
theorem RepT.weak{t t' i i':Addr->Prop}{d:D}{v:V}(ht:∀a,t' a->t a)(hi:∀a,i' a->i a)(h:RepT cA t i H d v):RepT cA t' i' H d v:=by
 cases d with
 |lst xs=>obtain⟨a,vs,e,n,r,l⟩:=h;exact⟨a,vs,e,λz=>n (ht a z),r,l.av λb z => .inl (hi b z)⟩
 |tup xs=>obtain⟨a,vs,e,n,r,l⟩:=h;exact⟨a,vs,e,λz=>n (ht a z),r,l.av λb z => .inl (hi b z)⟩
 |obj c ks xs=>obtain⟨a,dx,vs,e,n,r,z,l⟩:=h;exact⟨a,dx,vs,e,λz=>n (ht a z),r,z,l.av λb z => .inl (hi b z)⟩
 |dct ks xs=>obtain⟨a,vs,e,n,r,z,l⟩:=h;exact⟨a,vs,e,λz=>n (ht a z),r,z,l.av λb z => .inl (hi b z)⟩
 |dtt ks xs=>obtain⟨a,vs,e,n,r,z,l⟩:=h;exact⟨a,vs,e,λz=>n (ht a z),r,z,l.av λb z => .inl (hi b z)⟩
 |_=>exact h
theorem RepT.same{t i:Addr->Prop}{d:D}{v:V}(k:Same H H')(h:RepT cA t i H d v):RepT cA t i H' d v:=by
 cases d with
 |lst xs=>obtain⟨a,vs,e,n,r,l⟩:=h;exact⟨a,vs,e,n,k.seq r,l.same k⟩
 |tup xs=>obtain⟨a,vs,e,n,r,l⟩:=h;exact⟨a,vs,e,n,k a _ r,l.same k⟩
 |obj c ks xs=>obtain⟨a,dx,vs,e,n,r,z,l⟩:=h;exact⟨a,dx,vs,e,n,k a _ r,z,l.same k⟩
 |dct ks xs=>obtain⟨a,vs,e,n,r,z,l⟩:=h;exact⟨a,vs,e,n,k a _ r,z,l.same k⟩
 |dtt ks xs=>obtain⟨a,vs,e,n,r,z,l⟩:=h;exact⟨a,vs,e,n,k a _ r,z,l.same k⟩
 |_=>exact h
end
abbrev Env:=List (Option D)
structure Cn where
 cA:Kn
 pin:Nat->Option (Addr ⊕ V)
def AV(av:Addr->Prop)(A:Nat->Option Addr)(a:Addr):Prop:=av a\/∃i,A i=some a
def Own(cA:Kn)(av:Addr->Prop)(H:Hp):D->Addr->Prop
 | .lst xs,a=>∃vs,H a=some (.lst vs)/\RepL cA av H xs vs
 | .obj c ks xs,a=>∃dx vs,H a=some (.ins (cA.c c) dx ((ks.map Str.ofString).zip vs))/\ks.length=xs.length/\RepL cA av H xs vs
 | .dct ks xs,a=>∃vs,H a=some (.dK (ks.zip vs))/\ks.length=xs.length/\RepL cA av H xs vs
 | .dtt ks xs,a=>∃vs,H a=some (.dT (ks.zip vs))/\ks.length=xs.length/\RepL cA av H xs vs
 |_,_=>False
structure ER(G:Cn)(ow:List Nat)(H0:Hp)(av:Addr->Prop)(A:Nat->Option Addr)(σ:St)(H:Hp)(δ:Env):Prop where
 same:Same H0 H
 avd:∀a,av a->H0 a≠none
 fr:∀i a,A i=some a->H0 a=none
 inj:∀i j a,A i=some a->A j=some a->i=j
 live:∀i a,A i=some a->H a≠none
 dom:∀i,A i≠none->i∈ow
 dom':∀i∈ow,A i≠none
 len:σ.length=δ.length
 pin:∀i a,G.2 i=some (.inl a)->A i=some a
 kept:∀i v,G.2 i=some (.inr v)->σ[i]? = some (some v)
 var:∀(i:Nat)(d:D),δ[i]? = some (some d)->∃v,σ[i]? = some (some v)/\(A i=none->Rep G.1 (AV av A) H d v)/\(∀a,A i=some a->v = .ref a/\Own G.1 (AV av A) H d a)
inductive Ql where
 |cl|tp|dt
def RepQ(cA:Kn)(av:Addr->Prop)(A:Nat->Option Addr)(H:Hp):Ql->D->V->Prop
 | .cl,d,v=>RepT cA (AV av A) (AV av A) H d v
 | .tp,d,v=>RepT cA av (AV av A) H d v
 | .dt,d,v=>RepT cA av av H d v
def Ql.it:Ql->Ql
 | .dt => .dt
 |_ => .cl
section
variable{cA:Kn}{G:Cn}{ow:List Nat}{H0 H H':Hp}{av:Addr->Prop}{A:Nat->Option Addr}{σ:St}{δ:Env}
theorem AV.l{a:Addr}(h:av a):AV av A a := .inl h
def Ql.iv(q:Ql)(av:Addr->Prop)(A:Nat->Option Addr):Addr->Prop:=match q with
 | .dt=>av
 |_=>AV av A
theorem RepQ.tp{q:Ql}{d:D}{v:V}(h:RepQ cA av A H q d v):RepT cA av (q.iv av A) H d v:=by
 cases q with
 |cl=>exact h.weak (λa => .inl) λa z=>z
 |tp=>exact h
 |dt=>exact h
theorem RepQ.any{q:Ql}{d:D}{v:V}(h:RepQ cA av A H q d v):Rep cA av H d v:=by
 cases q with
 |cl=>exact(h.weak (λa => .inl) λa => .inl).r
 |tp=>exact(h.weak (λa z=>z) λa => .inl).r
 |dt=>exact h.r
theorem RepQ.same{q:Ql}{d:D}{v:V}(k:Same H H')(h:RepQ cA av A H q d v):RepQ cA av A H' q d v:=by
 cases q<;>exact RepT.same k h
theorem ER.mono(E:ER G ow H0 av A σ H δ)(k:Same H H'):ER G ow H0 av A σ H' δ:=by
 refine⟨E.same.trans k,E.avd,E.fr,E.inj,λi a e => ?_,E.dom,E.dom',E.len,E.pin,E.kept,λi d e => ?_⟩
 · have:=E.live i a e
   cases q:H a with
   |none=>exact absurd q this
   |some o=>rw [k a o q];exact λz=>by cases z
 · obtain⟨v,h1,h2,h3⟩:=E.var i d e
   refine⟨v,h1,λz=>(h2 z).same k,λa z=>⟨(h3 a z).1,?_⟩⟩;have:=(h3 a z).2;cases d with
   |lst xs=>obtain⟨vs,q1,q2⟩:=this;exact⟨vs,k _ _ q1,q2.same k⟩
   |obj c ks xs=>obtain⟨dx,vs,q1,q0,q2⟩:=this;exact⟨dx,vs,k _ _ q1,q0,q2.same k⟩
   |dct ks xs=>obtain⟨vs,q1,q0,q2⟩:=this;exact⟨vs,k _ _ q1,q0,q2.same k⟩
   |dtt ks xs=>obtain⟨vs,q1,q0,q2⟩:=this;exact⟨vs,k _ _ q1,q0,q2.same k⟩
   |_=>exact this
theorem ER.avl(E:ER G ow H0 av A σ H δ):∀a,AV av A a->H a≠none:=λa h=>by
 rcases h with h|⟨i,h⟩
 · have:=E.avd a h
   cases q:H0 a with
   |none=>exact absurd q this
   |some o=>rw [E.same a o q];exact λz=>by cases z
 · exact E.live i a h
theorem ER.avH(E:ER G ow H0 av A σ H δ):∀a,av a->H a≠none:=λa h=>E.avl a (.inl h)
end
def VE(G:Cn)(ow:List Nat)(te:TE)(q:Ql)(ε:Env->Option D):Prop:=
 ∀H0 av A σ H δ,ER G ow H0 av A σ H δ->∀d,ε δ=some d->∀Q:VK,(∀v H',Same H H'->RepQ G.1 av A H' q d v->Q v H')->te σ H Q
def VF(G:Cn)(ow:List Nat)(te:TE)(ε:Env->Option D):Prop:=
 ∀H0 av A σ H δ,ER G ow H0 av A σ H δ->∀d,ε δ=some d->∀Q:VK,(∀p vs xs H1,Same H H1->H1 p=none->RepL G.1 (AV av A) H1 xs vs->d = .lst xs->Q (.ref p) (upd H1 p (.lst vs)))->te σ H Q
def VT(G:Cn)(ow:List Nat)(tt:TT)(τ:Env->Option Bool):Prop:=
 ∀H0 av A σ H δ,ER G ow H0 av A σ H δ->∀b,τ δ=some b->∀Q:Bool->Hp->Prop,(∀H',Same H H'->Q b H')->tt σ H Q
def RepQL(cA:Kn)(av:Addr->Prop)(A:Nat->Option Addr)(H:Hp)(q:Ql):List D->List V->Prop
 | [],vs=>vs=[]
 |x::xs,vs=>∃v r,vs=v::r/\RepQ cA av A H q x v/\RepQL cA av A H q xs r
def VA(G:Cn)(ow:List Nat)(ta:TA)(q:Ql)(α:Env->Option (List D)):Prop:=
 ∀H0 av A σ H δ,ER G ow H0 av A σ H δ->∀ds,α δ=some ds->∀Q:List V->Hp->Prop,(∀vs H',Same H H'->RepQL G.1 av A H' q ds vs->Q vs H')->ta σ H Q
section
variable{cA:Kn}{G:Cn}{ow:List Nat}
theorem RepQL.same{av:Addr->Prop}{A:Nat->Option Addr}{H H':Hp}{q:Ql}(k:Same H H'):∀{xs:List D}{vs:List V},RepQL cA av A H q xs vs->RepQL cA av A H' q xs vs
 | [],_,h=>h
 |x::xs,vs,h=>by
  obtain⟨v,r,e,h1,h2⟩:=h;exact⟨v,r,e,h1.same k,RepQL.same k h2⟩
theorem RepQL.cl{av:Addr->Prop}{A:Nat->Option Addr}{H:Hp}:∀{xs:List D}{vs:List V},RepQL cA av A H .cl xs vs->RepL cA (AV av A) H xs vs
 | [],_,h=>by unfold RepL;exact h
 |x::xs,vs,h=>by
  obtain⟨v,r,e,h1,h2⟩:=h;subst e;exact .cons (RepT.r h1) (RepQL.cl h2)
theorem RepQL.any{av:Addr->Prop}{A:Nat->Option Addr}{H:Hp}{q:Ql}:∀{xs:List D}{vs:List V},RepQL cA av A H q xs vs->RepL cA av H xs vs
 | [],_,h=>by unfold RepL;exact h
 |x::xs,vs,h=>by
  obtain⟨v,r,e,h1,h2⟩:=h;subst e;exact .cons h1.any (RepQL.any h2)
theorem VE.dt{te:TE}{q:Ql}{ε:Env->Option D}(h:VE G ow te q ε):VE G ow te .dt ε:=λH0 av A σ H δ E d e Q k=>
 h H0 av A σ H δ E d e Q λv H' s r=>k v H' s r.any.t
theorem Ym{H:Hp}{p:Addr}{o:HO}(h:H p=none):Same H (upd H p o):=ZfX h
theorem VF.cl{te:TE}{ε:Env->Option D}(h:VF G ow te ε):VE G ow te .cl ε:=λH0 av A σ H δ E d e Q k=>
 h H0 av A σ H δ E d e Q λp vs xs H1 s hp l hd=>by
  subst hd;refine k _ _ (s.trans (Ym hp)) ⟨p,vs,rfl,λz=>((E.mono s).avl p z hp).elim,SqL.of Z2,l.same (Ym hp)⟩
def Za(i:Nat)(δ:Env):Option D:=match δ[i]? with
 |some (some d)=>some d
 |_=>none
theorem VN{i:Nat}{δ:Env}{d:D}(h:Za i δ=some d):δ[i]? = some (some d):=by
 unfold Za at h;cases e:δ[i]? with
 |none=>rw [e]at h;cases h
 |some o=>
  rw [e]at h;cases o with
  |none=>cases h
  |some x=>exact congrArg (some∘some) (Option.some.inj h)
theorem Zc(i:Nat)(hi:(ow.contains i)=false:=by rfl):VE G ow (Xk i) .cl (Za i):=λH0 av A σ H δ E d e Q k=>by
 obtain⟨v,h1,h2,_⟩:=E.var i d (VN e)
 have hn:A i=none:=by
  cases q:A i with
  |none=>rfl
  |some a=>
   have:=E.dom i (by rw [q];exact λz=>by cases z);simp at hi;exact absurd this hi
 exact⟨v,h1,k v H (Same.refl H) (h2 hn).t⟩
def eC(d:D)(_:Env):Option D:=some d
theorem Ze{v:V}{d:D}(hs:ZW d=true)(hv:v=val d):VE G ow (tC v) .cl (eC d):=λH0 av A σ H δ E d' e Q k=>by
 have e':d=d':=Option.some.inj e;subst e' hv;exact k _ H (Same.refl H) (Rep.of_val hs).t
def Xx(cA:Kn)(r:R2)(f:D->D->Option D):Prop:=
 ∀(t t' i:Addr->Prop)(H:Hp)(x y:D)(vx vy:V)(d:D),(∀a,i a->H a≠none)->RepT cA t i H x vx->RepT cA t' i H y vy->f x y=some d->∀Q:VK,(∀v H',Same H H'->Rep cA i H' d v->Q v H')->r vx vy H Q
def eOp(f:D->D->Option D)(a b:Env->Option D)(δ:Env):Option D:=match a δ with
 |some x=>match b δ with
  |some y=>f x y
  |none=>none
 |none=>none
theorem J7{f:D->D->Option D}{a b:Env->Option D}{δ:Env}{d:D}(h:eOp f a b δ=some d):∃x y,a δ=some x/\b δ=some y/\f x y=some d:=by
 unfold eOp at h;cases ea:a δ with
 |none=>rw [ea]at h;cases h
 |some x=>
  rw [ea]at h;cases eb:b δ with
  |none=>rw [eb]at h;cases h
  |some y=>rw [eb]at h;exact⟨x,y,rfl,rfl,h⟩
def Ql.jn:Ql->Ql->Ql
 | .dt,_ => .dt
 |_,.dt => .dt
 |_,_ => .cl
theorem Zi{r:R2}{f:D->D->Option D}{ta tb:TE}{qa qb:Ql}{a b:Env->Option D}(hr:Xx G.1 r f)(ha:VE G ow ta qa a)(hb:VE G ow tb qb b):VE G ow (tOp r ta tb) (qa.jn qb) (eOp f a b):=λH0 av A σ H δ E d e Q k=>by
 obtain⟨x,y,ex,ey,ed⟩:=J7 e;refine ha H0 av A σ H δ E x ex _ λvx H1 s1 r1=>hb H0 av A σ H1 δ (E.mono s1) y ey _ λvy H2 s2 r2 => ?_
 have E2:=(E.mono s1).mono s2;have r1':=(r1.same s2).tp;have r2':=r2.tp;have key:∀i:Addr->Prop,(∀a,i a->H2 a≠none)->RepT G.1 av i H2 x vx->RepT G.1 av i H2 y vy->(∀v H',Same H2 H'->Rep G.1 i H' d v->Q v H')->r vx vy H2 Q:=λi hi h1 h2 h3=>hr av av i H2 x y vx vy d hi h1 h2 ed Q h3
 have toav:∀{dd:D}{v:V},RepT G.1 av (AV av A) H2 dd v->RepT G.1 av av H2 dd v:=λh=>h.weak (λa z=>z) λa => .inl
 cases qa with
 |dt=>
  refine key av E2.avH r1' ?_ λv H' s3 r3=>k v H' ((s1.trans s2).trans s3) r3.t
  cases qb with
  |dt=>exact r2'
  |cl=>exact toav r2'
  |tp=>exact toav r2'
 |cl=>
  cases qb with
  |dt=>exact key av E2.avH (toav r1') r2' λv H' s3 r3=>k v H' ((s1.trans s2).trans s3) r3.t
  |cl=>exact key _ E2.avl r1' r2' λv H' s3 r3=>k v H' ((s1.trans s2).trans s3) r3.t
  |tp=>exact key _ E2.avl r1' r2' λv H' s3 r3=>k v H' ((s1.trans s2).trans s3) r3.t
 |tp=>
  cases qb with
  |dt=>exact key av E2.avH (toav r1') r2' λv H' s3 r3=>k v H' ((s1.trans s2).trans s3) r3.t
  |cl=>exact key _ E2.avl r1' r2' λv H' s3 r3=>k v H' ((s1.trans s2).trans s3) r3.t
  |tp=>exact key _ E2.avl r1' r2' λv H' s3 r3=>k v H' ((s1.trans s2).trans s3) r3.t
end
end DL
namespace DL
open PySem PySem.Spec L2
mutual
def toP:D->PyData
 | .non => .none
 | .bl b => .bool b
 | .int i => .int i
 | .str cs => .str (tx cs)
 | .lst xs => .list (UD xs)
 | .tup xs => .tuple (UD xs)
 | .obj _ _ _ => .dict []
 | .dct _ _ => .dict []
 | .dtt _ _ => .dict []
def UD:List D->List PyData
 | []=>[]
 |x::xs=>toP x::UD xs
end
section
variable{X:Cx}{cA:Kn}
mutual
theorem QW{pins:List (Addr×Obj)}{σ:L2.St}{H:Hp}{s:Shared}{av:Addr->Prop}(hK:cA.K=X.K)(I:Inv X pins σ H s):∀(d:D)(v:V)(u:Value),PyData.canLay0 (toP d)=true->Rep cA av H d v->RelV v u->∃as,Reads s.heap u (toP d) as
 | .non,v,u,_,h,r=>by
  cases(show v = .non from h);cases r;exact⟨_,.none⟩
 | .bl b,v,u,_,h,r=>by
  cases(show v = .bl b from h);cases r;exact⟨_,.bool b⟩
 | .int i,v,u,_,h,r=>by
  cases(show v = .int i from h);obtain⟨t,rfl⟩:=r;exact⟨_,.int i t⟩
 | .str cs,v,u,_,h,r=>by
  cases(show v=S cs from h);obtain⟨t,rfl⟩:=r;exact⟨_,.str _ t⟩
 | .lst xs,v,u,c,h,r=>by
  unfold Rep at h;obtain⟨a,vs,rfl,_,rd,l⟩:=h;cases r;obtain⟨its,rv,⟨ob,n,e,hc,hd,hs⟩,z⟩:=I.list (show SqL X.K H a vs from hK▸rd);obtain⟨as,ra⟩:=ZaP hK I xs vs its (by unfold toP PyData.canLay0 at c;exact c) l rv;unfold toP;exact⟨_,.list e hc hs (by simpa using ra)⟩
 | .tup xs,v,u,c,h,r=>by
  unfold Rep at h;obtain⟨a,vs,rfl,_,rd,l⟩:=h;cases r;obtain⟨z,its,rv,ob,e,hc,⟨n,hd⟩,_⟩:=(show ObjOk X.prog X.w H s.heap a (.tup vs)from I.hok a _ rd)
  obtain⟨as,ra⟩:=ZaP hK I xs vs its (by unfold toP PyData.canLay0 at c;exact c) l rv;unfold toP;exact⟨_,.tuple e hc hd (by simpa using ra)⟩
 | .obj c' ks xs,v,u,c,h,r=>by
  unfold toP PyData.canLay0 at c;cases c
 | .dct ks xs,v,u,c,h,r=>by
  unfold toP PyData.canLay0 at c;cases c
 | .dtt ks xs,v,u,c,h,r=>by
  unfold toP PyData.canLay0 at c;cases c
theorem ZaP{pins:List (Addr×Obj)}{σ:L2.St}{H:Hp}{s:Shared}{av:Addr->Prop}(hK:cA.K=X.K)(I:Inv X pins σ H s):∀(xs:List D)(vs:List V)(us:List Value),PyData.canLayAll0 (UD xs)=true->RepL cA av H xs vs->Vals vs us->∃as,ReadsAll s.heap us (UD xs) as
 | [],vs,us,_,h,r=>by
  rw [h.nil_of]at r;cases r;exact⟨_,.nil⟩
 |x::xs,vs,us,c,h,r=>by
  obtain⟨v,rr,rfl,h1,h2⟩:=h.uncons;cases r with
  |cons r1 r2=>
   unfold UD PyData.canLayAll0 at c;rw [Bool.and_eq_true]at c;obtain⟨a1,q1⟩:=QW hK I x v _ c.1 h1 r1;obtain⟨a2,q2⟩:=ZaP hK I xs rr _ c.2 h2 r2;unfold UD;exact⟨_,.cons q1 q2⟩
end
end
def eqD(x y:D):Option D:=
 if ZW x&&ZW y&&Vl (val x) (val y)then some (.bl (decide (val x=val y)))
 else if SeqAt.shaped (toP x)&&SeqAt.shaped (toP y)then some (.bl (PyData.eqv (toP x) (toP y)))else none
def neD(x y:D):Option D:=match eqD x y with
 |some (.bl b)=>some (.bl (!b))
 |_=>none
def J8(cA:Kn)(neg:Bool):R2:=λx y H Q=>∃av av' dx dy b,Rep cA av H dx x/\Rep cA av' H dy y/\eqD dx dy=some (.bl b)/\Q (.bl (neg != b)) H
section
variable{X:Cx}{cA:Kn}
theorem Yv(hu:X.A.units+64<cLine)(hK:cA.K=X.K:=by rfl):OpR X (compareOp .Eq) (J8 cA false):=by
 intro pins s σ H x y v u Q I rx ry h;obtain⟨av,av',dx,dy,b,hx,hy,e,q⟩:=h;unfold eqD at e
 by_cases h1:(ZW dx&&ZW dy&&Vl (val dx) (val dy))=true
 · rw [if_pos h1]at e
   simp only [Bool.and_eq_true]at h1;obtain⟨⟨s1,s2⟩,s3⟩:=h1;have e1:=hx.val s1;have e2:=hy.val s2;subst e1 e2;have e':decide (val dx=val dy)=b:=by simpa using e
   exact Zlk pins s σ H _ _ v u Q I rx ry ⟨s3,by rw [e'];simpa using q⟩
 · rw [if_neg h1]at e
   by_cases h2:(SeqAt.shaped (toP dx)&&SeqAt.shaped (toP dy))=true
   · rw [if_pos h2]at e
     rw [Bool.and_eq_true]at h2;obtain⟨as,ra⟩:=QW hK I dx x v (SeqAt.canLay_of_shaped h2.1) hx rx;obtain⟨bs,rb⟩:=QW hK I dy y u (SeqAt.canLay_of_shaped h2.2) hy ry;have e':PyData.eqv (toP dx) (toP dy)=b:=by simpa using e
     exact PyProof.Rows.eq_dataH ra rb h2.1 h2.2 hu (by rw [e'];exact⟨.bl b,H,I,rfl,by simpa using q⟩)
   · rw [if_neg h2]at e
     cases e
theorem X8(hu:X.A.units+64<cLine)(hK:cA.K=X.K:=by rfl):OpR X (compareOp .NotEq) (J8 cA true):=by
 intro pins s σ H x y v u Q I rx ry h;obtain⟨av,av',dx,dy,b,hx,hy,e,q⟩:=h;unfold eqD at e
 by_cases h1:(ZW dx&&ZW dy&&Vl (val dx) (val dy))=true
 · rw [if_pos h1]at e
   simp only [Bool.and_eq_true]at h1;obtain⟨⟨s1,s2⟩,s3⟩:=h1;have e1:=hx.val s1;have e2:=hy.val s2;subst e1 e2;have e':decide (val dx=val dy)=b:=by simpa using e
   exact Zll pins s σ H _ _ v u Q I rx ry ⟨s3,by rw [e'];simpa using q⟩
 · rw [if_neg h1]at e
   by_cases h2:(SeqAt.shaped (toP dx)&&SeqAt.shaped (toP dy))=true
   · rw [if_pos h2]at e
     rw [Bool.and_eq_true]at h2;obtain⟨as,ra⟩:=QW hK I dx x v (SeqAt.canLay_of_shaped h2.1) hx rx;obtain⟨bs,rb⟩:=QW hK I dy y u (SeqAt.canLay_of_shaped h2.2) hy ry;have e':PyData.eqv (toP dx) (toP dy)=b:=by simpa using e
     exact PyProof.Rows.ne_dataH ra rb h2.1 h2.2 hu (by rw [e'];exact⟨.bl (!b),H,I,rfl,by simpa using q⟩)
   · rw [if_neg h2]at e
     cases e
theorem RepT.av0{t i:Addr->Prop}{H:Hp}{d:D}{v:V}(h:RepT cA t i H d v):Rep cA (λ_=>False) H d v:=(h.weak (λ_ z=>z.elim) λ_ z=>z.elim).r
theorem Zgv{x y d:D}(h:eqD x y=some d):∃b,d = .bl b:=by
 unfold eqD at h
 split at h
 · exact⟨_,(Option.some.inj h).symm⟩
 · split at h
   · exact⟨_,(Option.some.inj h).symm⟩
   · cases h
theorem Yw:Xx cA (J8 cA false) eqD:=λt t' i H x y vx vy d _ hx hy e Q k=>by
 obtain⟨b,rfl⟩:=Zgv e;exact⟨_,_,x,y,b,hx.av0,hy.av0,e,k _ H (Same.refl H) (by cases b<;>rfl)⟩
theorem X9:Xx cA (J8 cA true) neD:=λt t' i H x y vx vy d _ hx hy e Q k=>by
 unfold neD at e;cases he:eqD x y with
 |none=>rw [he]at e;cases e
 |some z=>
  obtain⟨b,rfl⟩:=Zgv he;rw [he]at e;have e':D.bl (!b)=d:=Option.some.inj e;subst e';exact⟨_,_,x,y,b,hx.av0,hy.av0,he,k _ H (Same.refl H) (by cases b<;>rfl)⟩
def Qb(x:List Nat)(n:Int):List Nat:=(List.replicate n.toNat x).flatten
theorem ZbT(x:List Nat):∀(k:Nat)(acc:Array Nat),(List.replicate k x.toArray).foldl (· ++ ·) acc=acc++(List.replicate k x).flatten.toArray
 |0,acc=>by simp
 |k+1,acc=>by
  rw [List.replicate_succ,List.replicate_succ,List.foldl_cons,ZbT x k,List.flatten_cons];simp
theorem Zjk(x:List Nat)(n:Int):Txt.mul (tx x) n=tx (Qb x n):=by
 unfold Txt.mul Qb
 by_cases h1:n<1
 · rw [if_pos h1]
   have:n.toNat=0:=by omega
   rw [this];rfl
 · rw [if_neg h1]
   by_cases h2:(n == 1||(tx x).length == 0)=true
   · rw [if_pos h2]
     rw [Bool.or_eq_true]at h2;rcases h2 with h2|h2
     · have:n=1:=by simpa using h2
       subst this;simp
     · have : x = [] := by
        have:(tx x).length=0:=by simpa using h2
        rw [YD]at this;exact List.eq_nil_of_length_eq_zero this
       subst this;simp
   · rw [if_neg h2]
     have:=ZbT x n.toNat #[];rw [this];simp
def rMulS:R2:=λx y H Q=>∃a n,x=S a/\y = .int n/\(n<2 ^ 63 /\ -(2 ^ 63)<=n/\a.length*n.toNat<=sizeLine)/\Q (S (Qb a n)) H
theorem op_mulS:OpR X (binaryOp .Mult) rMulS:=by
 intro pins s σ H x y v u Q I rx ry h;obtain⟨a,n,rfl,rfl,⟨h1,h2,h3⟩,q⟩:=h;obtain⟨t,rfl⟩:=rx;obtain⟨t',rfl⟩:=ry;refine SB.mul ⟨?_,λhn hc => ?_,λhn hc => ?_⟩ λt' k=>⟨S (Qb a n),H,I.tok _,⟨_,by rw [Zjk]⟩,q⟩
 · have e1:decide (n < -(2 ^ 63:Int))=false:=decide_eq_false (by omega)
   have e2:decide (n ≥ 2 ^ 63)=false:=decide_eq_false (by omega);rw [e1,e2];rfl
 · rw [YD]
   have hs:sizeLine=16777216:=sizeLine_eq;intro hgt
   have h5:(a.length:Int)*n<=16777216:=by
    have:(a.length:Int)*n=((a.length*n.toNat:Nat):Int):=by
     rw [Int.natCast_mul,Int.toNat_of_nonneg (by omega)]
    rw [this];omega
   have h6:(2 ^ 63-1) / n<(a.length:Int):=hgt
   have h7:(2 ^ 63-1:Int)<(a.length:Int)*n:=by
    have:=Int.lt_mul_of_ediv_lt (show(0:Int)<n by omega) h6;rw [Int.mul_comm];rw [Int.mul_comm]at this;exact this
   omega
 · rw [YD]
   show decide (a.length*n.toNat>sizeLine)=false;exact decide_eq_false (by omega)
instance (i j:Int):Decidable (CMul i j):=by unfold CMul;infer_instance
instance (i j:Int):Decidable (QO i j):=by unfold QO;infer_instance
def addD:D->D->Option D
 | .int i,.int j=>some (.int (i+j))
 | .str a,.str b=>if a.length+b.length<=sizeLine then some (.str (a++b))else none
 |_,_=>none
def subD:D->D->Option D
 | .int i,.int j=>some (.int (i-j))
 |_,_=>none
def ZmN:D->D->Option D
 | .int i,.int j=>if CMul i j then some (.int (i*j))else none
 | .str a,.int n=>if n<2 ^ 63 /\ -(2 ^ 63)<=n/\a.length*n.toNat<=sizeLine then some (.str (Qb a n))else none
 |_,_=>none
def ZiB:D->D->Option D
 | .int i,.int j=>if QO i j then some (.int (i / j))else none
 |_,_=>none
def ZmO:D->D->Option D
 | .int i,.int j=>if 0<j then some (.int (i % j))else none
 |_,_=>none
def ZJ(p:Int->Int->Bool):D->D->Option D
 | .int i,.int j=>some (.bl (p i j))
 |_,_=>none
theorem Zjl:Xx cA Zlp addD:=λt t' i H x y vx vy d _ hx hy e Q k=>by
 cases x<;>cases y<;>first|(cases e;done)|skip
 · cases(show vx=_ from hx);cases(show vy=_ from hy)
   cases e;exact .inl ⟨_,_,rfl,rfl,k _ H (Same.refl H) rfl⟩
 · cases(show vx=_ from hx);cases(show vy=_ from hy)
   rename_i a b;dsimp only [addD]at e
   by_cases hz:a.length+b.length<=sizeLine
   · rw [if_pos hz]at e
     cases e;exact .inr (.inl ⟨_,_,rfl,rfl,hz,k _ H (Same.refl H) rfl⟩)
   · rw [if_neg hz]at e;cases e
theorem Zgw:Xx cA (rI0 λi j => .int (i-j)) subD:=λt t' i H x y vx vy d _ hx hy e Q k=>by
 cases x<;>cases y<;>first|(cases e;done)|skip
 cases(show vx=_ from hx);cases(show vy=_ from hy);cases e;exact⟨_,_,rfl,rfl,k _ H (Same.refl H) rfl⟩
theorem Y9{p:Int->Int->Bool}:Xx cA (rI0 λi j => .bl (p i j)) (ZJ p):=λt t' i H x y vx vy d _ hx hy e Q k=>by
 cases x<;>cases y<;>first|(cases e;done)|skip
 cases(show vx=_ from hx);cases(show vy=_ from hy);cases e;exact⟨_,_,rfl,rfl,k _ H (Same.refl H) rfl⟩
def inD(neg:Bool):D->D->Option D
 | .str [c],.str b=>some (.bl (neg != decide (c∈b)))
 |x,.lst ys=>if ZW x&&ys.all ZW then some (.bl (if neg then !(inV (val x) (ys.map val))else inV (val x) (ys.map val)))else none
 |x,.tup ys=>if ZW x&&ys.all ZW then some (.bl (if neg then !(inV (val x) (ys.map val))else inV (val x) (ys.map val)))else none
 |_,_=>none
theorem Zbr{d:D}:ZW d=true->Vm (val d)=true:=by
 intro h;cases d<;>first|rfl|cases h
theorem ZaQ:∀{xs:List D},xs.all ZW=true->(xs.map val).all Vm=true
 | [],_=>rfl
 |x::xs,h=>by
  rw [List.all_cons,Bool.and_eq_true]at h;rw [List.map_cons,List.all_cons,Zbr h.1,ZaQ h.2];rfl
theorem Zhy{t i:Addr->Prop}{H:Hp}{d:D}{v:V}(hs:ZW d=true)(h:RepT cA t i H d v):v=val d:=by
 cases d<;>first|exact h|cases hs
theorem Qc{neg:Bool}:Xx cA (U9 cA.K neg) (inD neg):=λt t' i H x y vx vy d _ hx hy e Q k=>by
 have seq:∀ys,(y = .lst ys\/y = .tup ys)->(if ZW x&&ys.all ZW then some (D.bl (if neg then !(inV (val x) (ys.map val))else inV (val x) (ys.map val)))else none)=some d->U9 cA.K neg vx vy H Q:=λys hy' e=>by
  by_cases hz:(ZW x&&ys.all ZW)=true
  · rw [if_pos hz]at e
    rw [Bool.and_eq_true]at hz;have ex:=Zhy hz.1 hx;subst ex;cases e;rcases hy' with rfl|rfl
    · obtain⟨a,vs,rfl,_,rd,l⟩:=hy
      have ev:=l.vals hz.2;subst ev;exact .inr ⟨a,_,rfl,.inl rd,Zbr hz.1,ZaQ hz.2,k _ H (Same.refl H) rfl⟩
    · obtain⟨a,vs,rfl,_,rd,l⟩:=hy
      have ev:=l.vals hz.2;subst ev;exact .inr ⟨a,_,rfl,.inr (SqT.of rd),Zbr hz.1,ZaQ hz.2,k _ H (Same.refl H) rfl⟩
  · rw [if_neg hz]at e;cases e
 cases y with
 |lst ys=>exact seq ys (.inl rfl) (by cases x<;>first|exact e|(rename_i cs;cases cs<;>first|exact e|(rename_i c r;cases r<;>exact e)))
 |tup ys=>exact seq ys (.inr rfl) (by cases x<;>first|exact e|(rename_i cs;cases cs<;>first|exact e|(rename_i c r;cases r<;>exact e)))
 |str b=>
  cases x with
  |str cs=>
   cases cs with
   |nil=>cases e
   |cons c r=>
    cases r with
    |cons _ _=>cases e
    |nil=>
     cases(show vx=_ from hx);cases(show vy=_ from hy);cases e;exact .inl ⟨c,b,rfl,rfl,k _ H (Same.refl H) rfl⟩
  |_=>cases e
 |_=>cases x<;>first|(cases e;done)|(rename_i cs;cases cs<;>first|(cases e;done)|(rename_i c r;cases r<;>cases e))
def ixD:D->D->Option D
 | .lst xs,.int i=>atI xs i
 | .tup xs,.int i=>atI xs i
 | .str cs,.int i=>if cs.length<=sizeLine then(atI cs i).map λc => .str [c]else none
 |_,_=>none
theorem Zew{av:Addr->Prop}{H:Hp}{xs:List D}{vs:List V}{i:Int}{d:D}(l:RepL cA av H xs vs)(h:atI xs i=some d):∃v,atI vs i=some v/\Rep cA av H d v:=by
 unfold atI at h ⊢;rw [l.length]at h;cases e:ixN vs.length i with
 |none=>rw [e]at h;cases h
 |some j=>
  rw [e]at h;exact l.get h
theorem Zv:Xx cA (ZkZ cA.K) ixD:=λt t' i H x y vx vy d _ hx hy e Q k=>by
 cases y<;>first|(cases x<;>cases e;done)|skip
 rename_i j;cases(show vy=_ from hy);cases x<;>first|(cases e;done)|skip
 · cases(show vx=_ from hx)
   rename_i cs;dsimp only [ixD]at e
   by_cases hz:cs.length<=sizeLine
   · rw [if_pos hz]at e
     cases ea:atI cs j with
     |none=>rw [ea]at e;cases e
     |some c=>
      rw [ea]at e;cases e;exact .inr (.inr ⟨cs,j,c,rfl,rfl,hz,ea,k _ H (Same.refl H) rfl⟩)
   · rw [if_neg hz]at e;cases e
 · obtain⟨a,vs,rfl,_,rd,l⟩:=hx
   obtain⟨v,h1,h2⟩:=Zew l e;exact .inl ⟨a,vs,j,v,rfl,rfl,rd,h1,k v H (Same.refl H) h2⟩
 · obtain⟨a,vs,rfl,_,rd,l⟩:=hx
   obtain⟨v,h1,h2⟩:=Zew l e;exact .inr (.inl ⟨a,vs,j,v,rfl,rfl,SqT.of rd,h1,k v H (Same.refl H) h2⟩)
end
end DL
namespace DL
open PySem PySem.Spec L2
section
variable{cA:Kn}{G:Cn}{ow:List Nat}
def bD:Option D->Option Bool
 |some (.bl b)=>some b
 |_=>none
theorem Zex{o:Option D}{b:Bool}(h:bD o=some b):o=some (.bl b):=by
 cases o with
 |none=>cases h
 |some d=>cases d<;>first|(cases h;rfl)|cases h
def xB(ε:Env->Option D)(δ:Env):Option Bool:=bD (ε δ)
theorem Xc{te:TE}{q:Ql}{ε:Env->Option D}(h:VE G ow te q ε):VT G ow (tB te) (xB ε):=λH0 av A σ H δ E b e Q k=>
 h H0 av A σ H δ E _ (Zex e) _ λv H' s r=>⟨b,by cases q<;>exact r,k H' s⟩
theorem ZP{te:TE}{q:Ql}{ε:Env->Option D}(h:VE G ow te q ε):VT G ow (Zix te) (xB ε):=λH0 av A σ H δ E b e Q k=>
 h H0 av A σ H δ E _ (Zex e) _ λv H' s r=>⟨b,by cases q<;>exact r,k H' s⟩
def Xd(τ:Env->Option Bool)(δ:Env):Option Bool:=match τ δ with
 |some b=>some (!b)
 |none=>none
theorem J9{t:TT}{τ:Env->Option Bool}(h:VT G ow t τ):VT G ow (ZkN t) (Xd τ):=λH0 av A σ H δ E b e Q k=>by
 unfold Xd at e;cases he:τ δ with
 |none=>rw [he]at e;cases e
 |some c=>
  rw [he]at e;cases e;exact h H0 av A σ H δ E c he _ λH' s=>k H' s
def YL(τ υ:Env->Option Bool)(δ:Env):Option Bool:=match τ δ with
 |some true=>υ δ
 |some false=>some false
 |none=>none
def xOr(τ υ:Env->Option Bool)(δ:Env):Option Bool:=match τ δ with
 |some true=>some true
 |some false=>υ δ
 |none=>none
theorem QX{t u:TT}{τ υ:Env->Option Bool}(h:VT G ow t τ)(h':VT G ow u υ):VT G ow (JO t u) (YL τ υ):=λH0 av A σ H δ E b e Q k=>by
 unfold YL at e;cases he:τ δ with
 |none=>rw [he]at e;cases e
 |some c=>
  rw [he]at e;refine h H0 av A σ H δ E c he _ λH' s => ?_
  cases c with
  |true=>exact X5 (h' H0 av A σ H' δ (E.mono s) b e _ λH2 s2=>k H2 (s.trans s2))
  |false=>cases e;exact Ua (k H' s)
theorem Xi{t u:TT}{τ υ:Env->Option Bool}(h:VT G ow t τ)(h':VT G ow u υ):VT G ow (tOr t u) (xOr τ υ):=λH0 av A σ H δ E b e Q k=>by
 unfold xOr at e;cases he:τ δ with
 |none=>rw [he]at e;cases e
 |some c=>
  rw [he]at e;refine h H0 av A σ H δ E c he _ λH' s => ?_
  cases c with
  |true=>cases e;exact X5 (k H' s)
  |false=>exact Ua (h' H0 av A σ H' δ (E.mono s) b e _ λH2 s2=>k H2 (s.trans s2))
theorem Va:VT G ow tYes (λ_=>some true):=λH0 av A σ H δ E b e Q k=>by
 cases e;exact k H (Same.refl H)
theorem blq{av:Addr->Prop}{A:Nat->Option Addr}{H:Hp}{q:Ql}{b:Bool}:RepQ cA av A H q (.bl b) (.bl b):=by cases q<;>exact rfl
theorem qbl{av:Addr->Prop}{A:Nat->Option Addr}{H:Hp}{q:Ql}{b:Bool}{v:V}(h:RepQ cA av A H q (.bl b) v):v = .bl b:=by cases q<;>exact h
def Y6(a b:Env->Option D)(δ:Env):Option D:=match a δ with
 |some (.bl true)=>b δ
 |some (.bl false)=>some (.bl false)
 |_=>none
def eOr(a b:Env->Option D)(δ:Env):Option D:=match a δ with
 |some (.bl true)=>some (.bl true)
 |some (.bl false)=>b δ
 |_=>none
def QY(a:Env->Option D)(δ:Env):Option D:=match a δ with
 |some (.bl b)=>some (.bl (!b))
 |_=>none
theorem Ub{ta tb:TE}{qa qb:Ql}{a b:Env->Option D}(ha:VE G ow ta qa a)(hb:VE G ow tb qb b):VE G ow (Zis ta tb) qb (Y6 a b):=λH0 av A σ H δ E d e Q k=>by
 unfold Y6 at e;cases he:a δ with
 |none=>rw [he]at e;cases e
 |some x=>
  rw [he]at e;cases x<;>first|(cases e;done)|skip
  rename_i c;refine ha H0 av A σ H δ E _ he _ λv H' s r=>⟨c,qbl r,?_⟩
  cases c with
  |true=>exact X5 (hb H0 av A σ H' δ (E.mono s) d e _ λv2 H2 s2 r2=>k v2 H2 (s.trans s2) r2)
  |false=>cases e;exact Ua (k _ H' s blq)
theorem Zjm{ta:TE}{qa:Ql}{a:Env->Option D}(ha:VE G ow ta qa a):VE G ow (Zit ta) .cl (QY a):=λH0 av A σ H δ E d e Q k=>by
 unfold QY at e;cases he:a δ with
 |none=>rw [he]at e;cases e
 |some x=>
  rw [he]at e;cases x<;>first|(cases e;done)|skip
  cases e;exact ha H0 av A σ H δ E _ he _ λv H' s r=>⟨_,qbl r,k _ H' s blq⟩
def eIf(τ:Env->Option Bool)(a b:Env->Option D)(δ:Env):Option D:=match τ δ with
 |some true=>a δ
 |some false=>b δ
 |none=>none
theorem UE{t:TT}{ta tb:TE}{q:Ql}{τ:Env->Option Bool}{a b:Env->Option D}(ht:VT G ow t τ)(ha:VE G ow ta q a)(hb:VE G ow tb q b):VE G ow (tIf t ta tb) q (eIf τ a b):=λH0 av A σ H δ E d e Q k=>by
 unfold eIf at e;cases he:τ δ with
 |none=>rw [he]at e;cases e
 |some c=>
  rw [he]at e;refine ht H0 av A σ H δ E c he _ λH' s => ?_
  cases c with
  |true=>exact X5 (ha H0 av A σ H' δ (E.mono s) d e _ λv H2 s2 r=>k v H2 (s.trans s2) r)
  |false=>exact Ua (hb H0 av A σ H' δ (E.mono s) d e _ λv H2 s2 r=>k v H2 (s.trans s2) r)
def Y7:D->Bool
 | .non=>true
 |_=>false
theorem Zey{av:Addr->Prop}{H:Hp}{d:D}{v:V}(h:Rep cA av H d v):decide (v = .non)=Y7 d:=by
 cases d with
 |non=>cases(show v=_ from h);rfl
 |bl b=>cases(show v=_ from h);rfl
 |int i=>cases(show v=_ from h);rfl
 |str cs=>cases(show v=_ from h);rfl
 |lst xs=>unfold Rep at h;obtain⟨a,vs,rfl,_⟩:=h;rfl
 |tup xs=>unfold Rep at h;obtain⟨a,vs,rfl,_⟩:=h;rfl
 |obj c ks xs=>unfold Rep at h;obtain⟨a,dx,vs,rfl,_⟩:=h;rfl
 |dct ks xs=>unfold Rep at h;obtain⟨a,vs,rfl,_⟩:=h;rfl
 |dtt ks xs=>unfold Rep at h;obtain⟨a,vs,rfl,_⟩:=h;rfl
def Yu(a:Env->Option D)(δ:Env):Option D:=match a δ with
 |some d=>some (.bl (Y7 d))
 |none=>none
def Vb(a:Env->Option D)(δ:Env):Option D:=match a δ with
 |some d=>some (.bl (!Y7 d))
 |none=>none
theorem VP{ta:TE}{qa:Ql}{a:Env->Option D}(ha:VE G ow ta qa a):VE G ow (ZmE ta) .cl (Yu a):=λH0 av A σ H δ E d e Q k=>by
 unfold Yu at e;cases he:a δ with
 |none=>rw [he]at e;cases e
 |some x=>
  rw [he]at e;cases e;refine ha H0 av A σ H δ E _ he _ λv H' s r => ?_
  rw [Zey r.any];exact k _ H' s blq
theorem Zez{ta:TE}{qa:Ql}{a:Env->Option D}(ha:VE G ow ta qa a):VE G ow (Zir ta) .cl (Vb a):=λH0 av A σ H δ E d e Q k=>by
 unfold Vb at e;cases he:a δ with
 |none=>rw [he]at e;cases e
 |some x=>
  rw [he]at e;cases e;refine ha H0 av A σ H δ E _ he _ λv H' s r => ?_
  rw [Zey r.any];exact k _ H' s blq
def Uc(f g:D->D->Option D)(a b c:Env->Option D)(δ:Env):Option D:=match eOp f a b δ with
 |some (.bl true)=>eOp g b c δ
 |some (.bl false)=>some (.bl false)
 |_=>none
theorem Zda{p p':Int->Int->Bool}{ta tb tc:TE}{qa qb qc:Ql}{a b c:Env->Option D}(ha:VE G ow ta qa a)(hb:VE G ow tb qb b)(hc:VE G ow tc qc c) :
 VE G ow (Zgo (rI0 λi j => .bl (p i j)) (rI0 λi j => .bl (p' i j)) ta tb tc) .cl (Uc (ZJ p) (ZJ p') a b c):=λH0 av A σ H δ E d e Q k=>by
 unfold Uc at e;cases he:eOp (ZJ p) a b δ with
 |none=>rw [he]at e;cases e
 |some z=>
  rw [he]at e;obtain⟨x,y,ex,ey,ez⟩:=J7 he;cases x<;>cases y<;>first|(cases ez;done)|skip
  rename_i i j;cases ez;refine ha H0 av A σ H δ E _ ex _ λvx H1 s1 r1=>hb H0 av A σ H1 δ (E.mono s1) _ ey _ λvy H2 s2 r2 => ?_
  have e1:vx = .int i:=r1.any;have e2:vy = .int j:=r2.any;subst e1 e2;refine⟨i,j,rfl,rfl,p i j,rfl,?_⟩;have E2:=(E.mono s1).mono s2;cases hp:p i j with
  |false=>
   rw [hp]at e;cases e;exact Ua (k _ H2 (s1.trans s2) blq)
  |true=>
   rw [hp]at e;obtain⟨y',w',ey',ew,ez⟩:=J7 e;rw [ey]at ey';cases ey';cases w'<;>first|(cases ez;done)|skip
   rename_i l;cases ez;refine X5 (hc H0 av A σ H2 δ E2 _ ew _ λvw H3 s3 r3 => ?_);have e3:vw = .int l:=r3.any;subst e3;exact⟨j,l,rfl,rfl,k _ H3 ((s1.trans s2).trans s3) blq⟩
def Vn:D->Option D
 | .int i=>some (.int (-i))
 |_=>none
def eUn(f:D->Option D)(a:Env->Option D)(δ:Env):Option D:=match a δ with
 |some x=>f x
 |none=>none
theorem Zgx{ta:TE}{qa:Ql}{a:Env->Option D}(ha:VE G ow ta qa a):VE G ow (tUn (rU λi => .int (-i)) ta) .cl (eUn Vn a):=λH0 av A σ H δ E d e Q k=>by
 unfold eUn at e;cases he:a δ with
 |none=>rw [he]at e;cases e
 |some x=>
  rw [he]at e;cases x<;>first|(cases e;done)|skip
  cases e;refine ha H0 av A σ H δ E _ he _ λv H' s r => ?_
  have e1:=r.any;exact⟨_,e1,k _ H' s rfl⟩
def eNil(_:Env):Option (List D):=some []
def Zb(a:Env->Option D)(r:Env->Option (List D))(δ:Env):Option (List D):=match a δ with
 |some x=>match r δ with
  |some xs=>some (x::xs)
  |none=>none
 |none=>none
theorem Zh{q:Ql}:VA G ow tNil q eNil:=λH0 av A σ H δ E ds e Q k=>by
 cases e;exact k [] H (Same.refl H) rfl
theorem Zd{te:TE}{ta:TA}{q:Ql}{a:Env->Option D}{r:Env->Option (List D)}(ha:VE G ow te q a)(hr:VA G ow ta q r):VA G ow (Y4 te ta) q (Zb a r):=λH0 av A σ H δ E ds e Q k=>by
 unfold Zb at e;cases he:a δ with
 |none=>rw [he]at e;cases e
 |some x=>
  rw [he]at e;cases hr':r δ with
  |none=>rw [hr']at e;cases e
  |some xs=>
   rw [hr']at e;cases e;exact ha H0 av A σ H δ E x he _ λv H1 s1 r1=>hr H0 av A σ H1 δ (E.mono s1) xs hr' _ λvs H2 s2 r2=>k _ H2 (s1.trans s2) ⟨v,vs,rfl,r1.same s2,r2⟩
theorem RepQL.length{av:Addr->Prop}{A:Nat->Option Addr}{H:Hp}{q:Ql}{xs:List D}{vs:List V}(h:RepQL cA av A H q xs vs):xs.length=vs.length:=h.any.length
def ZH(α:Env->Option (List D))(δ:Env):Option D:=match α δ with
 |some xs=>if xs.length<=sizeLine then some (.lst xs)else none
 |none=>none
theorem YF{t:TA}{α:Env->Option (List D)}(h:VA G ow t .cl α):VF G ow (ZmI t) (ZH α):=λH0 av A σ H δ E d e Q k=>by
 unfold ZH at e;cases he:α δ with
 |none=>rw [he]at e;cases e
 |some xs=>
  rw [he]at e
  by_cases hz:xs.length<=sizeLine
  · have e':D.lst xs=d:=by simpa [hz]using e
    exact h H0 av A σ H δ E xs he _ λvs H1 s1 r1=>⟨by rw [<-r1.length];exact hz,λp hp=>k p vs xs H1 s1 hp r1.cl e'.symm⟩
  · simp [hz]at e
def XQ(α:Env->Option (List D))(δ:Env):Option D:=match α δ with
 |some xs=>if xs.length<=sizeLine then some (.tup xs)else none
 |none=>none
theorem Zd8{t:TA}{α:Env->Option (List D)}(h:VA G ow t .cl α):VE G ow (ZkT t) .cl (XQ α):=λH0 av A σ H δ E d e Q k=>by
 unfold XQ at e;cases he:α δ with
 |none=>rw [he]at e;cases e
 |some xs=>
  rw [he]at e
  by_cases hz:xs.length<=sizeLine
  · have e':D.tup xs=d:=by simpa [hz]using e
    subst e';refine h H0 av A σ H δ E xs he _ λvs H1 s1 r1=>⟨by rw [<-r1.length];exact hz,λp hp=>k _ _ (s1.trans (Ym hp)) ⟨p,vs,rfl,λz=>(E.mono s1).avl p z hp,Z2,r1.cl.same (Ym hp)⟩⟩
  · simp [hz]at e
def Qd(cA:Kn)(i:Addr->Prop)(H:Hp):List D->List V->Prop
 | [],vs=>vs=[]
 |x::xs,vs=>∃v r,vs=v::r/\(∃t,RepT cA t i H x v)/\Qd cA i H xs r
theorem RepQL.il{av:Addr->Prop}{A:Nat->Option Addr}{H:Hp}{q:Ql}:∀{xs:List D}{vs:List V},RepQL cA av A H q xs vs->Qd cA (q.iv av A) H xs vs
 | [],_,h=>h
 |x::xs,vs,h=>by
  obtain⟨v,r,e,h1,h2⟩:=h;exact⟨v,r,e,⟨_,h1.tp⟩,RepQL.il h2⟩
def UF(cA:Kn)(r:List V->Hp->VK->Prop)(f:List D->Option D):Prop:=
 ∀(i:Addr->Prop)(H:Hp)(ds:List D)(vs:List V)(d:D),(∀a,i a->H a≠none)->Qd cA i H ds vs->f ds=some d->∀Q:VK,(∀v H',Same H H'->Rep cA i H' d v->Q v H')->r vs H Q
def eCB(f:List D->Option D)(α:Env->Option (List D))(δ:Env):Option D:=match α δ with
 |some ds=>f ds
 |none=>none
theorem ZQ{r:List V->Hp->VK->Prop}{f:List D->Option D}{t:TA}{q:Ql}{α:Env->Option (List D)}(hr:UF G.1 r f)(h:VA G ow t q α):VE G ow (tCB r t) q.it (eCB f α):=λH0 av A σ H δ E d e Q k=>by
 unfold eCB at e;cases he:α δ with
 |none=>rw [he]at e;cases e
 |some ds=>
  rw [he]at e;refine h H0 av A σ H δ E ds he _ λvs H1 s1 r1 => ?_
  have E1:=E.mono s1;cases q with
  |cl=>exact hr _ H1 ds vs d E1.avl r1.il e _ λv H' s r=>k v H' (s1.trans s) r.t
  |tp=>exact hr _ H1 ds vs d E1.avl r1.il e _ λv H' s r=>k v H' (s1.trans s) r.t
  |dt=>exact hr _ H1 ds vs d E1.avH r1.il e _ λv H' s r=>k v H' (s1.trans s) r.t
theorem il1{i:Addr->Prop}{H:Hp}{x:D}{vs:List V}(h:Qd cA i H [x] vs):∃v t,vs=[v]/\RepT cA t i H x v:=by
 obtain⟨v,r,rfl,⟨t,h1⟩,h2⟩:=h;cases(show r=[]from h2);exact⟨v,t,rfl,h1⟩
def lenD:List D->Option D
 | [.str a]=>if a.length<=sizeLine then some (.int a.length)else none
 | [.lst xs]=>some (.int xs.length)
 | [.tup xs]=>some (.int xs.length)
 |_=>none
theorem Z6:UF cA (Zhb cA.K) lenD:=λi H ds vs d _ h e Q k=>by
 cases ds with
 |nil=>cases e
 |cons x r=>
  cases r with
  |cons _ _=>cases x<;>cases e
  |nil=>
   obtain⟨v,t,rfl,hx⟩:=il1 h;cases x<;>first|(cases e;done)|skip
   · rename_i a
     dsimp only [lenD]at e
     by_cases hz:a.length<=sizeLine
     · rw [if_pos hz]at e
       cases e;exact .inl ⟨a,by rw [show v=S a from hx],hz,k _ H (Same.refl H) rfl⟩
     · rw [if_neg hz]at e;cases e
   · obtain⟨a,ws,rfl,_,rd,l⟩:=hx
     cases e;exact .inr ⟨a,ws,rfl,.inl rd,k _ H (Same.refl H) (by rw [l.length];rfl)⟩
   · obtain⟨a,ws,rfl,_,rd,l⟩:=hx
     cases e;exact .inr ⟨a,ws,rfl,.inr (SqT.of rd),k _ H (Same.refl H) (by rw [l.length];rfl)⟩
def ZmP:List D->Option D
 | [.int i,.int j]=>some (.int (if j<i then j else i))
 |_=>none
def ZmQ:List D->Option D
 | [.int i,.int j]=>some (.int (if j>i then j else i))
 |_=>none
def Ud:List D->Option (List Bool)
 | []=>some []
 | .bl b::r=>match Ud r with
  |some bs=>some (b::bs)
  |none=>none
 |_=>none
theorem bools_of:∀{xs:List D}{bs:List Bool},Ud xs=some bs->xs=bs.map D.bl
 | [],bs,h=>by cases h;rfl
 |x::xs,bs,h=>by
  cases x<;>first|(cases h;done)|skip
  rename_i b;unfold Ud at h;cases hr:Ud xs with
  |none=>rw [hr]at h;cases h
  |some cs=>
   rw [hr]at h;cases h;rw [List.map_cons,bools_of hr]
def UG(f:List Bool->Bool):List D->Option D
 | [.lst xs]=>match Ud xs with
  |some bs=>some (.bl (f bs))
  |none=>none
 |_=>none
theorem Zgy{f:List Bool->Bool}:UF cA (Zhc cA.K f) (UG f):=λi H ds vs d _ h e Q k=>by
 unfold UG at e
 split at e
 · rename_i xs
   cases hb:Ud xs with
   |none=>rw [hb]at e;cases e
   |some bs=>
    rw [hb]at e;cases e;obtain⟨v,t,rfl,a,ws,rfl,_,rd,l⟩:=il1 h;have ex:=bools_of hb;subst ex;have ev:=l.vals (by rw [List.all_map];exact List.all_eq_true.mpr λ_ _=>rfl);rw [List.map_map]at ev;subst ev;exact⟨a,bs,rfl,rd,k _ H (Same.refl H) rfl⟩
 · cases e
def intD:List D->Option D
 | [.str a]=>if a.length<=640/\a≠[]/\a.all UC=true then some (.int (Y5 a:Nat))else none
 | [.bl b]=>some (.int (if b then 1 else 0))
 |_=>none
theorem Zd9:UF cA rIntX intD:=λi H ds vs d _ h e Q k=>by
 unfold intD at e
 split at e
 · rename_i a
   obtain⟨v,t,rfl,hx⟩:=il1 h;cases(show v=_ from hx)
   by_cases hz:a.length<=640/\a≠[]/\a.all UC=true
   · rw [if_pos hz]at e
     cases e;exact .inl ⟨a,rfl,hz.1,hz.2.1,hz.2.2,k _ H (Same.refl H) rfl⟩
   · rw [if_neg hz]at e;cases e
 · rename_i b
   obtain⟨v,t,rfl,hx⟩:=il1 h;cases(show v=_ from hx);cases e;exact .inr ⟨b,rfl,k _ H (Same.refl H) rfl⟩
 · cases e
def strD:List D->Option D
 | [.int n]=>if 0<=n/\n<10 ^ 10 then some (.str (Zo n.toNat))else none
 |_=>none
theorem Qe:UF cA rStrI strD:=λi H ds vs d _ h e Q k=>by
 unfold strD at e
 split at e
 · rename_i n
   obtain⟨v,t,rfl,hx⟩:=il1 h;cases(show v=_ from hx)
   by_cases hz:0<=n/\n<10 ^ 10
   · rw [if_pos hz]at e
     cases e;exact⟨n.toNat,by rw [Int.toNat_of_nonneg hz.1];rfl,by omega,k _ H (Same.refl H) rfl⟩
   · rw [if_neg hz]at e;cases e
 · cases e
def Xy:List D->Option D
 | [.lst xs]=>some (.tup xs)
 | [.tup xs]=>some (.tup xs)
 |_=>none
theorem ZaC{t:TA}{α:Env->Option (List D)}(h:VA G ow t .cl α):VE G ow (tCB (Zgu G.1.K) t) .cl (eCB Xy α):=λH0 av A σ H δ E d e Q k=>by
 unfold eCB at e;cases he:α δ with
 |none=>rw [he]at e;cases e
 |some ds=>
  rw [he]at e;refine h H0 av A σ H δ E ds he _ λvs H1 s1 r1 => ?_
  have E1:=E.mono s1;have e:Xy ds=some d:=e;unfold Xy at e
  split at e
  · rename_i xs
    cases e;obtain⟨v,r,rfl,⟨a,ws,rfl,_,rd,l⟩,h2⟩:=r1;cases(show r=[]from h2);exact⟨a,ws,rfl,.inl ⟨rd,λp hp=>k _ _ (s1.trans (Ym hp)) ⟨p,ws,rfl,λz=>E1.avl p z hp,Z2,l.same (Ym hp)⟩⟩⟩
  · rename_i xs
    cases e;obtain⟨v,r,rfl,⟨a,ws,rfl,na,rd,l⟩,h2⟩:=r1;cases(show r=[]from h2);exact⟨a,ws,rfl,.inr ⟨SqT.of rd,k _ H1 s1 ⟨a,ws,rfl,na,rd,l⟩⟩⟩
  · cases e
end
end DL
namespace DL
open PySem PySem.Spec L2
inductive Out where
 |nx (δ:Env)
 |rt (d:D)
 |bk (δ:Env)
 |ct (δ:Env)
def Zlr(G:Cn)(owN owB owC:List Nat)(H0:Hp)(av:Addr->Prop)(De:Ends):Out->Prop
 | .nx δ'=>∀A' σ' H',ER G owN H0 av A' σ' H' δ'->De.nx σ' H'
 | .rt d=>∀v H',Same H0 H'->Rep G.1 av H' d v->De.rt v H'
 | .bk δ'=>∀A' σ' H',ER G owB H0 av A' σ' H' δ'->De.bk σ' H'
 | .ct δ'=>∀A' σ' H',ER G owC H0 av A' σ' H' δ'->De.ct σ' H'
def VS(G:Cn)(ow owN owB owC:List Nat)(ts:TS)(φ:Env->Option Out):Prop:=
 ∀H0 av A σ H δ,ER G ow H0 av A σ H δ->∀o,φ δ=some o->∀De:Ends,Zlr G owN owB owC H0 av De o->ts De σ H
def VG(G:Cn)(ow ow':List Nat)(g:TG)(γ:D->Env->Option Env):Prop:=
 ∀H0 av A σ H δ,ER G ow H0 av A σ H δ->∀d v,Rep G.1 (AV av A) H d v->∀δ',γ d δ=some δ'->∀Q:L2.St->Hp->Prop,(∀A' σ' H',Same H H'->ER G ow' H0 av A' σ' H' δ'->Q σ' H')->g v σ H Q
def sub(a b:List Nat):Bool:=a.all λx=>b.contains x
theorem Zbf{a b:List Nat}(h:sub a b=true):∀x∈a,x∈b:=λx hx=>by
 have:=List.all_eq_true.mp h x hx;simpa using this
section
variable{cA:Kn}{G:Cn}{ow owN owB owC ow1 ow2:List Nat}{H0 H H':Hp}{av:Addr->Prop}{A:Nat->Option Addr}{σ:L2.St}{δ:Env}
theorem Zct{α:Type}{l:List (Option α)}{i j:Nat}{x y:α}(h:(l.set i (some x))[j]? = some (some y)):(j=i/\y=x/\i<l.length)\/(j≠i/\l[j]? = some (some y)):=by
 by_cases e:j=i
 · subst e
   by_cases hl:j<l.length
   · rw [List.getElem?_set_self hl]at h
     exact .inl ⟨rfl,(Option.some.inj (Option.some.inj h)).symm,hl⟩
   · rw [List.getElem?_eq_none (by simpa using hl)]at h
     cases h
 · rw [List.getElem?_set_ne (Ne.symm e)]at h
   exact .inr ⟨e,h⟩
theorem ER.set{i:Nat}{d:D}{v:V}(E:ER G ow H0 av A σ H δ)(h:Rep G.1 (AV av A) H d v)(hw:∀j,j∈ow1 ↔ j∈ow/\j≠i)(hn:G.2 i=none) :
 ER G ow1 H0 av (λj=>if j=i then none else A j) (σ.set i (some v)) H (δ.set i (some d)):=by
 have less:∀b,AV av (λj=>if j=i then none else A j) b->AV av A b:=λb z=>by
  rcases z with z|⟨j,z⟩
  · exact .inl z
  · by_cases e:j=i
    · simp [e]at z
    · simp [e]at z;exact .inr ⟨j,z⟩
 refine⟨E.same,E.avd,λj a e => ?_,λj k a e1 e2 => ?_,λj a e => ?_,λj e => ?_,λj hj => ?_,by simp [E.len],λj a e=>(by
  have q:j≠i:=λz=>by rw [z,hn]at e;cases e
  simp only [q,if_false];exact E.pin j a e),(λj v' e=>by
  have q:j≠i:=λz=>by rw [z,hn]at e;cases e
  rw [List.getElem?_set_ne (Ne.symm q)];exact E.kept j v' e),λj d' e => ?_⟩
 · by_cases q:j=i
   · simp [q]at e
   · simp [q]at e;exact E.fr j a e
 · by_cases q:j=i
   · simp [q]at e1
   · by_cases q2:k=i
     · simp [q2]at e2
     · simp [q]at e1;simp [q2]at e2;exact E.inj j k a e1 e2
 · by_cases q:j=i
   · simp [q]at e
   · simp [q]at e;exact E.live j a e
 · by_cases q:j=i
   · simp [q]at e
   · simp [q]at e;exact(hw j).mpr ⟨E.dom j e,q⟩
 · obtain⟨h1,h2⟩:=(hw j).mp hj
   simp [h2];exact E.dom' j h1
 · rcases Zct e with⟨rfl,rfl,hl⟩|⟨q,e'⟩
   · refine⟨v,?_,λ_=>h.av λb z => .inl (less b z),λa z=>by simp at z⟩
     rw [List.getElem?_set_self (by rw [E.len];exact hl)]
   · obtain⟨v',h1,h2,h3⟩:=E.var j d' e'
     refine⟨v',by rw [List.getElem?_set_ne (Ne.symm q)];exact h1,λz => ?_,λa z => ?_⟩
     · simp [q]at z
       exact(h2 z).av λb z => .inl (less b z)
     · simp [q]at z
       obtain⟨r1,r2⟩:=h3 a z;refine⟨r1,?_⟩;cases d' with
       |lst xs=>obtain⟨vs,q1,q2⟩:=r2;exact⟨vs,q1,q2.av λb z => .inl (less b z)⟩
       |obj c ks xs=>obtain⟨dx,vs,q1,q0,q2⟩:=r2;exact⟨dx,vs,q1,q0,q2.av λb z => .inl (less b z)⟩
       |dct ks xs=>obtain⟨vs,q1,q0,q2⟩:=r2;exact⟨vs,q1,q0,q2.av λb z => .inl (less b z)⟩
       |dtt ks xs=>obtain⟨vs,q1,q0,q2⟩:=r2;exact⟨vs,q1,q0,q2.av λb z => .inl (less b z)⟩
       |_=>exact r2
theorem ER.own{i:Nat}{xs:List D}{vs:List V}{p:Addr}(E:ER G ow H0 av A σ H δ)(hp:H p=none)(l:RepL G.1 (AV av A) H xs vs)(hw:∀j,j∈ow1 ↔ j∈ow\/j=i)(hn:G.2 i=none) :
 ER G ow1 H0 av (λj=>if j=i then some p else A j) (σ.set i (some (.ref p))) (upd H p (.lst vs)) (δ.set i (some (.lst xs))):=by
 have hs:Same H (upd H p (.lst vs)):=Ym hp
 have less:∀b,AV av (λj=>if j=i then some p else A j) b->AV av A b\/H b=none:=λb z=>by
  rcases z with z|⟨j,z⟩
  · exact .inl (.inl z)
  · by_cases e:j=i
    · simp [e]at z;subst z;exact .inr hp
    · simp [e]at z;exact .inl (.inr ⟨j,z⟩)
 have np:∀j a,A j=some a->a≠p:=λj a e z=>by subst z;exact E.live j a e hp
 have h0:H0 p=none:=by
  cases q:H0 p with
  |none=>rfl
  |some o=>rw [E.same p o q]at hp;cases hp
 refine⟨E.same.trans hs,E.avd,λj a e => ?_,λj k a e1 e2 => ?_,λj a e => ?_,λj e => ?_,λj hj => ?_,by simp [E.len],λj a e=>(by
  have q:j≠i:=λz=>by rw [z,hn]at e;cases e
  simp only [q,if_false];exact E.pin j a e),(λj v' e=>by
  have q:j≠i:=λz=>by rw [z,hn]at e;cases e
  rw [List.getElem?_set_ne (Ne.symm q)];exact E.kept j v' e),λj d' e => ?_⟩
 · by_cases q:j=i
   · simp [q]at e;subst e;exact h0
   · simp [q]at e;exact E.fr j a e
 · by_cases q:j=i
   · by_cases q2:k=i
     · rw [q,q2]
     · simp [q]at e1;simp [q2]at e2
       exact absurd e1.symm (np k a e2)
   · by_cases q2:k=i
     · simp [q]at e1;simp [q2]at e2
       exact absurd e2.symm (np j a e1)
     · simp [q]at e1;simp [q2]at e2;exact E.inj j k a e1 e2
 · by_cases q:j=i
   · simp [q]at e;subst e;rw [Z2];exact λz=>by cases z
   · simp [q]at e
     rw [ZI (np j a e)];exact E.live j a e
 · by_cases q:j=i
   · exact(hw j).mpr (.inr q)
   · simp [q]at e;exact(hw j).mpr (.inl (E.dom j e))
 · by_cases q:j=i
   · simp [q]
   · simp [q]
     exact E.dom' j (((hw j).mp hj).resolve_right q)
 · rcases Zct e with⟨rfl,rfl,hl⟩|⟨q,e'⟩
   · refine⟨.ref p,?_,λz=>by simp at z,λa z => ?_⟩
     · rw [List.getElem?_set_self (by rw [E.len];exact hl)]
     · simp at z
       subst z;exact⟨rfl,vs,Z2,(l.av less).same hs⟩
   · obtain⟨v',h1,h2,h3⟩:=E.var j d' e'
     refine⟨v',by rw [List.getElem?_set_ne (Ne.symm q)];exact h1,λz => ?_,λa z => ?_⟩
     · simp [q]at z
       exact((h2 z).av less).same hs
     · simp [q]at z
       obtain⟨r1,r2⟩:=h3 a z;refine⟨r1,?_⟩;cases d' with
       |lst xs=>obtain⟨vs',q1,q2⟩:=r2;exact⟨vs',hs _ _ q1,(q2.av less).same hs⟩
       |obj c ks xs=>obtain⟨dx,vs',q1,q0,q2⟩:=r2;exact⟨dx,vs',hs _ _ q1,q0,(q2.av less).same hs⟩
       |dct ks xs=>obtain⟨vs',q1,q0,q2⟩:=r2;exact⟨vs',hs _ _ q1,q0,(q2.av less).same hs⟩
       |dtt ks xs=>obtain⟨vs',q1,q0,q2⟩:=r2;exact⟨vs',hs _ _ q1,q0,(q2.av less).same hs⟩
       |_=>exact r2
theorem ER.put{i:Nat}{a:Addr}{d d':D}(E:ER G ow H0 av A σ H δ)(hi:A i=some a)(hd:δ[i]? = some (some d))(hk:∀b o,b≠a->H b=some o->H' b=some o)(hl:H' a≠none)(ho:Own G.1 (AV av A) H' d' a) :
 ER G ow H0 av A σ H' (δ.set i (some d')):=by
 have kk:∀b o,¬AV av A b->H b=some o->H' b=some o:=λb o n e=>hk b o (λz=>n (.inr ⟨i,by rw [z];exact hi⟩)) e
 refine⟨λb o e=>hk b o (λz => ?_) (E.same b o e),E.avd,E.fr,E.inj,λj b e => ?_,E.dom,E.dom',by simp [E.len],E.pin,E.kept,λj d'' e => ?_⟩
 · rw [z,E.fr i a hi]at e;cases e
 · by_cases q:b=a
   · subst q;exact hl
   · have:=E.live j b e
     cases e':H b with
     |none=>exact absurd e' this
     |some o=>rw [hk b o q e'];exact λz=>by cases z
 · rcases Zct e with⟨rfl,rfl,hl'⟩|⟨q,e'⟩
   · obtain⟨v,h1,_,h3⟩:=E.var j d hd
     obtain⟨r1,_⟩:=h3 a hi
     exact⟨v,h1,λz=>(by rw [hi]at z;cases z),λb z=>by
      rw [hi]at z;cases z;exact⟨r1,ho⟩⟩
   · obtain⟨v',h1,h2,h3⟩:=E.var j d'' e'
     refine⟨v',h1,λz=>(h2 z).ext kk,λb z => ?_⟩;obtain⟨r1,r2⟩:=h3 b z;have nb:b≠a:=λw=>q (E.inj j i a (by rw [<-w];exact z) hi)
     refine⟨r1,?_⟩;cases d'' with
     |lst xs=>obtain⟨vs,q1,q2⟩:=r2;exact⟨vs,hk _ _ nb q1,q2.ext kk⟩
     |obj c ks xs=>obtain⟨dx,vs,q1,q0,q2⟩:=r2;exact⟨dx,vs,hk _ _ nb q1,q0,q2.ext kk⟩
     |dct ks xs=>obtain⟨vs,q1,q0,q2⟩:=r2;exact⟨vs,hk _ _ nb q1,q0,q2.ext kk⟩
     |dtt ks xs=>obtain⟨vs,q1,q0,q2⟩:=r2;exact⟨vs,hk _ _ nb q1,q0,q2.ext kk⟩
     |_=>exact r2
theorem ER.freeze(i:Nat)(E:ER G ow H0 av A σ H δ)(hw:∀j,j∈ow1 ↔ j∈ow/\j≠i)(hn:G.2 i=none):ER G ow1 H0 av (λj=>if j=i then none else A j) σ H δ:=by
 have less:∀b,AV av (λj=>if j=i then none else A j) b->AV av A b:=λb z=>by
  rcases z with z|⟨j,z⟩
  · exact .inl z
  · by_cases e:j=i
    · simp [e]at z
    · simp [e]at z;exact .inr ⟨j,z⟩
 refine⟨E.same,E.avd,λj a e => ?_,λj k a e1 e2 => ?_,λj a e => ?_,λj e => ?_,λj hj => ?_,E.len,λj a e=>(by
  have q:j≠i:=λz=>by rw [z,hn]at e;cases e
  simp only [q,if_false];exact E.pin j a e),E.kept,λj d' e => ?_⟩
 · by_cases q:j=i
   · simp [q]at e
   · simp [q]at e;exact E.fr j a e
 · by_cases q:j=i
   · simp [q]at e1
   · by_cases q2:k=i
     · simp [q2]at e2
     · simp [q]at e1;simp [q2]at e2;exact E.inj j k a e1 e2
 · by_cases q:j=i
   · simp [q]at e
   · simp [q]at e;exact E.live j a e
 · by_cases q:j=i
   · simp [q]at e
   · simp [q]at e;exact(hw j).mpr ⟨E.dom j e,q⟩
 · obtain⟨h1,h2⟩:=(hw j).mp hj
   simp [h2];exact E.dom' j h1
 · obtain⟨v',h1,h2,h3⟩:=E.var j d' e
   refine⟨v',h1,λz => ?_,λa z => ?_⟩
   · by_cases q:j=i
     · subst q
       cases hA:A j with
       |none=>exact(h2 hA).av λb z => .inl (less b z)
       |some a=>
        obtain⟨rfl,r2⟩:=h3 a hA
        have na:¬AV av (λk=>if k=j then none else A k) a:=λz=>by
         rcases z with z|⟨k,z⟩
         · exact E.avd a z (E.fr j a hA)
         · by_cases qk:k=j
           · simp [qk]at z
           · simp [qk]at z;exact qk (E.inj k j a z hA)
        cases d' with
        |lst xs=>obtain⟨vs,q1,q2⟩:=r2;unfold Rep;exact⟨a,vs,rfl,λz=>(na z).elim,SqL.of q1,q2.av λb z => .inl (less b z)⟩
        |obj c ks xs=>obtain⟨dx,vs,q1,q0,q2⟩:=r2;unfold Rep;exact⟨a,dx,vs,rfl,na,q1,q0,q2.av λb z => .inl (less b z)⟩
        |dct ks xs=>obtain⟨vs,q1,q0,q2⟩:=r2;unfold Rep;exact⟨a,vs,rfl,na,q1,q0,q2.av λb z => .inl (less b z)⟩
        |dtt ks xs=>obtain⟨vs,q1,q0,q2⟩:=r2;unfold Rep;exact⟨a,vs,rfl,na,q1,q0,q2.av λb z => .inl (less b z)⟩
        |_=>exact False.elim r2
     · simp [q]at z
       exact(h2 z).av λb z => .inl (less b z)
   · by_cases q:j=i
     · simp [q]at z
     · simp [q]at z
       obtain⟨r1,r2⟩:=h3 a z;refine⟨r1,?_⟩;cases d' with
       |lst xs=>obtain⟨vs,q1,q2⟩:=r2;exact⟨vs,q1,q2.av λb z => .inl (less b z)⟩
       |obj c ks xs=>obtain⟨dx,vs,q1,q0,q2⟩:=r2;exact⟨dx,vs,q1,q0,q2.av λb z => .inl (less b z)⟩
       |dct ks xs=>obtain⟨vs,q1,q0,q2⟩:=r2;exact⟨vs,q1,q0,q2.av λb z => .inl (less b z)⟩
       |dtt ks xs=>obtain⟨vs,q1,q0,q2⟩:=r2;exact⟨vs,q1,q0,q2.av λb z => .inl (less b z)⟩
       |_=>exact r2
open Classical in
noncomputable def cut(A:Nat->Option Addr)(H:Hp):Hp:=λb=>if ∃i,A i=some b then none else H b
theorem Zdb{b:Addr}{o:HO}(h:cut A H b=some o):H b=some o/\¬∃i,A i=some b:=by
 unfold cut at h
 by_cases e:∃i,A i=some b
 · rw [if_pos e]at h;cases h
 · rw [if_neg e]at h;exact⟨h,e⟩
theorem Ue{b:Addr}(e:¬∃i,A i=some b):cut A H b=H b:=by
 unfold cut;rw [if_neg e]
theorem ER.cut(E:ER G ow H0 av A σ H δ):ER G ow (DL.cut A H) av A σ H δ:=by
 refine⟨λb o e=>(Zdb e).1,λa z => ?_,λi a e => ?_,E.inj,E.live,E.dom,E.dom',E.len,E.pin,E.kept,E.var⟩
 · rw [Ue λ⟨i,e⟩=>E.avd a z (E.fr i a e)]
   exact E.avH a z
 · unfold DL.cut
   rw [if_pos ⟨i,e⟩]
theorem ER.sub0(E:ER G ow H0 av A σ H δ):Same H0 (DL.cut A H):=λb o e=>by
 rw [Ue λ⟨i,z⟩=>by rw [E.fr i b z]at e;cases e];exact E.same b o e
theorem ER.uncut{A':Nat->Option Addr}{σ':L2.St}{δ':Env}(E:ER G ow H0 av A σ H δ)(E':ER G ow1 (DL.cut A H) av A' σ' H' δ'):ER G ow1 H0 av A' σ' H' δ':=
 ⟨E.sub0.trans E'.same,E.avd,λi a e=>E.sub0.free (E'.fr i a e),E'.inj,E'.live,E'.dom,E'.dom',E'.len,E'.pin,E'.kept,E'.var⟩
def sNext(δ:Env):Option Out:=some (.nx δ)
theorem Z8:VS G ow ow owB owC tNext sNext:=λH0 av A σ H δ E o e De k=>by
 cases e;exact k A σ H E
def Zg(φ ψ:Env->Option Out)(δ:Env):Option Out:=match φ δ with
 |some (.nx δ')=>ψ δ'
 |r=>r
theorem Zr{t u:TS}{φ ψ:Env->Option Out}(h1:VS G ow ow1 owB owC t φ)(h2:VS G ow1 owN owB owC u ψ):VS G ow owN owB owC (QN t u) (Zg φ ψ):=λH0 av A σ H δ E o e De k=>by
 unfold Zg at e;cases he:φ δ with
 |none=>rw [he]at e;cases e
 |some o1=>
  rw [he]at e;refine h1 H0 av A σ H δ E o1 he _ ?_;cases o1 with
  |nx δ'=>exact λA' σ' H' E'=>h2 H0 av A' σ' H' δ' E' o e De k
  |rt d=>cases e;exact k
  |bk δ'=>cases e;exact k
  |ct δ'=>cases e;exact k
def sIf(τ:Env->Option Bool)(φ ψ:Env->Option Out)(δ:Env):Option Out:=match τ δ with
 |some true=>φ δ
 |some false=>ψ δ
 |none=>none
theorem Z9{c:TT}{t u:TS}{τ:Env->Option Bool}{φ ψ:Env->Option Out}(hc:VT G ow c τ)(h1:VS G ow owN owB owC t φ)(h2:VS G ow owN owB owC u ψ):VS G ow owN owB owC (JP c t u) (sIf τ φ ψ):=λH0 av A σ H δ E o e De k=>by
 unfold sIf at e;cases he:τ δ with
 |none=>rw [he]at e;cases e
 |some b=>
  rw [he]at e;refine hc H0 av A σ H δ E b he _ λH' s => ?_
  cases b with
  |true=>exact X5 (h1 H0 av A σ H' δ (E.mono s) o e De k)
  |false=>exact Ua (h2 H0 av A σ H' δ (E.mono s) o e De k)
def Zp(ε:Env->Option D)(δ:Env):Option Out:=match ε δ with
 |some d=>some (.rt d)
 |none=>none
theorem ZF{te:TE}{q:Ql}{ε:Env->Option D}(h:VE G ow te q ε):VS G ow owN owB owC (ZkO te) (Zp ε):=λH0 av A σ H δ E o e De k=>by
 unfold Zp at e;cases he:ε δ with
 |none=>rw [he]at e;cases e
 |some d=>
  rw [he]at e;cases e;exact h H0 av A σ H δ E d he _ λv H' s r=>k v H' (E.same.trans s) r.any
def ZiC(_:Env):Option Out:=some (.rt .non)
def sNever(_:Env):Option Out:=none
theorem ZaD{ts:TS}:VS G ow owN owB owC ts sNever:=λH0 av A σ H δ E o e De k=>by cases e
def Zq(i:Nat)(ε:Env->Option D)(δ:Env):Option Out:=match ε δ with
 |some d=>some (.nx (δ.set i (some d)))
 |none=>none
theorem ZaR{i:Nat}(h1:sub ow1 ow=true)(h2:ow1.contains i=false)(h3:sub ow (i::ow1)=true):∀j,j∈ow1 ↔ j∈ow/\j≠i:=λj=>by
 constructor
 · intro h
   refine⟨Zbf h1 j h,λe => ?_⟩;subst e;have:j∉ow1:=by simpa using h2
   exact this h
 · rintro⟨h,n⟩
   rcases List.mem_cons.mp (Zbf h3 j h)with e|e
   · exact absurd e n
   · exact e
theorem ZfY{i:Nat}(h1:sub ow1 (i::ow)=true)(h2:ow1.contains i=true)(h3:sub ow ow1=true):∀j,j∈ow1 ↔ j∈ow\/j=i:=λj=>by
 constructor
 · intro h
   rcases List.mem_cons.mp (Zbf h1 j h)with e|e
   · exact .inr e
   · exact .inl e
 · rintro(h|rfl)
   · exact Zbf h3 j h
   · simpa using h2
theorem ZN{te:TE}{ε:Env->Option D}(i:Nat)(h:VE G ow te .cl ε)(hn:G.2 i=none:=by rfl)(h1:sub owN ow=true:=by rfl)(h2:owN.contains i=false:=by rfl)(h3:sub ow (i::owN)=true:=by rfl):VS G ow owN owB owC (UA te (VL i)) (Zq i ε):=λH0 av A σ H δ E o e De k=>by
 unfold Zq at e;cases he:ε δ with
 |none=>rw [he]at e;cases e
 |some d=>
  rw [he]at e;cases e;exact h H0 av A σ H δ E d he _ λv H' s r=>k _ _ H' ((E.mono s).set (RepT.r r) (ZaR h1 h2 h3) hn)
theorem Vo{te:TE}{ε:Env->Option D}(i:Nat)(h:VF G ow te ε)(hn:G.2 i=none:=by rfl)(h1:sub owN (i::ow)=true:=by rfl)(h2:owN.contains i=true:=by rfl)(h3:sub ow owN=true:=by rfl):VS G ow owN owB owC (UA te (VL i)) (Zq i ε):=λH0 av A σ H δ E o e De k=>by
 unfold Zq at e;cases he:ε δ with
 |none=>rw [he]at e;cases e
 |some d=>
  rw [he]at e;cases e;refine h H0 av A σ H δ E d he _ λp vs xs H1 s hp l hd => ?_
  subst hd;exact k _ _ _ ((E.mono s).own hp l (ZfY h1 h2 h3) hn)
def UH(ε:Env->Option D)(δ:Env):Option Out:=match ε δ with
 |some _=>some (.nx δ)
 |none=>none
theorem Zhz{te:TE}{q:Ql}{ε:Env->Option D}(h:VE G ow te q ε):VS G ow ow owB owC (V7 te) (UH ε):=λH0 av A σ H δ E o e De k=>by
 unfold UH at e;cases he:ε δ with
 |none=>rw [he]at e;cases e
 |some d=>
  rw [he]at e;cases e;exact h H0 av A σ H δ E d he _ λv H' s r=>k A σ H' (E.mono s)
def Z3(i:Nat)(ε:Env->Option D)(δ:Env):Option Out:=match Za i δ with
 |some (.lst xs)=>match ε δ with
  |some d=>if xs.length<sizeLine then some (.nx (δ.set i (some (.lst (xs++[d])))))else none
  |none=>none
 |_=>none
theorem YV{K:PySem.W.Frag}{te:TE}{ε:Env->Option D}(i:Nat)(hi:ow.contains i=true)(h:VE G ow te .cl ε):VS G ow ow owB owC (V7 (tBM K "list" rAppend (Xk i) (Y4 te tNil))) (Z3 i ε):=λH0 av A σ H δ E o e De k=>by
 unfold Z3 at e;cases hv:Za i δ with
 |none=>rw [hv]at e;cases e
 |some x=>
  rw [hv]at e;cases x<;>first|(cases e;done)|skip
  rename_i xs;dsimp only at e;cases he:ε δ with
  |none=>rw [he]at e;cases e
  |some d=>
   rw [he]at e;dsimp only at e
   by_cases hz:xs.length<sizeLine
   · rw [if_pos hz]at e
     cases e;have hi':i∈ow:=by simpa using hi
     cases hA:A i with
     |none=>exact absurd hA (E.dom' i hi')
     |some a=>
      obtain⟨v,h1,_,h3⟩:=E.var i _ (VN hv);obtain⟨rfl,vs,q1,q2⟩:=h3 a hA;refine⟨_,h1,.inl ⟨rfl,vs,SqL.of q1⟩,h H0 av A σ H δ E d he _ λv H' s r => ?_⟩;have E':=E.mono s;have q1':=s _ _ q1;refine⟨a,vs,v,rfl,rfl,q1',by rw [<-q2.length];exact hz,k A σ _ (E'.put hA (VN hv) (λb o hb e=>by rw [ZI hb];exact e) (by rw [Z2];exact λz=>by cases z) ⟨_,Z2,?_⟩)⟩
      have ex:∀b o,¬AV av A b->H' b=some o->upd H' a (.lst (vs++[v])) b=some o:=λb o n e=>by
       rw [ZI λz=>n (.inr ⟨i,by rw [z];exact hA⟩)];exact e
      exact((q2.same s).append (.cons (RepT.r r) .nil)).ext ex
   · rw [if_neg hz]at e;cases e
theorem VS.frz{t:TS}{φ:Env->Option Out}(i:Nat)(h:VS G ow1 owN owB owC t φ)(hn:G.2 i=none:=by rfl)(h1:sub ow1 ow=true:=by rfl)(h2:ow1.contains i=false:=by rfl)(h3:sub ow (i::ow1)=true:=by rfl):VS G ow owN owB owC t φ:=λH0 av A σ H δ E o e De k=>
 h H0 av _ σ H δ (E.freeze i (ZaR h1 h2 h3) hn) o e De k
def Zx(i:Nat)(d:D)(δ:Env):Option Env:=some (δ.set i (some d))
theorem YG(i:Nat)(hi:ow.contains i=false:=by rfl)(hn:G.2 i=none:=by rfl):VG G ow ow (VL i) (Zx i):=λH0 av A σ H δ E d v r δ' e Q k=>by
 cases e
 exact k _ _ H (Same.refl H) (E.set r (λj=>by
  have:i∉ow:=by simpa using hi
  exact⟨λh=>⟨h,λz=>this (z▸h)⟩,λh=>h.1⟩) hn)
def VGs(G:Cn)(ow ow':List Nat)(g:TGs)(γ:List D->Env->Option Env):Prop:=
 ∀H0 av A σ H δ,ER G ow H0 av A σ H δ->∀ds vs,RepL G.1 (AV av A) H ds vs->∀δ',γ ds δ=some δ'->∀Q:L2.St->Hp->Prop,(∀A' σ' H',Same H H'->(∀b,AV av A' b->AV av A b)->ER G ow' H0 av A' σ' H' δ'->Q σ' H')->g vs σ H Q
def gsNil(ds:List D)(δ:Env):Option Env:=match ds with
 | []=>some δ
 |_=>none
theorem Zcu:VGs G ow ow gNil gsNil:=λH0 av A σ H δ E ds vs r δ' e Q k=>by
 cases ds with
 |nil=>cases e;exact⟨r.nil_of,k A σ H (Same.refl H) (λ_ z=>z) E⟩
 |cons _ _=>cases e
def YH(i:Nat)(γs:List D->Env->Option Env)(ds:List D)(δ:Env):Option Env:=match ds with
 |d::r=>γs r (δ.set i (some d))
 | []=>none
theorem Qf{gs:TGs}{γs:List D->Env->Option Env}(i:Nat)(hi:ow.contains i=false)(hn:G.2 i=none)(h:VGs G ow ow gs γs):VGs G ow ow (Ziu (VL i) gs) (YH i γs):=λH0 av A σ H δ E ds vs r δ' e Q k=>by
 cases ds with
 |nil=>cases e
 |cons d ds=>
  obtain⟨v,vr,rfl,r1,r2⟩:=r.uncons;refine⟨v,vr,rfl,?_⟩
  have less:∀b,AV av (λj=>if j=i then none else A j) b->AV av A b:=λb z=>by
   rcases z with z|⟨j,z⟩
   · exact .inl z
   · by_cases e:j=i
     · simp [e]at z
     · simp [e]at z;exact .inr ⟨j,z⟩
  have E1:ER G ow H0 av (λj=>if j=i then none else A j) (σ.set i (some v)) H (δ.set i (some d)):=E.set r1 (λj=>by
   have:i∉ow:=by simpa using hi
   exact⟨λh=>⟨h,λz=>this (z▸h)⟩,λh=>h.1⟩) hn
  exact h H0 av _ _ H _ E1 ds vr (r2.av λb z => .inl (less b z)) δ' e Q λA' σ' H' s l E'=>k A' σ' H' s (λb z=>less b (l b z)) E'
def Xz(n:Nat)(γs:List D->Env->Option Env)(d:D)(δ:Env):Option Env:=match d with
 | .tup ds=>if ds.length=n then γs ds δ else none
 |_=>none
theorem Zea{K:PySem.W.Frag}{n:Nat}{gs:TGs}{γs:List D->Env->Option Env}(h:VGs G ow ow gs γs):VG G ow ow (ZkP K n gs) (Xz n γs):=λH0 av A σ H δ E d v r δ' e Q k=>by
 cases d<;>first|(cases e;done)|skip
 rename_i ds;dsimp only [Xz]at e
 by_cases hz:ds.length=n
 · rw [if_pos hz]at e
   unfold Rep at r;obtain⟨a,vs,rfl,_,rd,l⟩:=r;exact⟨a,vs,rfl,SqT.of rd,by rw [<-l.length];exact hz,h H0 av A σ H δ E ds vs l δ' e Q λA' σ' H' s _ E'=>k A' σ' H' s E'⟩
 · rw [if_neg hz]at e;cases e
def Qg(cA:Kn)(iv:Addr->Prop)(J:It)(xs:List D)(H0:Hp):Prop:=∀H,Same H0 H ->
 (∀i,i<xs.length->J.go i H) /\
 (∀(i:Nat)x v H',xs[i]? = some x->J.yld i H v H'->Same H H'/\∀av':Addr->Prop,(∀b,av' b->H b≠none)->(∀b,av' b->iv b\/H0 b=none)->Rep cA av' H' x v) /\
 (∀i,xs.length<=i->J.stop i H)
def VI(G:Cn)(ow:List Nat)(wi:TI)(ι:Env->Option (List D)):Prop:=
 ∀H0 av A σ H δ,ER G ow H0 av A σ H δ->∀xs,ι δ=some xs->∀R:It->Hp->Prop,(∀J H1,Same H H1->Qg G.1 (AV av A) J xs (DL.cut A H1)->R J H1)->wi σ H R
def Yn(γ:D->Env->Option Env)(φ:Env->Option Out):List D->Env->Option Out
 | [],δ=>some (.nx δ)
 |x::r,δ=>match γ x δ with
  |none=>none
  |some δ1=>match φ δ1 with
   |none=>none
   |some (.nx δ2)=>Yn γ φ r δ2
   |some (.ct δ2)=>Yn γ φ r δ2
   |some (.bk δ2)=>some (.nx δ2)
   |some (.rt d)=>some (.rt d)
def Yo(ι:Env->Option (List D))(γ:D->Env->Option Env)(φ:Env->Option Out)(δ:Env):Option Out:=match ι δ with
 |some xs=>Yn γ φ xs δ
 |none=>none
theorem XR{wi:TI}{g:TG}{tb:TS}{ι:Env->Option (List D)}{γ:D->Env->Option Env}{φ:Env->Option Out}(hi:VI G ow wi ι)(hg:VG G ow ow g γ)(hb:VS G ow ow ow ow tb φ):VS G ow ow owB owC (ZkQ wi g tb) (Yo ι γ φ):=λH0 av A σ H δ E o e De k=>by
 unfold Yo at e;cases he:ι δ with
 |none=>rw [he]at e;cases e
 |some xs=>
  rw [he]at e;have e:Yn γ φ xs δ=some o:=e;refine hi H0 av A σ H δ E xs he _ λJ H1 s1 W => ?_
  have E1:=E.mono s1;refine⟨λi m σ' H'=>m=xs.length-i/\i<=xs.length/\∃A' δ',ER G ow (DL.cut A H1) av A' σ' H' δ'/\Yn γ φ (xs.drop i) δ'=some o,⟨xs.length,by simp,Nat.zero_le _,A,δ,E1.cut,e⟩,?_⟩
  rintro i m σ' H' ⟨rfl,hle,A',δ',E',e'⟩
  obtain⟨w1,w2,w3⟩:=W H' E'.same
  by_cases hlt:i<xs.length
  · refine .inr ⟨w1 i hlt,λσ2 H2=>∃A2 δ2,ER G ow (DL.cut A H1) av A2 σ2 H2 δ2/\Yn γ φ (xs.drop (i+1)) δ2=some o,λσ2 H2 ⟨A2,δ2,E2,e2⟩=>⟨xs.length-(i+1),by omega,rfl,hlt,A2,δ2,E2,e2⟩,λv H2 y => ?_⟩
    have hx:xs[i]? = some xs[i]:=List.getElem?_eq_getElem hlt;obtain⟨s2,rep⟩:=w2 i _ v H2 hx y;have E2:=E'.mono s2
    have rep':Rep G.1 (AV av A') H2 xs[i] v:=rep _ E'.avl λb z=>by
     rcases z with z|⟨j,z⟩
     · exact .inl (.inl z)
     · exact .inr (E'.fr j b z)
    rw [List.drop_eq_getElem_cons hlt]at e';unfold Yn at e';cases hγ:γ xs[i] δ' with
    |none=>rw [hγ]at e';cases e'
    |some δ1=>
     rw [hγ]at e';dsimp only at e';refine hg _ av A' σ' H2 δ' E2 _ v rep' δ1 hγ _ λA3 σ3 H3 s3 E3 => ?_
     cases hφ:φ δ1 with
     |none=>rw [hφ]at e';cases e'
     |some o1=>
      rw [hφ]at e';refine hb _ av A3 σ3 H3 δ1 E3 o1 hφ _ ?_;cases o1 with
      |nx δ2=>exact λA4 σ4 H4 E4=>⟨A4,δ2,E4,e'⟩
      |ct δ2=>exact λA4 σ4 H4 E4=>⟨A4,δ2,E4,e'⟩
      |bk δ2=>cases e';exact λA4 σ4 H4 E4=>k A4 σ4 H4 (E1.uncut E4)
      |rt d=>cases e';exact λv H4 s4 r4=>k v H4 (E1.sub0.trans s4) r4
  · have ei:i=xs.length:=by omega
    subst ei;rw [List.drop_length]at e';cases e';exact .inl ⟨w3 _ (Nat.le_refl _),k A' σ' H' (E1.uncut E')⟩
open Classical in
end
end DL
namespace DL
open PySem PySem.Spec L2
section
variable{cA:Kn}{G:Cn}{ow owN owB owC:List Nat}
def Z4(ε:Env->Option D)(δ:Env):Option (List D):=match ε δ with
 |some (.lst xs)=>some xs
 |some (.tup xs)=>some xs
 |some (.str cs)=>some (cs.map λc => .str [c])
 |_=>none
theorem Rep.cut{av:Addr->Prop}{A:Nat->Option Addr}{H:Hp}{d:D}{v:V}(h:Rep cA (AV av A) H d v):Rep cA (AV av A) (DL.cut A H) d v:=h.ext λb o n e=>by
 rw [Ue λ⟨i,z⟩=>n (.inr ⟨i,z⟩)];exact e
theorem RepL.cut{av:Addr->Prop}{A:Nat->Option Addr}{H:Hp}{d:List D}{v:List V}(h:RepL cA (AV av A) H d v):RepL cA (AV av A) (DL.cut A H) d v:=h.ext λb o n e=>by
 rw [Ue λ⟨i,z⟩=>n (.inr ⟨i,z⟩)];exact e
theorem ZdO{iv:Addr->Prop}{H0:Hp}{a:Addr}{vs:List V}{xs:List D}(rd:SqL cA.K H0 a vs)(l:RepL cA iv H0 xs vs):Qg cA iv (Itl cA.K a) xs H0:=λH s=>by
 have rd':SqL cA.K H a vs:=s.seq rd;refine⟨λi hi => ?_,λi x v H' hx y => ?_,λi hi=>⟨vs,rd',by rw [<-l.length];exact hi⟩⟩
 · obtain⟨v,hv,_⟩:=l.get (List.getElem?_eq_getElem hi)
   exact⟨vs,v,rd',hv⟩
 · obtain⟨rfl,hy⟩:=y
   obtain⟨v',hv,r⟩:=l.get hx;rw [hy vs rd']at hv;cases hv;exact⟨Same.refl _,λav' _ h2=>(r.av h2).same s⟩
theorem Zfj{K:PySem.W.Frag}{iv:Addr->Prop}{H0:Hp}{a:Addr}{vs:List V}{xs:List D}(rd:H0 a=some (.tup vs))(l:RepL cA iv H0 xs vs):Qg cA iv (Itt K a) xs H0:=λH s=>by
 have rd':SqT K H a vs:=SqT.of (s _ _ rd);refine⟨λi hi => ?_,λi x v H' hx y => ?_,λi hi=>⟨vs,rd',by rw [<-l.length];exact hi⟩⟩
 · obtain⟨v,hv,_⟩:=l.get (List.getElem?_eq_getElem hi)
   exact⟨vs,v,rd',hv⟩
 · obtain⟨rfl,hy⟩:=y
   obtain⟨v',hv,r⟩:=l.get hx;rw [hy vs rd']at hv;cases hv;exact⟨Same.refl _,λav' _ h2=>(r.av h2).same s⟩
theorem Zfk{iv:Addr->Prop}{H0:Hp}{cs:List Nat}:Qg cA iv (Its cs) (cs.map λc => .str [c]) H0:=λH s=>by
 refine⟨λi hi=>(show i<cs.length by simpa using hi),λi x v H' hx y => ?_,λi hi=>(show cs.length<=i by simpa using hi)⟩;obtain⟨rfl,c,hc,rfl⟩:=y;rw [List.getElem?_map,hc]at hx;cases hx;exact⟨Same.refl _,λ_ _ _=>rfl⟩
theorem XS{tl:TE}{ε:Env->Option D}(h:VE G ow tl .cl ε):VI G ow (ZkX G.1.K tl) (Z4 ε):=λH0 av A σ H δ E xs e R k=>by
 unfold Z4 at e;cases he:ε δ with
 |none=>rw [he]at e;cases e
 |some d=>
  rw [he]at e;refine h H0 av A σ H δ E d he _ λv H1 s r => ?_
  cases d<;>first|(cases e;done)|skip
  · cases e
    exact .inr (.inr ⟨_,r,k _ H1 s Zfk⟩)
  · cases e
    obtain⟨a,vs,rfl,na,rd,l⟩:=r;exact .inl ⟨a,vs,rfl,rd,k _ H1 s (ZdO (Zd7 na rd λb o n e=>by rw [Ue λ⟨i,z⟩=>n (.inr ⟨i,z⟩)];exact e) l.cut)⟩
  · cases e
    obtain⟨a,vs,rfl,na,rd,l⟩:=r;exact .inr (.inl ⟨a,vs,rfl,SqT.of rd,k _ H1 s (Zfj (by rw [Ue λ⟨i,z⟩=>na (.inr ⟨i,z⟩)];exact rd) l.cut)⟩)
def Yl(lo c:Int)(n:Nat):List D:=(List.range n).map λk => .int (lo+(k:Nat)*c)
theorem ZbU{iv:Addr->Prop}{H0:Hp}{lo:Int}{n:Nat}:Qg cA iv (Itr lo n) (Yl lo 1 n) H0:=λH s=>by
 refine⟨λi hi=>(show i<n by simpa [Yl]using hi),λi x v H' hx y => ?_,λi hi=>(show n<=i by simpa [Yl]using hi)⟩;obtain⟨rfl,rfl⟩:=y;have hi:i<n:=by have:=(List.getElem?_eq_some_iff.mp hx).1;simpa [Yl]using this
 have:x = .int (lo+i):=by
  unfold Yl at hx;rw [List.getElem?_map,List.getElem?_range hi]at hx;have:=Option.some.inj hx;rw [<-this];show D.int (lo+(i:Int)*1)=_;rw [Int.mul_one]
 subst this;exact⟨Same.refl _,λ_ _ _=>rfl⟩
def Z5(α:Env->Option (List D))(δ:Env):Option (List D):=match α δ with
 |some [.int j]=>if -(2 ^ 62)<=j/\j<2 ^ 62 then some (Yl 0 1 j.toNat)else none
 |some [.int i,.int j]=>if -(2 ^ 62)<=i/\i<2 ^ 62 /\ -(2 ^ 62)<=j/\j<2 ^ 62 then some (Yl i 1 (j-i).toNat)else none
 |some [.int i,.int j,.int c]=>if c≠0/\c.natAbs<1073741824/\Builtin.Range.small i j c=true then some (Yl i c (Builtin.Range.rangeSize i j c).toNat)else none
 |_=>none
theorem ql1{av:Addr->Prop}{A:Nat->Option Addr}{H:Hp}{q:Ql}{x:Int}{vs:List V}(h:RepQL cA av A H q [.int x] vs):vs=[.int x]:=by
 obtain⟨v,r,rfl,h1,h2⟩:=h;have:=h1.any;cases(show v=_ from this);cases(show r=[]from h2);rfl
theorem ql2{av:Addr->Prop}{A:Nat->Option Addr}{H:Hp}{q:Ql}{x y:Int}{vs:List V}(h:RepQL cA av A H q [.int x,.int y] vs):vs=[.int x,.int y]:=by
 obtain⟨v,r,rfl,h1,h2⟩:=h;have:=h1.any;cases(show v=_ from this);rw [ql1 h2]
theorem Uf{ta:TA}{q:Ql}{a:Env->Option (List D)}(h:VA G ow ta q a)(hl:∀δ ds,a δ=some ds->ds.length=1):VI G ow (Ziv ta) (Z5 a):=λH0 av A σ H δ E xs e R k=>by
 unfold Z5 at e;cases he:a δ with
 |none=>rw [he]at e;cases e
 |some ds=>
  rw [he]at e;refine h H0 av A σ H δ E ds he _ λvs H1 s r => ?_
  have hln:=hl δ ds he
  split at e
  · rename_i j he2
    cases he2
    by_cases hz : -(2 ^ 62)<=j/\j<2 ^ 62
    · rw [if_pos hz]at e
      cases e;exact⟨j,ql1 r,hz.1,hz.2,k _ H1 s ZbU⟩
    · rw [if_neg hz]at e;cases e
  · rename_i he2;cases he2;simp at hln
  · rename_i he2;cases he2;simp at hln
  · cases e
theorem QZ{ta:TA}{q:Ql}{a:Env->Option (List D)}(h:VA G ow ta q a)(hl:∀δ ds,a δ=some ds->ds.length=2):VI G ow (Ziw ta) (Z5 a):=λH0 av A σ H δ E xs e R k=>by
 unfold Z5 at e;cases he:a δ with
 |none=>rw [he]at e;cases e
 |some ds=>
  rw [he]at e;refine h H0 av A σ H δ E ds he _ λvs H1 s r => ?_
  have hln:=hl δ ds he
  split at e
  · rename_i he2;cases he2;simp at hln
  · rename_i i j he2
    cases he2
    by_cases hz : -(2 ^ 62)<=i/\i<2 ^ 62 /\ -(2 ^ 62)<=j/\j<2 ^ 62
    · rw [if_pos hz]at e
      cases e;exact⟨i,j,ql2 r,hz,k _ H1 s ZbU⟩
    · rw [if_neg hz]at e;cases e
  · rename_i he2;cases he2;simp at hln
  · cases e
theorem ZhA{δ:Env}{ds:List D}(h:eNil δ=some ds):ds.length=0:=by cases h;rfl
theorem Zdc{a:Env->Option D}{r:Env->Option (List D)}{n:Nat}(hr:∀δ ds,r δ=some ds->ds.length=n):∀δ ds,Zb a r δ=some ds->ds.length=n+1:=λδ ds h=>by
 unfold Zb at h;cases ha:a δ with
 |none=>rw [ha]at h;cases h
 |some x=>
  rw [ha]at h;cases hr':r δ with
  |none=>rw [hr']at h;cases h
  |some xs=>rw [hr']at h;cases h;rw [List.length_cons,hr δ xs hr']
theorem VQ{a:Env->Option D}:∀δ ds,Zb a eNil δ=some ds->ds.length=1:=Zdc λ_ _=>ZhA
theorem Q0{a b:Env->Option D}:∀δ ds,Zb a (Zb b eNil) δ=some ds->ds.length=2:=Zdc VQ
def Vc(n:Nat)(δ:Env)(js:List Nat):Env:=List.replicate n none++js.map λj=>(δ[j]?).getD none
def YJ(γ:D->Env->Option Env)(τ:Env->Option Bool)(ε:Env->Option D)(δ0:Env):List D->Option (List D)
 | []=>some []
 |x::r=>match γ x δ0 with
  |none=>none
  |some δ1=>match τ δ1 with
   |none=>none
   |some false=>YJ γ τ ε δ0 r
   |some true=>match ε δ1 with
    |none=>none
    |some y=>match YJ γ τ ε δ0 r with
     |none=>none
     |some ys=>some (y::ys)
def Yp(ι:Env->Option (List D))(γ:D->Env->Option Env)(τ:Env->Option Bool)(ε:Env->Option D)(n:Nat)(js:List Nat)(δ:Env):Option D:=match ι δ with
 |none=>none
 |some xs=>match YJ γ τ ε (Vc n δ js) xs with
  |none=>none
  |some ys=>if ys.length<=sizeLine then some (.lst ys)else none
theorem ER.blk{H0 H:Hp}{av:Addr->Prop}{A:Nat->Option Addr}{σ:L2.St}{δ:Env}(n:Nat)(js:List Nat)(hjs:js.all (λj => !ow.contains j)=true)(E:ER G ow H0 av A σ H δ) :
 ER ⟨G.1,λ_=>none⟩ [] H (AV av A) (λ_=>none) (L2.blk n σ js) H (Vc n δ js):=by
 refine⟨Same.refl H,E.avl,λ_ _ z=>(by cases z),λ_ _ _ z=>(by cases z),λ_ _ z=>(by cases z),λ_ z=>absurd rfl z,λ_ z=>(by cases z),?_,λ_ _ z=>(by cases z),λ_ _ z=>(by cases z),λi d e => ?_⟩
 · unfold L2.blk Vc U7
   rw [List.length_append,List.length_append,List.length_replicate,List.length_replicate,List.length_map,List.length_map]
 · unfold Vc at e
   by_cases hi:i<n
   · rw [List.getElem?_append_left (by simpa using hi),List.getElem?_replicate,if_pos hi]at e
     cases e
   · rw [List.getElem?_append_right (by simpa using hi),List.length_replicate,List.getElem?_map]at e
     cases hj:js[i-n]? with
     |none=>rw [hj]at e;cases e
     |some j=>
      rw [hj]at e;have e':(δ[j]?).getD none=some d:=Option.some.inj e
      have e2:δ[j]? = some (some d):=by
       cases q:δ[j]? with
       |none=>rw [q]at e';cases e'
       |some z=>rw [q]at e';exact congrArg some e'
      obtain⟨v,h1,h2,_⟩:=E.var j d e2
      have hjo:A j=none:=by
       cases q:A j with
       |none=>rfl
       |some a=>
        have h3:=E.dom j (by rw [q];exact λz=>by cases z);have h4:=List.all_eq_true.mp hjs j (List.mem_of_getElem? hj);simp at h4;exact absurd h3 h4
      refine⟨v,?_,λ_=>(h2 hjo).av λb z => ?_,λ_ z=>(by cases z)⟩
      · unfold L2.blk U7
        rw [List.getElem?_append_right (by simpa using hi),List.length_replicate,List.getElem?_map,hj];show some ((σ[j]?).getD none)=_;rw [h1];rfl
      · rcases z with z|⟨_,z⟩
        · exact .inl z
        · cases z
theorem XT {wi:TI} {g:TG} {tt:TT} {te:TE} {n:Nat} {js:List Nat} {ι:Env->Option (List D)} {γ:D->Env->Option Env} {τ:Env->Option Bool} {ε:Env->Option D}
 (hjs:js.all (λj => !ow.contains j)=true) (hi:VI G ow wi ι) (hg:VG ⟨G.1,λ_=>none⟩ [] [] g γ) (ht:VT ⟨G.1,λ_=>none⟩ [] tt τ) (he:VE ⟨G.1,λ_=>none⟩ [] te .cl ε):VF G ow (Zha wi g tt te n js) (Yp ι γ τ ε n js):=λH0 av A σ H δ E d e Q k=>by
 unfold Yp at e;cases hι:ι δ with
 |none=>rw [hι]at e;cases e
 |some xs=>
  rw [hι]at e;dsimp only at e;cases hc:YJ γ τ ε (Vc n δ js) xs with
  |none=>rw [hc]at e;cases e
  |some full=>
   rw [hc]at e;dsimp only at e
   by_cases hz:full.length<=sizeLine
   · rw [if_pos hz]at e
     have ed:D.lst full=d:=Option.some.inj e;refine hi H0 av A σ H δ E xs hι _ λJ H1 s1 W => ?_
     have E1:=E.mono s1
     refine⟨λi m ys H'=>m=xs.length-i/\i<=xs.length/\Same H1 H'/\∃done rest,RepL G.1 (AV av A) H' done ys/\YJ γ τ ε (Vc n δ js) (xs.drop i)=some rest/\done++rest=full,
      ⟨xs.length,by simp,Nat.zero_le _,Same.refl _,[],full,.nil,hc,rfl⟩,?_⟩
     rintro i m ys H' ⟨rfl,hle,s',done,rest,rl,hr,hf⟩
     have E':=E1.mono s';have sc:Same (DL.cut A H1) H':=λb o z=>s' b o (Zdb z).1
     obtain⟨w1,w2,w3⟩:=W H' sc
     by_cases hlt:i<xs.length
     · refine .inr ⟨w1 i hlt,λv H2 y => ?_⟩
       have hx:xs[i]? = some xs[i]:=List.getElem?_eq_getElem hlt;obtain⟨s2,rep⟩:=w2 i _ v H2 hx y;have rep':Rep G.1 (AV av A) H2 xs[i] v:=rep _ E'.avl λb z => .inl z
       have E2:=E'.mono s2;have EB:ER ⟨G.1,λ_=>none⟩ [] H2 (AV av A) (λ_=>none) (L2.blk n σ js) H2 (Vc n δ js):=E2.blk n js hjs
       have triv:∀(A':Nat->Option Addr){σ':L2.St}{H3:Hp}{δ':Env},ER ⟨G.1,λ_=>none⟩ [] H2 (AV av A) A' σ' H3 δ'->∀b,AV (AV av A) A' b ↔ AV av A b:=λA' {σ' H3 δ'} E3 b=>by
        constructor
        · rintro(z|⟨j,z⟩)
          · exact z
          · have:=E3.dom j (by rw [z];exact λz=>by cases z)
            cases this
        · exact λz => .inl z
       rw [List.drop_eq_getElem_cons hlt]at hr;unfold YJ at hr;cases hγ:γ xs[i] (Vc n δ js)with
       |none=>rw [hγ]at hr;cases hr
       |some δ1=>
        rw [hγ]at hr;dsimp only at hr;refine hg _ _ _ _ H2 _ EB _ v (rep'.av λb z => .inl ((triv _ EB b).mp z)) δ1 hγ _ λA3 σ3 H3 s3 E3 => ?_
        cases hτ:τ δ1 with
        |none=>rw [hτ]at hr;cases hr
        |some c=>
         rw [hτ]at hr;refine ht _ _ A3 σ3 H3 δ1 E3 c hτ _ λH4 s4 => ?_
         have E4:=E3.mono s4;cases c with
         |false=>
          exact Ua ⟨xs.length-(i+1),by omega,rfl,hlt,(s'.trans s2).trans (s3.trans s4),done,rest,rl.same ((s2.trans s3).trans s4),hr,hf⟩
         |true=>
          dsimp only at hr;cases hε:ε δ1 with
          |none=>rw [hε]at hr;cases hr
          |some yd=>
           rw [hε]at hr;dsimp only at hr;cases hr':YJ γ τ ε (Vc n δ js) (xs.drop (i+1))with
           |none=>rw [hr']at hr;cases hr
           |some rest'=>
            rw [hr']at hr;have hrr:yd::rest'=rest:=Option.some.inj hr;subst hrr;refine X5 (he _ _ A3 σ3 H4 δ1 E4 yd hε _ λvy H5 s5 r5 => ?_);have sall:Same H' H5:=((s2.trans s3).trans s4).trans s5;refine⟨?_,xs.length-(i+1),by omega,rfl,hlt,s'.trans sall,done++[yd],rest',(rl.same sall).append (.cons ((RepT.r r5).av λb z => .inl ((triv _ E4 b).mpr z)) .nil),hr',by rw [<-hf];simp⟩
            have:=congrArg List.length hf;rw [List.length_append,List.length_cons]at this;have:=rl.length;omega
     · have ei:i=xs.length:=by omega
       subst ei;rw [List.drop_length]at hr;cases hr;refine .inl ⟨w3 _ (Nat.le_refl _),λp hp=>k p ys full H' (s1.trans s') hp (by rw [<-hf,List.append_nil];exact rl) ed.symm⟩
   · rw [if_neg hz]at e;cases e
def spD(cA:Kn)(n:Nat)(m:List D->Option D):Sp:=λvs H Q _=>∃av ds d,(∀a,av a->H a≠none)/\RepL cA av H ds vs/\ds.length=n/\m ds=some d/\∀v H',Same H H'->Rep cA av H' d v->Q v H'
def Zl(n:Nat)(m:List D->Option D)(dds:List D)(α:Env->Option (List D))(δ:Env):Option D:=match α δ with
 |some ds=>if(ds++dds).length=n then m (ds++dds)else none
 |none=>none
def Ql.cq:Ql->Ql
 | .cl => .cl
 |_ => .dt
theorem Zy{n:Nat}{m:List D->Option D}{t:TA}{q:Ql}{α:Env->Option (List D)}{E0:XK}(dds:List D)(hd:dds.all ZW=true)(h:VA G ow t q α):VE G ow (U5 (spD G.1 n m) (dds.map val) E0 t) q.cq (Zl n m dds α):=λH0 av A σ H δ E d e Q k=>by
 unfold Zl at e;cases he:α δ with
 |none=>rw [he]at e;cases e
 |some ds=>
  rw [he]at e;dsimp only at e
  by_cases hz:(ds++dds).length=n
  · rw [if_pos hz]at e
    refine h H0 av A σ H δ E ds he _ λvs H1 s1 r1 => ?_
    have E1:=E.mono s1;cases q with
    |cl=>exact⟨AV av A,ds++dds,d,E1.avl,r1.cl.append (.of_vals hd),hz,e,λv H' s r=>k v H' (s1.trans s) r.t⟩
    |tp=>exact⟨av,ds++dds,d,E1.avH,r1.any.append (.of_vals hd),hz,e,λv H' s r=>k v H' (s1.trans s) r.t⟩
    |dt=>exact⟨av,ds++dds,d,E1.avH,r1.any.append (.of_vals hd),hz,e,λv H' s r=>k v H' (s1.trans s) r.t⟩
  · rw [if_neg hz]at e;cases e
def run(N:Nat)(φ:Env->Option Out)(ds:List D):Option D:=match φ (ds.map some++List.replicate (N-ds.length) none)with
 |some (.rt d)=>some d
 |some (.nx _)=>some .non
 |_=>none
theorem Zfl{N:List Str}{ds:List D}{vs:List V}{av:Addr->Prop}{H:Hp}(r:RepL cA av H ds vs){i:Nat}{d:D}(h:(ds.map some++List.replicate (N.length-ds.length) none)[i]? = some (some d)) :
 ∃v,(L2.start N vs)[i]? = some (some v)/\Rep cA av H d v:=by
 by_cases hi:i<ds.length
 · rw [List.getElem?_append_left (by simpa using hi),List.getElem?_map]at h
   cases hd:ds[i]? with
   |none=>rw [hd]at h;cases h
   |some x=>
    rw [hd]at h;cases h;obtain⟨v,hv,rv⟩:=r.get hd;refine⟨v,?_,rv⟩;unfold L2.start;have:i<vs.length:=by rw [<-r.length];exact hi
    rw [List.getElem?_append_left (by simpa using this),List.getElem?_map,hv];rfl
 · rw [List.getElem?_append_right (by simpa using hi),List.getElem?_replicate]at h
   split at h<;>cases h
theorem ZaE{N:List Str}{ds:List D}{vs:List V}{av:Addr->Prop}{H:Hp}(ha:∀a,av a->H a≠none)(r:RepL cA av H ds vs) :
 ER ⟨cA,λ_=>none⟩ [] H av (λ_=>none) (L2.start N vs) H (ds.map some++List.replicate (N.length-ds.length) none):=by
 refine⟨Same.refl H,ha,λ_ _ z=>(by cases z),λ_ _ _ z=>(by cases z),λ_ _ z=>(by cases z),λ_ z=>absurd rfl z,λ_ z=>(by cases z),?_,λ_ _ z=>(by cases z),λ_ _ z=>(by cases z),λi d e => ?_⟩
 · unfold L2.start
   rw [List.length_append,List.length_append,List.length_map,List.length_map,List.length_replicate,List.length_replicate,r.length]
 · obtain⟨v,h1,h2⟩:=Zfl r e
   refine⟨v,h1,λ_=>h2.av λb z => ?_,λ_ z=>(by cases z)⟩;rcases z with z|⟨_,z⟩
   · exact .inl z
   · cases z
section
variable{P:Program}{w:World}{K:PySem.W.Frag}{mg:Str->Option Value}{base:Heap}
end
theorem ZeA{vs:List V}{lo hi:Option Int}:V9 vs lo hi=cutL vs lo hi:=by
 unfold V9 cutL;have e:∀n d o,HT.sIx n d o=YA n d o:=λn d o=>by cases o<;>rfl
 rw [e,e]
theorem RepL.cutL{av:Addr->Prop}{H:Hp}{xs:List D}{vs:List V}(l:RepL cA av H xs vs)(lo hi:Option Int):RepL cA av H (L2.cutL xs lo hi) (L2.cutL vs lo hi):=by
 unfold L2.cutL;rw [l.length];exact(l.drop _).take _
def xNoP(_:Env):Option (Option Int):=some none
def xP(ε:Env->Option D)(δ:Env):Option (Option Int):=match ε δ with
 |some (.int i)=>some (some i)
 |_=>none
def VO(G:Cn)(ow:List Nat)(to:TO)(ω:Env->Option (Option Int)):Prop:=
 ∀H0 av A σ H δ,ER G ow H0 av A σ H δ->∀x,ω δ=some x->∀Q:Option Int->Hp->Prop,(∀H',Same H H'->Q x H')->to σ H Q
theorem XU:VO G ow tNoPart xNoP:=λH0 av A σ H δ E x e Q k=>by
 cases e;exact k H (Same.refl H)
theorem XV{te:TE}{q:Ql}{ε:Env->Option D}(h:VE G ow te q ε):VO G ow (Ziz te) (xP ε):=λH0 av A σ H δ E x e Q k=>by
 unfold xP at e;cases he:ε δ with
 |none=>rw [he]at e;cases e
 |some d=>
  rw [he]at e;cases d<;>first|(cases e;done)|skip
  cases e;exact h H0 av A σ H δ E _ he _ λv H' s r=>⟨_,r.any,k H' s⟩
def slD:D->Option Int->Option Int->Option D
 | .str a,lo,hi=>if a.length<=sizeLine then some (.str (L2.cutL a lo hi))else none
 | .lst xs,lo,hi=>some (.lst (L2.cutL xs lo hi))
 | .tup xs,lo,hi=>if YA xs.length 0 lo=0/\YA xs.length xs.length hi=xs.length then none else some (.tup (L2.cutL xs lo hi))
 |_,_,_=>none
def eSl(a:Env->Option D)(lo hi:Env->Option (Option Int))(δ:Env):Option D:=match a δ with
 |some x=>match lo δ with
  |some l=>match hi δ with
   |some u=>slD x l u
   |none=>none
  |none=>none
 |none=>none
theorem ZfZ{a:Env->Option D}{lo hi:Env->Option (Option Int)}{δ:Env}{d:D}(h:eSl a lo hi δ=some d):∃x l u,a δ=some x/\lo δ=some l/\hi δ=some u/\slD x l u=some d:=by
 unfold eSl at h;cases ea:a δ with
 |none=>rw [ea]at h;cases h
 |some x=>
  rw [ea]at h;cases el:lo δ with
  |none=>rw [el]at h;cases h
  |some l=>
   rw [el]at h;cases eu:hi δ with
   |none=>rw [eu]at h;cases h
   |some u=>rw [eu]at h;exact⟨x,l,u,rfl,rfl,rfl,h⟩
theorem XW{ta:TE}{tl th:TO}{q:Ql}{a:Env->Option D}{lo hi:Env->Option (Option Int)}(hq:q = .cl\/q = .tp)(ha:VE G ow ta q a)(hl:VO G ow tl lo)(hh:VO G ow th hi):VE G ow (tSl (Zk0 G.1.K) ta tl th) .cl (eSl a lo hi):=λH0 av A σ H δ E d e Q k=>by
 obtain⟨x,l,u,ex,el,eu,ed⟩:=ZfZ e;refine ha H0 av A σ H δ E x ex _ λv H1 s1 r1=>hl H0 av A σ H1 δ (E.mono s1) l el _ λH2 s2=>hh H0 av A σ H2 δ ((E.mono s1).mono s2) u eu _ λH3 s3 => ?_
 have s13:=s2.trans s3;have E3:=(E.mono s1).mono s13
 have r3:RepT G.1 av (AV av A) H3 x v:=by
  have:=(r1.same s13).tp;rcases hq with rfl|rfl<;>exact this
 cases x<;>first|(cases ed;done)|skip
 · rename_i cs
   cases(show v=_ from r3);dsimp only [slD]at ed
   by_cases hz:cs.length<=sizeLine
   · rw [if_pos hz]at ed
     cases ed;exact .inl ⟨cs,rfl,hz,k _ H3 (s1.trans s13) rfl⟩
   · rw [if_neg hz]at ed;cases ed
 · cases ed
   obtain⟨p,vs,rfl,_,rd,ll⟩:=r3;refine .inr (.inl ⟨p,vs,rfl,rd,λp' hp => ?_⟩);rw [ZeA];exact k _ _ ((s1.trans s13).trans (Ym hp)) ⟨p',_,rfl,λz=>(E3.avl p' z hp).elim,SqL.of Z2,(ll.cutL l u).same (Ym hp)⟩
 · rename_i xs
   dsimp only [slD]at ed
   by_cases hz:YA xs.length 0 l=0/\YA xs.length xs.length u=xs.length
   · rw [if_pos hz]at ed;cases ed
   · rw [if_neg hz]at ed
     cases ed;obtain⟨p,vs,rfl,_,rd,ll⟩:=r3;refine .inr (.inr ⟨p,vs,rfl,SqT.of rd,?_,λp' hp => ?_⟩)
     · have e:∀n d o,HT.sIx n d o=YA n d o:=λn d o=>by cases o<;>rfl
       rw [e,e,<-ll.length];exact hz
     · rw [ZeA]
       exact k _ _ ((s1.trans s13).trans (Ym hp)) ⟨p',_,rfl,λz=>E3.avl p' z hp,Z2,(ll.cutL l u).same (Ym hp)⟩
def Zhe(K:PySem.W.Frag):List V->Hp->VK->Prop:=λxs H Q=>Zna K xs H Q\/∃p vs c cv b,xs=[.ref p,c]/\(∀v,RelV c v->v=cv)/\KL K p vs/\kitOne K (.type "list") cv=some b/\Q (.bl b) H
theorem Zgz{X:Cx}{K:PySem.W.Frag}(hK:X.K=K:=by rfl):YI X (.builtin "isinstance") (Zhe K):=by
 subst hK;intro pins s σ H xs us Q I rs h;rcases h with h|⟨p,vs,c,cv,b,rfl,hc,⟨o,its,n,hk,h1,_⟩,e,q⟩
 · exact ZfW pins s σ H xs us Q I rs h
 · obtain⟨u,w',rfl,rx,rc⟩:=QR rs
   have ec:=hc _ rc;subst ec;cases(show u=Value.ref p from rx);exact PySem.W.kia_one PySem.W.kitx_list I.kIn ⟨o,I.kIn p o hk,h1⟩ e (λz=>nomatch z) λtk=>⟨.bl b,H,I.tok tk,rfl,q⟩
def kind:D->String
 | .non => "NoneType"
 | .bl _ => "bool"
 | .int _ => "int"
 | .str _ => "str"
 | .lst _ => "list"
 | .tup _ => "tuple"
 | .obj c _ _=>c
 | .dct _ _ => "dict"
 | .dtt _ _ => "dict"
def plainKinds:List String:=["NoneType", "bool", "int", "str", "list", "tuple"]
def Q1(tab:List (String×Bool)):D->Option Bool
 | .obj c _ _=>if plainKinds.contains c then none else tab.lookup c
 | .dct _ _=>none
 | .dtt _ _=>none
 |d=>tab.lookup (kind d)
def Qh(tab:List (String×Bool))(a:Env->Option D)(δ:Env):Option D:=match a δ with
 |some d=>match Q1 tab d with
  |some b=>some (.bl b)
  |none=>none
 |none=>none
structure ClsI(K:PySem.W.Frag)(C:Addr):Prop where
 cl:Cls K C
 ha:PySem.W.findIn K (.ref C) "__class__" = some (some (.builtin "object.__class__"))
 hn:PySem.W.specialIn K (.builtin "object.__class__") "__get__" = some (some (.builtin "getset_descriptor.__get__"))
 htk:PySem.W.takesIn K (.builtin "object.__class__")=some true
 hm:PySem.W.mroIn K C (.type "object")=some true
structure IsiOk(K:PySem.W.Frag)(cA:Kn)(cv:Value)(tab:List (String×Bool)):Prop where
 plain:∀k∈plainKinds,∀b,tab.lookup k=some b->kitOne K (.type k) cv=some b
 own:∀(c:String)b,plainKinds.contains c=false->tab.lookup c=some b->kitOne K (.ref (cA.c c)) cv=some b/\ClsI K (cA.c c)
theorem ZaF{β:Type}{c:String}{b:β}:∀{tab:List (String×β)},tab.lookup c=some b->(c,b)∈tab
 | [],h=>by simp at h
 |(c',b')::r,h=>by
  rw [List.lookup_cons]at h;cases hc:c == c' with
  |true=>
   rw [hc]at h;cases h;rw [eq_of_beq hc];exact List.mem_cons_self
  |false=>
   rw [hc]at h;exact List.mem_cons_of_mem _ (ZaF h)
theorem ZeB{K:PySem.W.Frag}{cA:Kn}{cv:Value}{tab:List (String×Bool)}(h:∀p∈tab,if plainKinds.contains p.1=true then kitOne K (.type p.1) cv=some p.2 else kitOne K (.ref (cA.c p.1)) cv=some p.2/\ClsI K (cA.c p.1)):IsiOk K cA cv tab where
 plain:=λk hk b hl=>by
  have:=h _ (ZaF hl)
  rwa [if_pos (by simpa using hk)]at this
 own:=λc b hc hl=>by
  have:=h _ (ZaF hl)
  rwa [if_neg (by simpa using hc)]at this
theorem ZgA{ta:TE}{q:Ql}{a:Env->Option D}{c:V}{cv:Value}{tab:List (String×Bool)}(hc:∀v,RelV c v->v=cv)(I:IsiOk G.1.K G.1 cv tab)(ha:VE G ow ta q a) :
 VE G ow (tCB (Zhe G.1.K) (Y4 ta (Y4 (tC c) tNil))) .cl (Qh tab a):=λH0 av A σ H δ E d e Q k=>by
 unfold Qh at e;cases he:a δ with
 |none=>rw [he]at e;cases e
 |some x=>
  rw [he]at e;dsimp only at e;cases ht:Q1 tab x with
  |none=>rw [ht]at e;cases e
  |some b=>
   rw [ht]at e;cases e;refine ha H0 av A σ H δ E x he _ λv H1 s r => ?_
   have r':=r.any;have fin:∀t,TyOf G.1.K H1 v t->kitOne G.1.K t cv=some b->Zhe G.1.K [v,c] H1 Q:=λt ty e => .inl ⟨v,c,cv,t,b,rfl,hc,ty,e,k _ H1 s rfl⟩
   cases x with
   |non=>cases(show v=_ from r');exact fin _ .non (I.plain _ (by decide) b (by exact ht))
   |bl y=>cases(show v=_ from r');exact fin _ (.bl y) (I.plain _ (by decide) b (by exact ht))
   |int y=>cases(show v=_ from r');exact fin _ (.int y) (I.plain _ (by decide) b (by exact ht))
   |str y=>cases(show v=_ from r');exact fin _ (.str _) (I.plain _ (by decide) b (by exact ht))
   |lst y=>
    unfold Rep at r';obtain⟨p,vs,rfl,_,rd,_⟩:=r';rcases rd with(rd|⟨o,rd⟩)|rd
    · exact fin _ (.lst rd) (I.plain _ (by decide) b (by exact ht))
    · exact fin _ (.frz rd) (I.plain _ (by decide) b (by exact ht))
    · exact .inr ⟨p,vs,c,cv,b,rfl,hc,rd,I.plain _ (by decide) b (by exact ht),k _ H1 s rfl⟩
   |tup y=>
    unfold Rep at r';obtain⟨p,vs,rfl,_,rd,_⟩:=r';exact fin _ (.tup rd) (I.plain _ (by decide) b (by exact ht))
   |dct ks y=>cases ht
   |dtt ks y=>cases ht
   |obj c' ks y=>
    unfold Rep at r';obtain⟨p,dx,vs,rfl,_,rd,_⟩:=r';dsimp only [Q1]at ht;cases hp:plainKinds.contains c' with
    |true=>rw [hp,if_pos rfl]at ht;cases ht
    |false=>
    rw [hp,if_neg Bool.false_ne_true]at ht;obtain⟨h1,h2⟩:=I.own c' b hp ht;exact fin _ (.ins rd h2.cl h2.ha h2.hn h2.htk h2.hm) h1
end
end DL
namespace L2
open PySem PySem.Spec
section
variable{X:Cx}
theorem Za4:∀{l:List (List Nat)}{us:List Value},Vals (l.map S) us->PyProof.Rows.StrsAre us (l.map tx)
 | [],us,r=>by
  rw [List.map_nil]at r;cases r;exact .nil
 |a::l,us,r=>by
  rw [List.map_cons]at r;cases r with
  |cons r1 r2=>
   obtain⟨t,rfl⟩:=r1;exact .cons _ t (Za4 r2)
theorem Qi{K:PySem.W.Frag}(hK:X.K=K:=by rfl):MtR X "str.join" (λx xs H Q=>∃sep p l,x=S sep/\xs=[.ref p]/\SqL K H p (l.map S)/\(l.map List.length).sum+l.length*sep.length<=sizeLine/\Q (S (ZL sep l)) H):=by
 subst hK;intro pins s σ H x xs v us Q I rx rs h;obtain⟨sep,p,l,rfl,rfl,hq,hz,q⟩:=h;obtain⟨t,rfl⟩:=rx;obtain⟨u,rfl,rp⟩:=XH rs;cases rp;obtain⟨its,rv,pl,_⟩:=I.list hq;have hs:sizeLine=16777216:=sizeLine_eq;refine PyProof.Rows.join_list (ys:=l.map tx) pl.isList (by simpa using Za4 rv) ?_ λt' k=>⟨S (ZL sep l),H,I.tok _,⟨t',?_⟩,q⟩
 · have e : ((l.map tx).map (·.length)) = l.map List.length := by
    rw [List.map_map];exact List.map_congr_left λa _=>YD a
   rw [e,List.length_map,YD];omega
 · have:=Zcs sep l
   show Value.str (Builtin.Str.glued (tx sep) (l.map tx)) t'=_;rw [StrLaws.glued_eq_join,Zcs]
end
end L2
namespace DL
open PySem PySem.Spec L2
section
variable{cA:Kn}{G:Cn}{ow:List Nat}
def Q2(cA:Kn)(r:V->List V->Hp->VK->Prop)(f:List Nat->List D->Option D):Prop:=
 ∀(i:Addr->Prop)(H:Hp)(a:List Nat)(ds:List D)(vs:List V)(d:D),(∀a,i a->H a≠none)->Qd cA i H ds vs->f a ds=some d->∀Q:VK,(∀v H',Same H H'->Rep cA i H' d v->Q v H')->r (S a) vs H Q
def eBM(f:List Nat->List D->Option D)(a:Env->Option D)(α:Env->Option (List D))(δ:Env):Option D:=match a δ with
 |some (.str cs)=>match α δ with
  |some ds=>f cs ds
  |none=>none
 |_=>none
theorem XA{K:PySem.W.Frag}{r:V->List V->Hp->VK->Prop}{f:List Nat->List D->Option D}{to:TE}{t:TA}{q0 q:Ql}{a:Env->Option D}{α:Env->Option (List D)}(hr:Q2 G.1 r f)(ha:VE G ow to q0 a)(h:VA G ow t q α) :
 VE G ow (tBM K "str" r to t) q.it (eBM f a α):=λH0 av A σ H δ E d e Q k=>by
 unfold eBM at e;cases hx:a δ with
 |none=>rw [hx]at e;cases e
 |some x=>
  rw [hx]at e;cases x<;>first|(cases e;done)|skip
  rename_i cs;dsimp only at e;cases he:α δ with
  |none=>rw [he]at e;cases e
  |some ds=>
   rw [he]at e;refine ha H0 av A σ H δ E _ hx _ λv H1 s1 r1 => ?_
   have e1:v=S cs:=r1.any;subst e1;refine⟨rfl,h H0 av A σ H1 δ (E.mono s1) ds he _ λvs H2 s2 r2 => ?_⟩;have E2:=(E.mono s1).mono s2;have s12:=s1.trans s2;cases q with
   |cl=>exact hr _ H2 cs ds vs d E2.avl r2.il e _ λv H' s r=>k v H' (s12.trans s) r.t
   |tp=>exact hr _ H2 cs ds vs d E2.avl r2.il e _ λv H' s r=>k v H' (s12.trans s) r.t
   |dt=>exact hr _ H2 cs ds vs d E2.avH r2.il e _ λv H' s r=>k v H' (s12.trans s) r.t
theorem Zjn{i:Addr->Prop}{H:Hp}{b:List Nat}{vs:List V}(h:Qd cA i H [.str b] vs):vs=[S b]:=by
 obtain⟨v,t,rfl,hx⟩:=il1 h;rw [show v=S b from hx]
def strs? : List D->Option (List (List Nat))
 | []=>some []
 | .str a::r=>match strs? r with
  |some l=>some (a::l)
  |none=>none
 |_=>none
theorem ZeC:∀{xs:List D}{l:List (List Nat)},strs? xs=some l->xs=l.map D.str
 | [],l,h=>by cases h;rfl
 |x::xs,l,h=>by
  cases x<;>first|(cases h;done)|skip
  rename_i a;unfold strs? at h;cases hr:strs? xs with
  |none=>rw [hr]at h;cases h
  |some r=>
   rw [hr]at h;cases h;rw [List.map_cons,ZeC hr]
theorem ZaG(l:List (List Nat)):strs? (l.map D.str)=some l:=by
 induction l with
 |nil=>rfl
 |cons a l ih=>rw [List.map_cons,strs?,ih]
def joinD(sep:List Nat):List D->Option D
 | [.lst xs]=>match strs? xs with
  |some l=>if(l.map List.length).sum+l.length*sep.length<=sizeLine then some (.str (ZL sep l))else none
  |none=>none
 |_=>none
theorem Qj:Q2 cA (λx xs H Q=>∃sep p l,x=S sep/\xs=[.ref p]/\SqL cA.K H p (l.map S)/\(l.map List.length).sum+l.length*sep.length<=sizeLine/\Q (S (ZL sep l)) H) joinD:=λi H a ds vs d _ h e Q k=>by
 unfold joinD at e
 split at e
 · rename_i xs
   cases hs:strs? xs with
   |none=>rw [hs]at e;cases e
   |some l=>
    rw [hs]at e;dsimp only at e
    by_cases hz:(l.map List.length).sum+l.length*a.length<=sizeLine
    · rw [if_pos hz]at e
      cases e;obtain⟨v,t,rfl,p,ws,rfl,_,rd,ll⟩:=il1 h;have ex:=ZeC hs;subst ex;have ev:=ll.vals (by rw [List.all_map];exact List.all_eq_true.mpr λ_ _=>rfl);rw [List.map_map]at ev;subst ev;exact⟨a,p,l,rfl,rfl,rd,hz,k _ H (Same.refl H) rfl⟩
    · rw [if_neg hz]at e;cases e
 · cases e
end
end DL
namespace L2
open PySem PySem.Spec
structure FunX(K:PySem.W.Frag)(x qual:Str)(st:Stmt)(f:Addr)(fd:FuncData):Prop where
 ex:∃(oc:Value) (od:Option Addr) (dV kV doc pm:Value) (an:Option Addr) (cdv ct:Value) (osl:Array (Option Value)),
  fd=fnOf x qual (defArgs st) (defBody st) (defScope st) dV kV doc pm an cdv ct/\K.lookup f=some ⟨oc,od,.func fd,osl⟩/\codeIn K cdv qual=true
theorem Fun.x{K:PySem.W.Frag}{x qual:Str}{st:Stmt}{f:Addr}{fd:FuncData}(F:Fun K x qual st f fd):FunX K x qual st f fd:=by
 obtain⟨oc,od,kV,doc,pm,an,cdv,ct,osl,h⟩:=F.ex;exact⟨oc,od,.none,kV,doc,pm,an,cdv,ct,osl,h⟩
section
variable{P:Program}{w:World}{K:PySem.W.Frag}{mg:Str->Option Value}{base:Heap}
theorem FunX.ok {x qual:Str} {st:Stmt} {f:Addr} {fd:FuncData} {N ps:List Str} {k:Nat} {sp:Sp} (F:FunX K x qual st f fd) (S:FnScope N ps (defScope st)) (len:∀vs H Q E,sp vs H Q E->vs.length=ps.length)
 (hbody:∀(cdv:Value)(A:Around)(outer:List Env)(s:Shared)(H:Hp)(vs:List V)(Q:VK)(E:XK),Room k (A.deeper (PyProof.Rows.envOfC qual (defScope st) s.heap.objs.size f cdv))->sp vs H Q E ->
   ∃t,PSs (YU CX0 P w K mg base N qual (defScope st) f cdv A outer s H E).nox (defBody st) t/\t { nx:=λ_ H'=>Q .non H',rt:=Q } (start N vs) H):FnOk P w K mg base CX0 (k+1) f fd ps sp:=by
 obtain⟨oc,od,dV,kV,doc,pm,an,cdv,ct,osl,rfl,lk,hcd⟩:=F.ex;refine Zg9 lk hcd S len λA outer s H vs Q E hr hsp => ?_
 obtain⟨t,h,q⟩:=hbody cdv A outer s H vs Q E hr hsp;exact⟨t,h.nox,q⟩
end
section
variable{X:Cx}
end
structure CMeth(K:PySem.W.Frag)(C:Addr)(m:Str)(f:Addr):Prop where
 ga:PySem.W.specialIn K (.ref C) "__getattribute__" = some (some (.builtin "type.__getattribute__"))
 rd:PySem.W.readsIn K C (.type "type")=true
 fc:PySem.W.findCls K (.ref C) (.type "type") m=some (.val (.ref f))
 kp:PySem.W.keepIn K (.ref f)=true
section
variable{X:Cx}{CX:CXT}{k:Nat}{f C:Addr}{fd:FuncData}{ps:List Str}{sp:Sp}{dvs:List V}{ds:List Value}{E:XK}{x m:Str}{p pos apos:Pos}{e o:Expr}{es:List Expr}{ta:TE}{t:TA}
end
end L2
namespace DL
open PySem PySem.Spec L2
theorem Zax{a b:String}(h:Str.ofString a=Str.ofString b):a=b:=by
 rw [Str.ofString_eq_toList,Str.ofString_eq_toList]at h
 have h1:(a.toList.map Char.toNat)=(b.toList.map Char.toNat):=by
  have:=congrArg (λs:Str=>s.cps.toList) h;simpa using this
 have inj:∀{x y:List Char},x.map Char.toNat=y.map Char.toNat->x=y:=by
  intro x
  induction x with
  |nil=>
   intro y h;cases y with
   |nil=>rfl
   |cons _ _=>cases h
  |cons c x ih=>
   intro y h;cases y with
   |nil=>cases h
   |cons d y=>
    rw [List.map_cons,List.map_cons,List.cons.injEq]at h;have:c=d:=Char.toNat_inj.mp h.1;rw [this,ih h.2]
 exact String.toList_inj.mp (inj h1)
theorem Zay(a b:String):(Str.ofString a == Str.ofString b)=(a == b):=by
 rw [Bool.eq_iff_iff,beq_iff_eq,beq_iff_eq];exact⟨Zax,λh=>by rw [h]⟩
section
variable{cA:Kn}{G:Cn}{ow owN owB owC:List Nat}
theorem Zdd{av:Addr->Prop}{H:Hp}{f:String}:∀{ks:List String}{xs:List D}{vs:List V}{d:D},RepL cA av H xs vs->(ks.zip xs).lookup f=some d->∃v,((ks.map Str.ofString).zip vs).lookup (Str.ofString f)=some v/\Rep cA av H d v
 | [],_,_,_,_,h=>by simp at h
 |k::ks,[],_,_,_,h=>by simp at h
 |k::ks,x::xs,vs,d,l,h=>by
  obtain⟨v,r,rfl,h1,h2⟩:=l.uncons;rw [List.zip_cons_cons,List.lookup_cons]at h;rw [List.map_cons,List.zip_cons_cons,List.lookup_cons,Zay];cases hk:f == k with
  |true=>rw [hk]at h;cases h;exact⟨v,rfl,h1⟩
  |false=>rw [hk]at h;exact Zdd h2 h
theorem Zde{f:String}:∀{ks:List String}{vs:List V},ks.contains f=false->((ks.map Str.ofString).zip vs).lookup (Str.ofString f)=none
 | [],_,_=>by simp
 |k::ks,[],_=>by simp
 |k::ks,v::vs,h=>by
  rw [List.contains_cons,Bool.or_eq_false_iff]at h;rw [List.map_cons,List.zip_cons_cons,List.lookup_cons,Zay,h.1];exact Zde h.2
theorem ZeD{f:String}{y:V}:∀{ks:List String}{vs:List V},ks.length=vs.length->ks.contains f=false->YS (Str.ofString f) y ((ks.map Str.ofString).zip vs)=(((ks++[f]).map Str.ofString).zip (vs++[y]))
 | [],[],_,_=>rfl
 | [],_::_,h,_=>by simp at h
 |_::_,[],h,_=>by simp at h
 |k::ks,v::vs,h,hf=>by
  rw [List.contains_cons,Bool.or_eq_false_iff]at hf
  have hne:¬Str.ofString k=Str.ofString f:=λz=>by
   have:=Zax z;have h1:=hf.1;rw [this]at h1;simp at h1
  rw [List.map_cons,List.zip_cons_cons,List.cons_append,List.cons_append,List.map_cons,List.zip_cons_cons];rw [show YS (Str.ofString f) y ((Str.ofString k,v)::(ks.map Str.ofString).zip vs)=(if Str.ofString k=Str.ofString f then(Str.ofString k,y)::(ks.map Str.ofString).zip vs else(Str.ofString k,v)::YS (Str.ofString f) y ((ks.map Str.ofString).zip vs))from rfl,if_neg hne];rw [ZeD (by simpa using h) hf.2]
def Ug(K:PySem.W.Frag)(cA:Kn)(cls:List String)(f:String):Prop:=∀c∈cls,Cls K (cA.c c)/\NoAttr K (cA.c c) (Str.ofString f)
def Yb(cls:List String)(f:String)(a:Env->Option D)(δ:Env):Option D:=match a δ with
 |some (.obj c ks xs)=>if cls.contains c then(ks.zip xs).lookup f else none
 |_=>none
theorem VR{K:PySem.W.Frag}{ta:TE}{q:Ql}{a:Env->Option D}{cls:List String}{f:String}(F:Ug K G.1 cls f)(ha:VE G ow ta q a):VE G ow (ZkS K ta (Str.ofString f)) q.it (Yb cls f a):=λH0 av A σ H δ E d e Q k=>by
 unfold Yb at e;cases he:a δ with
 |none=>rw [he]at e;cases e
 |some x=>
  rw [he]at e;cases x<;>first|(cases e;done)|skip
  rename_i c ks xs;dsimp only at e
  by_cases hc:cls.contains c=true
  · rw [if_pos hc]at e
    obtain⟨h1,h2⟩:=F c (by simpa using hc);refine ha H0 av A σ H δ E _ he _ λv H1 s r => ?_
    obtain⟨p,dx,vs,rfl,_,rd,_,l⟩:=r.tp;obtain⟨w,hw,rw'⟩:=Zdd l e;refine⟨p,_,dx,_,w,rfl,rd,h1,h2,hw,k w H1 s ?_⟩;cases q<;>exact rw'.t
  · rw [if_neg hc]at e;cases e
def Xj(i:Nat)(cls:List String)(f:String)(ε:Env->Option D)(δ:Env):Option Out:=match ε δ with
 |some d=>match Za i δ with
  |some (.obj c ks xs)=>if cls.contains c && !ks.contains f&&decide (ks.length<1000)then some (.nx (δ.set i (some (.obj c (ks++[f]) (xs++[d])))))else none
  |_=>none
 |none=>none
theorem Q3{K:PySem.W.Frag}{te:TE}{ε:Env->Option D}{cls:List String}{f:String}(i:Nat)(hi:ow.contains i=true)(F:Ug K G.1 cls f)(h:VE G ow te .cl ε):VS G ow ow owB owC (ZmH K (Xk i) te (Str.ofString f)) (Xj i cls f ε):=λH0 av A σ H δ E o e De k=>by
 unfold Xj at e;cases he:ε δ with
 |none=>rw [he]at e;cases e
 |some d=>
  rw [he]at e;dsimp only at e;cases hv:Za i δ with
  |none=>rw [hv]at e;cases e
  |some x=>
   rw [hv]at e;cases x<;>first|(cases e;done)|skip
   rename_i c ks xs;dsimp only at e
   by_cases hz:(cls.contains c && !ks.contains f&&decide (ks.length<1000))=true
   · rw [if_pos hz]at e
     cases e;simp only [Bool.and_eq_true,decide_eq_true_eq,Bool.not_eq_true']at hz;obtain⟨⟨z1,z2⟩,z3⟩:=hz;obtain⟨h1,h2⟩:=F c (by simpa using z1);have hi':i∈ow:=by simpa using hi
     cases hA:A i with
     |none=>exact absurd hA (E.dom' i hi')
     |some a=>
      refine h H0 av A σ H δ E d he _ λy H1 s r => ?_
      have E1:=E.mono s;obtain⟨v,g1,_,g3⟩:=E1.var i _ (VN hv);obtain⟨rfl,dx,vs,q1,q0,q2⟩:=g3 a hA;have hl:ks.length=vs.length:=q0.trans q2.length;refine⟨_,g1,a,_,dx,_,rfl,q1,h1,h2,?_,k A σ _ (E1.put hA (VN hv) (λb o hb e=>by rw [ZI hb];exact e) (by rw [Z2];exact λz=>by cases z) ?_)⟩
      · rw [List.length_zip,List.length_map];omega
      · refine⟨dx,vs++[y],?_,by rw [List.length_append,List.length_append,q0];rfl,?_⟩
        · rw [Z2,ZeD hl z2]
        · have ex : ∀ b o, ¬ AV av A b -> H1 b = some o -> upd H1 a (.ins (G.1.c c) dx (YS (Str.ofString f) y ((ks.map Str.ofString).zip vs))) b = some o := fun b o n e => by
           rw [ZI λz=>n (.inr ⟨i,by rw [z];exact hA⟩)];exact e
          exact(q2.append (.cons (RepT.r r) .nil)).ext ex
   · rw [if_neg hz]at e;cases e
def spI(cA:Kn)(n:Nat)(m:List D->Option D):Sp:=λvs H Q _=>∃(x:Addr) (r:List V) (av:Addr->Prop) (ds:List D) (d d':D),vs = .ref x::r/\(∀a,av a->H a≠none)/\¬av x/\Own cA (λa=>av a\/a=x) H d x/\RepL cA (λa=>av a\/a=x) H ds r/\(d::ds).length=n/\m (d::ds)=some d' /\
 ∀H',(∀b o,b≠x->H b=some o->H' b=some o)->Own cA (λa=>av a\/a=x) H' d' x->Q .non H'
theorem Own.live{av:Addr->Prop}{H:Hp}{d:D}{a:Addr}(h:Own cA av H d a):H a≠none:=by
 cases d with
 |lst xs=>obtain⟨vs,q,_⟩:=h;rw [q];exact λz=>by cases z
 |obj c ks xs=>obtain⟨dx,vs,q,_⟩:=h;rw [q];exact λz=>by cases z
 |dct ks xs=>obtain⟨vs,q,_⟩:=h;rw [q];exact λz=>by cases z
 |dtt ks xs=>obtain⟨vs,q,_⟩:=h;rw [q];exact λz=>by cases z
 |_=>exact h.elim
theorem Own.av{av av':Addr->Prop}{H:Hp}{d:D}{a:Addr}(k:∀b,av' b->av b\/H b=none)(h:Own cA av H d a):Own cA av' H d a:=by
 cases d with
 |lst xs=>obtain⟨vs,q,l⟩:=h;exact⟨vs,q,l.av k⟩
 |obj c ks xs=>obtain⟨dx,vs,q,z,l⟩:=h;exact⟨dx,vs,q,z,l.av k⟩
 |dct ks xs=>obtain⟨vs,q,z,l⟩:=h;exact⟨vs,q,z,l.av k⟩
 |dtt ks xs=>obtain⟨vs,q,z,l⟩:=h;exact⟨vs,q,z,l.av k⟩
 |_=>exact h.elim
theorem Own.rep{av:Addr->Prop}{H:Hp}{d:D}{a:Addr}(n:¬av a)(h:Own cA av H d a):Rep cA av H d (.ref a):=by
 cases d with
 |lst xs=>obtain⟨vs,q,l⟩:=h;unfold Rep;exact⟨a,vs,rfl,λz=>(n z).elim,SqL.of q,l⟩
 |obj c ks xs=>obtain⟨dx,vs,q,z,l⟩:=h;unfold Rep;exact⟨a,dx,vs,rfl,n,q,z,l⟩
 |dct ks xs=>obtain⟨vs,q,z,l⟩:=h;unfold Rep;exact⟨a,vs,rfl,n,q,z,l⟩
 |dtt ks xs=>obtain⟨vs,q,z,l⟩:=h;unfold Rep;exact⟨a,vs,rfl,n,q,z,l⟩
 |_=>exact h.elim
def Uh(c:String)(n:Nat)(m:List D->Option D)(dds:List D)(α:Env->Option (List D))(δ:Env):Option D:=match α δ with
 |some ds=>if(D.obj c [] []::(ds++dds)).length=n then m (.obj c [] []::(ds++dds))else none
 |none=>none
theorem ZhB{n:Nat}{m:List D->Option D}{t:TA}{α:Env->Option (List D)}{E0:XK}{c:String}(dds:List D)(hd:dds.all ZW=true)(h:VA G ow t .cl α):VE G ow (Ziy (G.1.c c) (spI G.1 n m) (dds.map val) E0 t) .cl (Uh c n m dds α):=λH0 av A σ H δ E d e Q k=>by
 unfold Uh at e;cases he:α δ with
 |none=>rw [he]at e;cases e
 |some ds=>
  rw [he]at e;dsimp only at e
  by_cases hz:(D.obj c [] []::(ds++dds)).length=n
  · rw [if_pos hz]at e
    refine h H0 av A σ H δ E ds he _ λvs H1 s1 r1 x dx hx hdx hne => ?_
    have E1:=E.mono s1;have s2:Same H1 (upd (upd H1 dx (.own x)) x (.ins (G.1.c c) dx [])):=(Ym hdx).trans (Ym (by rw [ZI (Ne.symm hne)];exact hx));have nx:¬AV av A x:=λz=>E1.avl x z hx
    refine⟨x,vs++dds.map val,AV av A,ds++dds,.obj c [] [],d,rfl,λa z => ?_,nx,⟨dx,[],Z2,rfl,.nil⟩,?_,hz,e,λH' hk ho=>⟨rfl,k _ H' ?_ ?_⟩⟩
    · have:=E1.avl a z
      cases q:H1 a with
      |none=>exact absurd q this
      |some o=>rw [s2 a o q];exact λz=>by cases z
    · refine RepL.same s2 ((r1.cl.append (.of_vals hd)).av λb z => ?_)
      rcases z with z|z
      · exact .inl z
      · exact .inr (by rw [z];exact hx)
    · refine s1.trans λb o e=>hk b o (λz=>by rw [z,hx]at e;cases e) (s2 b o e)
    · exact((ho.av λb z => .inl (.inl z)).rep nx).t
  · rw [if_neg hz]at e;cases e
def ZiD(i n:Nat)(m:List D->Option D)(dds:List D)(α:Env->Option (List D))(δ:Env):Option Out:=match Za i δ with
 |some d=>match α δ with
  |some ds=>if(d::(ds++dds)).length=n then(match m (d::(ds++dds))with
   |some d'=>some (.nx (δ.set i (some d')))
   |none=>none)else none
  |none=>none
 |none=>none
def runI(N:Nat)(φ:Env->Option Out)(ds:List D):Option D:=match φ (ds.map some++List.replicate (N-ds.length) none)with
 |some (.nx δ)=>Za 0 δ
 |_=>none
section
variable{P:Program}{w:World}{K:PySem.W.Frag}{mg:Str->Option Value}{base:Heap}
theorem Znb {x qual:Str} {st:Stmt} {f:Addr} {fd:FuncData} {N ps:List Str} {k:Nat} {φ:Env->Option Out} (F:FunX K x qual st f fd) (S:FnScope N ps (defScope st))
 (hbody:∀(cdv:Value)(A:Around)(outer:List PySem.Env)(s:Shared)(H:Hp)(E:XK)(a:Addr),Room k (A.deeper (PyProof.Rows.envOfC qual (defScope st) s.heap.objs.size f cdv)) ->
   ∃t,PSs (YU CX0 P w K mg base N qual (defScope st) f cdv A outer s H E).nox (defBody st) t/\VS ⟨cA,λj=>if j=0 then some (.inl a)else none⟩ [0] [0] [] [] t φ):FnOk P w K mg base CX0 (k+1) f fd ps (spI cA ps.length (runI N.length φ)):=by
 refine F.ok S (λvs H Q E h => ?_) λcdv A outer s H vs Q E hr h => ?_
 · obtain⟨x,r,av,ds,d,d',rfl,_,_,_,l,hl,_⟩:=h
   rw [<-hl,List.length_cons,List.length_cons,l.length]
 · obtain⟨x,r,av,ds,d,d',rfl,ha,nx,ho,l,hl,hm,q⟩:=h
   obtain⟨t,ht,hv⟩:=hbody cdv A outer s H E x hr;refine⟨t,ht,?_⟩;unfold runI at hm;cases hφ:φ ((d::ds).map some++List.replicate (N.length-(d::ds).length) none)with
   |none=>rw [hφ]at hm;cases hm
   |some o=>
    rw [hφ]at hm;cases o<;>first|(cases hm;done)|skip
    rename_i δ';have hm:Za 0 δ'=some d':=hm
    have hAV:∀b,AV av (λj=>if j=0 then some x else none) b ↔ av b\/b=x:=λb=>by
     constructor
     · rintro(z|⟨j,z⟩)
       · exact .inl z
       · by_cases e:j=0
         · simp [e]at z;exact .inr z.symm
         · simp [e]at z
     · rintro(z|z)
       · exact .inl z
       · exact .inr ⟨0,by simp [z]⟩
    have E0:ER ⟨cA,λj=>if j=0 then some (.inl x)else none⟩ [0] (λb=>if b=x then none else H b) av (λj=>if j=0 then some x else none) (L2.start N (.ref x::r)) H ((d::ds).map some++List.replicate (N.length-(d::ds).length) none):=by
     refine⟨λb o e => ?_,λa z => ?_,λi a e => ?_,λi j a e1 e2 => ?_,λi a e => ?_,λi e => ?_,λi hi => ?_,?_,(λi a e=>by
      by_cases q:i=0
      · simp [q]at e;simp [q,e]
      · simp [q]at e),(λi v e=>by
      by_cases q:i=0
      · simp [q]at e
      · simp [q]at e),λi d'' e => ?_⟩
     · by_cases q:b=x
       · simp [q]at e
       · simpa [q]using e
     · have:a≠x:=λq=>nx (q▸z)
       simp [this];exact ha a z
     · by_cases q:i=0
       · simp [q]at e;simp [e]
       · simp [q]at e
     · by_cases q:i=0
       · by_cases q2:j=0
         · rw [q,q2]
         · simp [q2]at e2
       · simp [q]at e1
     · by_cases q:i=0
       · simp [q]at e;subst e;exact ho.live
       · simp [q]at e
     · by_cases q:i=0
       · simp [q]
       · simp [q]at e
     · have:i=0:=by simpa using hi
       simp [this]
     · unfold L2.start
       rw [List.length_append,List.length_append,List.length_map,List.length_map,List.length_replicate,List.length_replicate,List.length_cons,List.length_cons,l.length]
     · by_cases q:i=0
       · subst q
         have e':d=d'':=by simpa using e
         subst e'
         exact⟨.ref x,by simp [L2.start],λz=>by simp at z,λa z=>by
          simp at z;subst z;exact⟨rfl,ho.av λb z => .inl ((hAV b).mp z)⟩⟩
       · obtain⟨i,rfl⟩:∃i',i=i'+1:=⟨i-1,by omega⟩
         have e2:(ds.map some++List.replicate (N.length-(ds.length+1)) none)[i]? = some (some d''):=by simpa using e
         by_cases hi:i<ds.length
         · rw [List.getElem?_append_left (by simpa using hi),List.getElem?_map]at e2
           cases hd:ds[i]? with
           |none=>rw [hd]at e2;cases e2
           |some z=>
            rw [hd]at e2;cases e2;obtain⟨v,hv',rv⟩:=l.get hd;refine⟨v,?_,λ_=>rv.av λb z => .inl ((hAV b).mp z),λa z=>by simp at z⟩;unfold L2.start;have:i+1<(V.ref x::r).length:=by rw [List.length_cons,<-l.length];omega
            rw [List.getElem?_append_left (by simpa using this),List.getElem?_map];simp [hv']
         · rw [List.getElem?_append_right (by simpa using hi),List.getElem?_replicate]at e2
           split at e2<;>cases e2
    refine hv _ av _ _ H _ E0 _ hφ _ λA' σ' H' E' => ?_
    have hA':A' 0=some x:=E'.pin 0 x (by simp);obtain⟨v,_,_,g3⟩:=E'.var 0 d' (VN hm);obtain⟨_,ho'⟩:=g3 x hA';refine q H' (λb o hb e=>E'.same b o (by simpa [hb]using e)) (ho'.av λb z => ?_);rcases z with z|z
    · exact .inl (.inl z)
    · exact .inl (.inr ⟨0,by rw [hA',z]⟩)
theorem Zls {x qual:Str} {st:Stmt} {f:Addr} {fd:FuncData} {N ps:List Str} {k:Nat} {φ:Env->Option Out} (F:FunX K x qual st f fd) (S:FnScope N ps (defScope st))
 (hbody:∀(cdv:Value)(A:Around)(outer:List PySem.Env)(s:Shared)(H:Hp)(E:XK),Room k (A.deeper (PyProof.Rows.envOfC qual (defScope st) s.heap.objs.size f cdv)) ->
   ∃t,PSs (YU CX0 P w K mg base N qual (defScope st) f cdv A outer s H E).nox (defBody st) t/\∃owN,VS ⟨cA,λ_=>none⟩ [] owN [] [] t φ):FnOk P w K mg base CX0 (k+1) f fd ps (spD cA ps.length (run N.length φ)):=by
 refine F.ok S (λvs H Q E h => ?_) λcdv A outer s H vs Q E hr h => ?_
 · obtain⟨av,ds,d,_,r,hl,_⟩:=h
   rw [<-r.length,hl]
 · obtain⟨av,ds,d,ha,r,hl,hm,q⟩:=h
   obtain⟨t,ht,owN,hv⟩:=hbody cdv A outer s H E hr;refine⟨t,ht,?_⟩;unfold run at hm;cases hφ:φ (ds.map some++List.replicate (N.length-ds.length) none)with
   |none=>rw [hφ]at hm;cases hm
   |some o=>
    rw [hφ]at hm;refine hv H av _ _ H _ (ZaE ha r) o hφ _ ?_;cases o with
    |nx δ'=>cases hm;exact λA' σ' H' E'=>q .non H' E'.same rfl
    |rt d'=>cases hm;exact λv H' s' r'=>q v H' s' r'
    |bk δ'=>cases hm
    |ct δ'=>cases hm
end
abbrev MTab:=List (String×(Nat×(List D->Option D)))
structure MethOk(X:Cx)(cA:Kn)(k:Nat)(m:String)(c:String)(n:Nat)(mm:List D->Option D):Prop where
 ex:∃f fd ps,Cls X.K (cA.c c)/\Meth X.K (cA.c c) (Str.ofString m) f/\FnOk X.prog X.w X.K X.mg X.base CX0 k f fd ps (spD cA n mm)/\Binds X.K fd ps []
def MTOk(X:Cx)(cA:Kn)(k:Nat)(m:String):MTab->Prop
 | []=>True
 |(c,n,mm)::r=>MethOk X cA k m c n mm/\MTOk X cA k m r
theorem MTOk.get{X:Cx}{k:Nat}{m:String}:∀{tab:MTab}{c:String}{n:Nat}{mm:List D->Option D},MTOk X cA k m tab->tab.lookup c=some (n,mm)->MethOk X cA k m c n mm
 | [],_,_,_,_,h=>by simp at h
 |(c',n',mm')::r,c,n,mm,T,h=>by
  rw [List.lookup_cons]at h;cases hc:c == c' with
  |true=>
   rw [hc]at h;cases h;have:c=c':=eq_of_beq hc;subst this;exact T.1
  |false=>
   rw [hc]at h;exact MTOk.get T.2 h
def ZgB(cA:Kn)(m:String)(tab:MTab)(ta:TE)(t:TA):TE:=λσ H Q=>ta σ H λx H1=>∃a dx fs c n mm,x = .ref a/\H1 a=some (.ins (cA.c c) dx fs)/\fs.lookup (Str.ofString m)=none/\tab.lookup c=some (n,mm)/\t σ H1 λvs H2=>spD cA n mm (x::vs) H2 Q E0
theorem ZbV {X:Cx} {k:Nat} {m:String} {tab:MTab} {o:Expr} {ta:TE} {pos apos:Pos} {pl:Sem Bool} (T:MTOk X cA k m tab) (hr:Room k X.A) (he:PE X o ta)
 (ht:eval (.Call (.Attribute o (Str.ofString m) apos) [] [] pos) X.env=(do
   let ov <-eval o X.env
   standAt apos.atName
   let(f,first) <-holding [ov] (getMethod ov (Str.ofString m) pl)
   callWith pos f first (backTo pos (starEach [] X.env)) (backToKw pos (keywordEach [] X.env))):=by rfl) :
 PE X (.Call (.Attribute o (Str.ofString m) apos) [] [] pos) (ZgB cA m tab ta tNil):=by
 intro pins s σ H Q I h;refine PySem.W.methodCall_KW (pl:=pl) (thn (he pins s σ H _ I h) λu s1 ⟨x,H1,I1,rx,a,dx,fs,c,n,mm,ex,ea,l,tl,q⟩ => ?_) ht;subst ex;obtain rfl:u=Value.ref a:=rx;obtain⟨f,fd,ps,hc,hm,F,hb⟩:=(T.get tl).ex;refine ZdH I1 ea hc hm l ?_;exact PySem.W.callWith_K0 (first:=[.ref a]) I1.kIn hm.kp (Zgp (us:=[.ref a]) (vs:=[.ref a]) (dvs:=[]) (ds:=[]) F hr hb .nil ZM I1 (.cons rfl .nil) (by rw [List.append_nil];exact q))
def XX(m:String)(tab:MTab)(a:Env->Option D)(α:Env->Option (List D))(δ:Env):Option D:=match a δ with
 |some (.obj c ks xs)=>if ks.contains m then none else(match tab.lookup c with
  |some (n,mm)=>match α δ with
   |some ds=>if(D.obj c ks xs::ds).length=n then mm (.obj c ks xs::ds)else none
   |none=>none
  |none=>none)
 |_=>none
theorem ZeE{m:String}{tab:MTab}{ta:TE}{t:TA}{a:Env->Option D}{α:Env->Option (List D)}(ha:VE G ow ta .cl a)(h:VA G ow t .cl α):VE G ow (ZgB G.1 m tab ta t) .cl (XX m tab a α):=λH0 av A σ H δ E d e Q k=>by
 unfold XX at e;cases hx:a δ with
 |none=>rw [hx]at e;cases e
 |some x=>
  rw [hx]at e;cases x<;>first|(cases e;done)|skip
  rename_i c ks xs;dsimp only at e;cases hf:ks.contains m with
  |true=>rw [hf,if_pos rfl]at e;cases e
  |false=>
   rw [hf,if_neg Bool.false_ne_true]at e;cases htb:tab.lookup c with
   |none=>rw [htb]at e;cases e
   |some p=>
    obtain⟨n,mm⟩:=p;rw [htb]at e;dsimp only at e;cases he:α δ with
    |none=>rw [he]at e;cases e
    |some ds=>
     rw [he]at e;dsimp only at e
     by_cases hz:(D.obj c ks xs::ds).length=n
     · rw [if_pos hz]at e
       refine ha H0 av A σ H δ E _ hx _ λv H1 s1 r1 => ?_
       obtain⟨p,dx,vs,rfl,np,rd,zl,l⟩:=r1;refine⟨p,dx,_,c,n,mm,rfl,rd,Zde hf,htb,h H0 av A σ H1 δ (E.mono s1) ds he _ λws H2 s2 r2 => ?_⟩;have E2:=(E.mono s1).mono s2;refine⟨AV av A,.obj c ks xs::ds,d,E2.avl,.cons ?_ r2.cl,hz,e,λv H' s r=>k v H' ((s1.trans s2).trans s) r.t⟩;unfold Rep;exact⟨p,dx,vs,rfl,np,s2 _ _ rd,zl,l.same s2⟩
     · rw [if_neg hz]at e;cases e
def isD:D->D->Option D
 | .bl a,.bl b=>some (.bl (a == b))
 |_,_=>none
end
end DL
namespace DL
open PySem PySem.Spec L2
section
variable{cA:Kn}{G:Cn}{ow:List Nat}
end
end DL
namespace DL
open PySem PySem.Spec L2
section
variable{cA:Kn}{P:Program}{w:World}{K:PySem.W.Frag}{mg:Str->Option Value}{base:Heap}
theorem Yx {x qual:Str} {st:Stmt} {f:Addr} {fd:FuncData} {N ps:List Str} {k:Nat} {φ:Env->Option Out} {body:List Stmt} {scope:Scope} {n:Nat} {m:List D->Option D} (F:FunX K x qual st f fd) (S:FnScope N ps (defScope st)) (hS:defScope st=scope) (hB:defBody st=body)
 (hbody:∀(cdv:Value)(A:Around)(outer:List PySem.Env)(s:Shared)(H:Hp)(E:XK),Room k (A.deeper (PyProof.Rows.envOfC qual scope s.heap.objs.size f cdv)) ->
   ∃t,PSs (YU CX0 P w K mg base N qual scope f cdv A outer s H E).nox body t/\∃owN,VS ⟨cA,λ_=>none⟩ [] owN [] [] t φ)  (hm:m=run N.length φ) (hn:ps.length=n):FnOk P w K mg base CX0 (k+1) f fd ps (spD cA n m):=by
 subst hS hB hm hn;exact Zls F S hbody
theorem Zlt {x qual:Str} {st:Stmt} {f:Addr} {fd:FuncData} {N ps:List Str} {k:Nat} {φ:Env->Option Out} {body:List Stmt} {scope:Scope} {n:Nat} {m:List D->Option D} (F:FunX K x qual st f fd) (S:FnScope N ps (defScope st)) (hS:defScope st=scope) (hB:defBody st=body)
 (hbody:∀(cdv:Value)(A:Around)(outer:List PySem.Env)(s:Shared)(H:Hp)(E:XK)(a:Addr),Room k (A.deeper (PyProof.Rows.envOfC qual scope s.heap.objs.size f cdv)) ->
   ∃t,PSs (YU CX0 P w K mg base N qual scope f cdv A outer s H E).nox body t/\VS ⟨cA,λj=>if j=0 then some (.inl a)else none⟩ [0] [0] [] [] t φ)  (hm:m=runI N.length φ) (hn:ps.length=n):FnOk P w K mg base CX0 (k+1) f fd ps (spI cA n m):=by
 subst hS hB hm hn;exact Znb F S hbody
end
end DL
namespace DL
open PySem PySem.Spec L2 PyProof.Rows
def Ui:List D->Option (List Int)
 | []=>some []
 | .int b::r=>match Ui r with
  |some bs=>some (b::bs)
  |none=>none
 |_=>none
theorem Zbs:∀{xs:List D}{bs:List Int},Ui xs=some bs->xs=bs.map D.int
 | [],bs,h=>by cases h;rfl
 |x::xs,bs,h=>by
  cases x<;>first|(cases h;done)|skip
  rename_i b;unfold Ui at h;cases hr:Ui xs with
  |none=>rw [hr]at h;cases h
  |some cs=>
   rw [hr]at h;cases h;rw [List.map_cons,Zbs hr]
theorem Zbt:∀(ns:List Int)(its:List Value),Vals (ns.map V.int) its->IntsAre its ns
 | [],its,h=>by cases h;exact .nil
 |n::ns,its,h=>by
  cases h with
  |cons r1 r2=>
   obtain⟨t,rfl⟩:=r1;exact .cons _ _ (Zbt ns _ r2)
section
variable{X:Cx}{K:PySem.W.Frag}{cA:Kn}
end
end DL
namespace L2
open PySem PySem.Spec PyProof.Rows
section
variable{X:Cx}{scope:Scope}{tn cn:List Str}{js:List Nat}{tg iter elt:Expr}{ifs:List Expr}{pos spos pos':Pos}{wi:TI}{g:TG}{tt:TT}{te:TE}
end
end L2
namespace L2
open PySem PySem.Spec PyProof.Rows Builtin Builtin.Str
theorem ZdP {P:Program} {w:World} {A:Around} {E:Value->Shared->Prop} {s:Shared} {x y:Str} {tx' ty:Tok} {R:Value->Shared->Prop} (hy:(y.length == 0)=false) (hx:x.length+2<=sizeLine)
 (q:∀l k,l.map (·.1)=Txt.split x y->R (.ref s.heap.objs.size) { s with toks:=k,heap:=s.heap.push { cls := .type "list",data := .seq (strValues l).toArray } }) :
 wpAny (model P w) A (call (.builtin "str.split") [.str x tx',.str y ty]) R E s:=by
 have hp:(partsBetween x (occurrences x y 0 x.length (x.length+1)) y.length).length<=sizeLine:=by
  have b:=StrLaws.occ_length_le x y 0 x.length (x.length+1);rw [length_partsBetween];omega
 by_cases c1:(decide (x.length<y.length)||decide (strKind x<strKind y))=true
 · refine call_meets F.slot_str_split (typeIs_str _ _ _) F.entry_str_split (F.args_str_split_2 _ _) (meets_str_split_cannot_occur x y tx' ty c1) ?_
   exact q [(x,tx')] s.toks (if_pos c1).symm
 · have c1':=Bool.eq_false_iff.mpr c1
   by_cases c2:(occurrences x y 0 x.length (x.length+1)).isEmpty=true
   · refine call_meets F.slot_str_split (typeIs_str _ _ _) F.entry_str_split (F.args_str_split_2 _ _) (meets_str_split_not_found x y tx' ty c1' hy c2) ?_
     exact q [(x,tx')] s.toks ((if_neg c1).trans (if_pos c2)).symm
   · have c2':=Bool.eq_false_iff.mpr c2
     refine call_meets F.slot_str_split (typeIs_str _ _ _) F.entry_str_split (F.args_str_split_2 _ _) (meets_str_split_sep x y tx' ty c1' hy c2' (by omega) hp) ?_;show wants R E _ { s with toks:=_,heap:=s.heap.push { cls := .type "list",data := .seq (strsFrom s.toks (partsBetween x (occurrences x y 0 x.length (x.length+1)) y.length)).toArray } };rw [strsFrom_eq];refine q (numbered s.toks _) _ ((numbered_texts _ _).trans ?_)
     exact((if_neg c1).trans (if_neg c2)).symm
theorem ZbW:∀{l:List (Str×Tok)}{ps:List (List Nat)},l.map (·.1)=ps.map tx->Vals (ps.map S) (strValues l)
 | [],[],_ => .nil
 | [],_::_,h=>by cases h
 |_::_,[],h=>by cases h
 |(a,t)::l,p::ps,h=>by
  rw [List.map_cons,List.map_cons,List.cons.injEq]at h;obtain⟨h1,h2⟩:=h;have h1:a=tx p:=h1;subst h1;exact .cons ⟨t,rfl⟩ (ZbW h2)
section
variable{X:Cx}
theorem Q4:MtR X "str.split" (λx xs H Q=>∃(a:List Nat) (c:Nat),x=S a/\xs=[S [c]]/\a.length+2<=sizeLine/\(ZU c a).length<=sizeLine/\∀p,H p=none->Q (.ref p) (upd H p (.lst ((ZU c a).map S)))):=by
 intro pins s σ H x xs v us Q I rx rs h;obtain⟨a,c,rfl,rfl,hz,hz2,q⟩:=h;obtain⟨t,rfl⟩:=rx;obtain⟨u,rfl,t',rfl⟩:=XH rs;refine ZdP (y:=tx [c]) (by rfl) (show(tx a).length+2<=sizeLine by rw [YD];exact hz) λl k e => ?_
 rw [ZfU]at e;have hv:=ZbW e;have hfr:=I.fresh;refine⟨.ref s.heap.objs.size,_,I.laid (λb u e=>Heap.get?_push_of_some _ e) (Nat.le_refl _) ?_,rfl,q _ hfr⟩;exact⟨by simpa using hz2,strValues l,0,hv,Heap.get?_push_size _ rfl⟩
end
theorem Za5(c:Nat):∀a:List Nat,(ZU c a).length<=a.length+1
 | []=>by simp [ZU]
 |x::a=>by
  have ih:=Za5 c a;unfold ZU
  split
  · simp;omega
  · split
    · simp
    · rename_i p ps e
      rw [e]at ih;simp at ih ⊢;omega
end L2
namespace DL
open PySem PySem.Spec L2
variable{cA:Kn}
def splitD(a:List Nat):List D->Option D
 | [.str [c]]=>if a.length+2<=sizeLine then some (.lst ((ZU c a).map D.str))else none
 |_=>none
theorem Zfm{av:Addr->Prop}{H:Hp}(l:List (List Nat)):RepL cA av H (l.map D.str) (l.map S):=by
 have:=RepL.of_vals (cA:=cA) (av:=av) (H:=H) (xs:=l.map D.str) (by rw [List.all_map];exact List.all_eq_true.mpr λ_ _=>rfl);rw [List.map_map]at this;exact this
theorem Qk:Q2 cA (λx xs H Q=>∃(a:List Nat) (c:Nat),x=S a/\xs=[S [c]]/\a.length+2<=sizeLine/\(ZU c a).length<=sizeLine/\∀p,H p=none->Q (.ref p) (upd H p (.lst ((ZU c a).map S)))) splitD:=λi H a ds vs d hi h e Q k=>by
 unfold splitD at e
 split at e
 · rename_i c
   by_cases hz:a.length+2<=sizeLine
   · rw [if_pos hz]at e
     cases e;have hl:=Za5 c a;refine⟨a,c,rfl,Zjn h,hz,by omega,λp hp=>k _ _ (Ym hp) ⟨p,_,rfl,λz=>(hi p z hp).elim,SqL.of Z2,Zfm _⟩⟩
   · rw [if_neg hz]at e;cases e
 · cases e
end DL
namespace PySem
open Builtin SmallTypes
open AutoSeq1 (wpAny_loadPart')
end PySem
namespace PySem
open Sem (wp)
end PySem
namespace PySem
open Sem (wp)
section
variable{P:Program}{w:World}{A:Around}{E:Value->Shared->Prop}{s:Shared}
end
end PySem
namespace L2
open PySem PySem.Spec PyProof.Rows
end L2
namespace L2
open PySem PySem.Spec PyProof.Rows
section
variable{X:Cx}{elts:List Expr}{x1:Nat}{tpos:Pos}
end
end L2
namespace DL
open PySem PySem.Spec L2
section
variable{cA:Kn}{G:Cn}{ow:List Nat}
end
end DL
namespace PySem
open Builtin SmallTypes
open AutoSeq1 (wpAny_loadPart')
end PySem
namespace PySem
section
variable{P:Program}{w:World}{A:Around}{E:Value->Shared->Prop}{s:Shared}
end
end PySem
namespace L2
open PySem PySem.Spec PyProof.Rows
section
variable{X:Cx}{elts:List Expr}{x1:Nat}{tpos:Pos}
end
end L2
namespace DL
open PySem PySem.Spec L2
section
variable{cA:Kn}{G:Cn}{ow:List Nat}
end
end DL
namespace DL
open PySem PySem.Spec L2 PyProof.Rows
def Wd(i:Int):Prop:=i.natAbs<2 ^ 8000
instance (i:Int):Decidable (Wd i):=by unfold Wd;infer_instance
def CMulW(i j:Int):Prop:=(Wd i/\Wd j)\/CMul i j
instance (i j:Int):Decidable (CMulW i j):=by unfold CMulW;infer_instance
def Qm(_ j:Int):Prop:=j≠0/\Wd j
instance (i j:Int):Decidable (Qm i j):=by unfold Qm;infer_instance
instance (i j:Int):Decidable (ZmG i j):=by unfold ZmG;infer_instance
theorem ZgC{i:Int}(h:Wd i)(h0:i≠0):i.natAbs.log2<8000:=(Nat.log2_lt (by omega)).mpr h
theorem CMulW.ok{i j:Int}(h:CMulW i j):IntMulOk i j:=by
 rcases h with⟨h1,h2⟩|h
 · have bits : ∀ {a : Int}, Wd a -> Builtin.Int.intBits a <= 2 ^ 20 := fun {a} ha => by
    unfold Builtin.Int.intBits
    by_cases h0:a=0
    · subst h0;decide
    · have:=ZgC ha h0
      have e:(2:Nat) ^ 20=1048576:=by decide
      rw [e]
      split<;>omega
   exact .of_bits (bits h1) (bits h2)
 · exact h.ok
section
variable{X:Cx}{cA:Kn}
theorem op_mulW:OpR X (binaryOp .Mult) (rI CMulW λi j => .int (i*j)):=opI λ_ _ _ _ _ _ _ hc q=>mul_int q hc.ok
theorem Qn:OpR X (binaryOp .FloorDiv) (rI Qm λi j => .int (i.fdiv j)):=opI λ_ _ _ _ _ _ _ hc q=>floordiv_int hc.1 q (.inl (PyProof.noPylong_of_log2 (Nat.lt_trans (ZgC hc.2 hc.1) (by decide))))
def fdivW:D->D->Option D
 | .int i,.int j=>if Qm i j then some (.int (i.fdiv j))else none
 |_,_=>none
def modW:D->D->Option D
 | .int i,.int j=>if j≠0 then some (.int (i.fmod j))else none
 |_,_=>none
theorem ZiE{C:Int->Int->Prop} [∀i j,Decidable (C i j)]{g:Int->Int->Int}{f:D->D->Option D}(hf:∀x y d,f x y=some d->∃i j,x = .int i/\y = .int j/\C i j/\d = .int (g i j)):Xx cA (rI C λi j => .int (g i j)) f:=λt t' i H x y vx vy d _ hx hy e Q k=>by
 obtain⟨a,b,rfl,rfl,hc,rfl⟩:=hf x y d e;cases(show vx=_ from hx);cases(show vy=_ from hy);exact⟨_,_,rfl,rfl,hc,k _ H (Same.refl H) rfl⟩
theorem Qo:Xx cA (rI Qm λi j => .int (i.fdiv j)) fdivW:=ZiE λx y d e=>by
 cases x<;>cases y<;>first|(cases e;done)|skip
 rename_i a b;dsimp only [fdivW]at e
 by_cases hz:Qm a b
 · rw [if_pos hz]at e;cases e;exact⟨_,_,rfl,rfl,hz,rfl⟩
 · rw [if_neg hz]at e;cases e
theorem XB:Xx cA (rI (λ_ j=>j≠0) λi j => .int (i.fmod j)) modW:=ZiE λx y d e=>by
 cases x<;>cases y<;>first|(cases e;done)|skip
 rename_i a b;dsimp only [modW]at e
 by_cases hz:b≠0
 · rw [if_pos hz]at e;cases e;exact⟨_,_,rfl,rfl,hz,rfl⟩
 · rw [if_neg hz]at e;cases e
end
end DL
namespace L2
open PySem PySem.Spec PySem.W PyProof.Rows
def bmV:List Value:=[.type "ValueError",.type "Exception",.type "BaseException",.type "object"]
section
variable{X:Cx}{E:XK}{C:Addr}{x:Str}{p cpos pos:Pos}{e:Expr}{es:List Expr}{t:TA}
end
theorem HOk.hide{P:Program}{w:World}{H:Hp}{h:Heap}{as:List Addr}(x:HOk P w H h)(hn:∀b∈as,H b=none):HOk P w H (hideAll h as):=λa o e=>
 (x a o e).stay (λb u hb q=>hideAll_get _ q λz=>by
   rcases hb with rfl|hb
   · rw [hn _ z]at e;cases e
   · rw [hn _ z]at hb;cases hb) (λ_ q=>q) λ_ _ q=>q
section
variable{P:Program}{w:World}{K:PySem.W.Frag}{mg:Str->Option Value}{base:Heap}{N:List Str}{qual:Str}{scope:Scope}{f:Addr}{cd:Value}{A:Around}{outer:List Env}{s:Shared}{H:Hp}{E:XK}
end
end L2
namespace L2
open PySem PySem.Spec PySem.W PyProof.Rows PySem.Calls PySem.Builtin PySem.Builtin.ObjectAttr PySem.Builtin.Getset_descriptor
def UI(e:Addr)(C:Value)(hp:Heap):Prop:=∃o:Obj,hp.get? e=some o/\o.cls=C
structure ExCls(K:PySem.W.Frag)(C:Addr):Prop where
 ga:findIn K (.ref C) "__getattribute__" = some (some (.builtin "BaseException.__getattribute__"))
 mb:mroIn K C (.type "BaseException")=some true
 gt:findIn K (.ref C) "__getattr__" = some none
 ca:findIn K (.ref C) "__class__" = some (some (.builtin "object.__class__"))
 cg:specialIn K (.builtin "object.__class__") "__get__" = some (some (.builtin "getset_descriptor.__get__"))
 ct:takesIn K (.builtin "object.__class__")=some true
 mo:mroIn K C (.type "object")=some true
 cl:(clsIn K C).isSome=true
section
variable{P:Program}{w:World}{A:Around}{E:Value->Shared->Prop}{s:Shared}{K:PySem.W.Frag}{e C:Addr}
theorem Qp{M:Model}{hp:Heap}(p:UI e (.ref C) hp):Looks M hp (typeOf (.ref e)) (.ref C):=by
 obtain⟨o,h1,h2⟩:=p;exact h2▸(Looks.ld h1).andThen .now
theorem Zf0{M:Model}{hp:Heap}(T:ExCls K C)(KX:K.In hp):Looks M hp (Builtin.ObjectAttr.find (.ref e) (.ref C) "__class__") (.bind (.builtin "getset_descriptor.__get__") (.builtin "object.__class__")):=
 (looks_findIn (M:=M) KX T.ca).andThen ((show Looks M hp (Builtin.ObjectAttr.getOf (some (.builtin "object.__class__"))) _ from looks_specialIn KX T.cg).andThen
   ((show Looks M hp (Builtin.ObjectAttr.dataDescriptor? (some (.builtin "object.__class__")) (some (.builtin "getset_descriptor.__get__"))) (some (Value.builtin "getset_descriptor.__get__",Value.builtin "object.__class__"))from(looks_takesIn (M:=M) KX T.ct).andThen .now).andThen (Looks.tag .now)))
theorem Zf1{tp:Value}{R:Result->Shared->Prop}(T:ExCls K C)(KX:K.In s.heap)(p:UI e (.ref C) s.heap)(hr:R (.ok (.ret (.ref C))) s) :
 codeAny (model P w) A (.call (.builtin "getset_descriptor.__get__") ⟨[.builtin "object.__class__",.ref e,tp],[]⟩) R s:=by
 cases s with
 |mk hp gs dr tk os'=>
 have Y0:=Qp (M:=model P w) p;have Y1:=looks_mroIn (M:=model P w) KX T.mo
 refine codeAny_call_builtin KF.slot_gs.plain KF.entry_gs (KF.slot_gs.check _ _ _ _ _ _ _ _ KF.type_class (KF.args_gs _ _ _) (by
  unfold Builtin.«getset_descriptor.__get__» descrGet;rw [dga_obj];refine wpAny_bind (wpAny_pure ?_);unfold descrGetter descrCheckInstance descrNameAndClass isInstance;simp only [KF.owner_class];repeat lk
  refine ⟨Code.quiet_builtin _ (by decide +kernel), codeAny_builtin KF.entry_class (by unfold Builtin.«object.__class__» shownTypeOf; repeat lk
                                                                                       exact hr)⟩))
theorem Zfn{tk:Tok}{Q:Fin->Shared->Prop}(T:ExCls K C)(KX:K.In s.heap)(p:UI e (.ref C) s.heap)(hq:Q (.done (.ret (.ref C))) s):wpAny (model P w) A (Builtin.«object.__getattribute__» ⟨[.ref e,.str "__class__" tk],[]⟩) Q E s:=by
 have Y0:=Qp (M:=model P w) p;have Y2:=Zf0 (e:=e) (M:=model P w) T KX;unfold Builtin.«object.__getattribute__»;refine wpAny_bind (wpAny_pure ?_);refine wpAny_bind (wpAny_pure ?_);refine wpAny_bind (Y0.here (wpAny_bind (Y2.here ?_)));show wpAny _ _ (holding [Value.builtin "object.__class__"] (call (.builtin "getset_descriptor.__get__") [.builtin "object.__class__",.ref e,.ref C]) >>= ret) _ _ _
 exact wpAny_bind (wpAny_holding (wpAny_call (Zf1 T KX p (wpAny_pure hq))))
theorem Zfo{nameV:Value}{Q:Unit->Shared->Prop}(T:ExCls K C)(KX:K.In s.heap)(p:UI e (.ref C) s.heap)(hq:Q () s):wpAny (model P w) A (checkBuiltinCall "BaseException.__getattribute__" ⟨[.ref e,nameV],[]⟩) Q E s:=by
 cases s with
 |mk hp gs dr tk os'=>
 have Y0:=Qp (M:=model P w) p;have Y1:=looks_mroIn (M:=model P w) KX T.mb;have e1:builtinKind "BaseException.__getattribute__" = some .slot:=by decide +kernel
 have e2:splitId "BaseException.__getattribute__" = some ("BaseException", "__getattribute__"):=by decide +kernel
 have e3:=F.args_bexc_ga (.ref e) nameV;simp only [checkBuiltinCall,e1,e2];unfold isInstance
 repeat (first|exact hq|assumption|lk|wp_step)
theorem Zfp{Q:Option Value->Shared->Prop}(T:ExCls K C)(KX:K.In s.heap)(p:UI e (.ref C) s.heap)(hq:Q (some (.ref C)) { s with toks:=s.toks+1 }):wpAny (model P w) A (getAttr? (.ref e) "__class__") Q E s:=by
 cases s with
 |mk hp gs dr tk os'=>
 have Y0:=Qp (M:=model P w) p;have Y1:=looks_findIn (M:=model P w) KX T.ga;have Y3:=looks_findIn (M:=model P w) KX T.gt;have b1:=PySem.F.attr_ValueError.ga.bind (.ref e);unfold getAttr? getAttrBy? getAttrBy;refine wpAny_bind (wpAny_mkText (wpAny_bind (wpAny_attempt (wpAny_holding (wpAny_bind (Y0.at (wpAny_bind (Y1.at ?_))))))));show wpAny _ _ (getAttrByItsOwn (.ref e) _ (.ref C) (.builtin "BaseException.__getattribute__") false false) _ _ _
 unfold getAttrByItsOwn hookBefore;refine wpAny_bind (Y3.at ?_);refine wpAny_bind (wpAny_attempt (wpAny_holding ?_));show wpAny _ _ (boundAndCalled (.builtin "BaseException.__getattribute__") (.ref e) _) _ _ _;unfold boundAndCalled;rw [b1];refine wpAny_bind (wpAny_pure ?_);show wpAny _ _ (call (.builtin "BaseException.__getattribute__") [.ref e,.str "__class__" _]) _ _ _;refine wpAny_call (codeAny_call_builtin PySem.F.attr_ValueError.ga.plain F.entry_bexc_ga (Zfo (s:=⟨hp,gs,dr,tk+1,os'⟩) T KX p (Zfn (s:=⟨hp,gs,dr,tk+1,os'⟩) T KX p ?_)))
 exact wpAny_mono (handed_on (E:=λ_ _=>False) rfl (show(λv s''=>Q (some v) s'') (.ref C) _ from hq)) (λv s'' hv=>wpAny_pure hv) (λ_ _ z=>z.elim)
theorem Zdf(T:ExCls K C):KitX K (.ref e) (.ref C) (UI e (.ref C)) where
 ty:=λ_ _ _ p=>Qp p
 it:=λM hp KX _=>by
  have hc:=T.cl;cases hq:clsIn K C with
  |none=>rw [hq]at hc;cases hc
  |some cd=>
   unfold clsIn at hq
   split at hq
   · rename_i look0
     intro A' Q' E' s' k0 q0;unfold isType loadHead;exact wpAny_bind (wpAny_loadPart (k0 _ _ (KX _ _ look0)) (wpAny_pure q0))
   · cases hq
 ne:=λhp tp dd its n sl KX htp=>by
  have hc:=T.cl;cases hq:clsIn K C with
  |none=>rw [hq]at hc;cases hc
  |some cd=>
   cases hz:(Value.ref C == Value.ref tp)with
   |false=>rfl
   |true=>
    exfalso
    have ez:C=tp:=Value.ref.inj (beq_iff_eq.mp hz);subst ez;unfold clsIn at hq
    split at hq
    · rename_i look0
      have:=(KX _ _ look0).symm.trans htp;cases this
    · cases hq
 ca:=λKX p k=>Zfp T KX p k
end
end L2
namespace L2
open PySem PySem.Spec PySem.W PyProof.Rows
theorem ObjOk.there{P:Program}{w:World}{H:Hp}{hp:Heap}{a:Addr}{o:HO}(x:ObjOk P w H hp a o):∃u,hp.get? a=some u:=by
 cases o with
 |lst xs=>obtain⟨_,_,_,_,e⟩:=x;exact⟨_,e⟩
 |tup xs=>obtain⟨_,_,_,ob,e,_⟩:=x;exact⟨_,e⟩
 |dK kvs=>obtain⟨_,_,_,_,o,_,_,e,_⟩:=x;exact⟨_,e⟩
 |dT kvs=>obtain⟨_,_,_,_,o,_,_,e,_⟩:=x;exact⟨_,e⟩
 |set S n=>obtain⟨o,_,_,_,e,_⟩:=x;exact⟨_,e⟩
 |ins C dx fs=>obtain⟨_,_,_,e,_⟩:=x;exact⟨_,e⟩
 |own y=>exact x
 |xd fs=>obtain⟨_,⟨_,_,_,e,_⟩,_⟩:=x;exact⟨_,e⟩
 |rng lo hi=>obtain⟨_,_,_,e⟩:=x;exact⟨_,e⟩
 |frz ob u=>obtain⟨e,_⟩:=x;exact⟨_,e⟩
 |tbl ps=>exact⟨_,x⟩
 |met f y=>exact⟨_,x⟩
 |ext φ=>exact x.2.1
section
variable{X:Cx}{pins:List (Addr×Obj)}{σ:St}{H H':Hp}{s s':Shared}{B hp:Heap}{ea:Addr}{C:Value}
theorem Zan {M:Model} {A:Around} {E:Value->Shared->Prop} {i:Nat} {n:Str} {pos:Pos} {Q:Unit->Shared->Prop} (I:Inv X pins σ H s) (hN:X.N.Nodup) (hi:X.N[i]? = some n) (hk:X.env.scope.names.lookup n=some .local)
 (hq:∀s',Inv X pins (σ.set i none) H s'->Q () s'):wpAny M A (do bindName X.env n .none;unbindBehindTheSuite X.env n pos) Q E s:=by
 obtain⟨m,hn,hl⟩:=id I.loc;have hcls:(X.env.scope.kind == .class||(X.env.scope.kind == .module&&X.env.locals != X.env.globals))=false:=by rw [I.ok.kind];rfl
 have cne:=I.cne;refine wpAny_nameGoes_keeps hk hn hcls λh1 v hn1 hs => ?_
 obtain⟨oL,_,_,hoL,_⟩:=id hn;have low:∀{b:Addr}{o:Obj},X.s₀.heap.get? b=some o->b≠X.env.locals:=λ{b o} e=>Nat.ne_of_lt (Nat.lt_of_lt_of_le (Heap.lt_size e) I.ok.above)
 refine hq _ ⟨I.ok,I.os,I.bare,⟨λb o e n' hb hx=>(hs.2 b (low e)).trans (I.base.keep b o e n' hb hx),λb o e n' hb hx => ?_,I.base.free,λb o e hx => ?_,I.base.tups,I.base.frzs,I.base.tbls⟩,⟨_,hn1,λj y v' e1 e2 e3 => ?_⟩,λy c e => ?_,I.free,I.freeC,λp hp => ?_,λb ob e => ?_,by simpa using I.len⟩
 · obtain⟨sl,e1⟩:=I.base.slot b o e n' hb hx
   exact⟨sl,(hs.2 b (low e)).trans e1⟩
 · obtain⟨o',e1⟩:=I.base.there b o e hx
   exact⟨o',(hs.2 b (low e)).trans e1⟩
 · by_cases hj:j=i
   · subst hj
     have:j<σ.length:=by rw [I.len];exact(List.getElem?_eq_some_iff.mp hi).1
     rw [List.getElem?_set_self this]at e2;cases e2
   · rw [List.getElem?_set_ne (Ne.symm hj)]at e2
     obtain⟨u',r',q⟩:=hl j y v' e1 e2 e3;refine⟨u',r',?_⟩;rcases q with⟨k1,e⟩|⟨k1,c,e,z⟩
     · refine .inl ⟨k1,?_⟩
       have hyn:y≠n:=λe=>hj (Zbo hN e1 (e▸hi))
       show(if y=n then v else m y)=some u';rw [if_neg hyn];exact e
     · exact .inr ⟨k1,c,e,z.sameBut hs (cne y c e)⟩
 · obtain⟨w',z⟩:=I.cell y c e
   exact⟨w',z.sameBut hs (cne y c e)⟩
 · obtain⟨e,n',ne,nf,d⟩:=I.pin p hp
   exact⟨(hs.2 p.1 ne).trans e,n',ne,nf,d⟩
 · refine(I.hok b ob e).stay (λc w' hc q=>(hs.2 c ?_).trans q) (λ_ q=>q) λ_ _ q=>q
   intro z;have fr:=I.free;rcases hc with hc|hc
   · rw [<-z,hc,e]at fr;cases fr
   · rw [<-z,hc]at fr;cases fr
end
abbrev Cx.suite(X:Cx)(ea:Addr):Cx:={ X with A:=X.A.mark (some (.ref ea)),calm:=false,xe:=λ_ _=>False }
theorem Inv.suite{X:Cx}{pins:List (Addr×Obj)}{σ:St}{H:Hp}{s:Shared}(I:Inv X pins σ H s)(ea:Addr):Inv (X.suite ea) pins σ H s:=
 ⟨⟨I.ok.mod,I.ok.kind,I.ok.glob,I.ok.blt,I.ok.above,I.ok.inj,I.ok.has,I.ok.cab,(λz=>nomatch z),I.ok.frames,I.ok.stk,I.ok.exf,I.ok.bs,I.ok.bsz,I.ok.noex,I.ok.exfs,I.ok.funs,I.ok.frf⟩,I.os,I.bare,I.base,I.loc,I.cell,I.free,I.freeC,I.pin,I.hok,I.len⟩
theorem Inv.unsuite{X:Cx}{pins:List (Addr×Obj)}{σ:St}{H:Hp}{s:Shared}{ea:Addr}(ok:X.Ok)(I:Inv (X.suite ea) pins σ H s):Inv X pins σ H s:=
 ⟨ok,I.os,I.bare,I.base,I.loc,I.cell,I.free,I.freeC,I.pin,I.hok,I.len⟩
section
variable{X:Cx}{E:XK}
end
end L2
namespace L2
open PySem PySem.Spec PySem.W PyProof.Rows
def ZeF(i:Nat)(D:Ends):Ends:={ nx:=λσ H=>D.nx (σ.set i none) H,rt:=D.rt,bk:=λσ H=>D.bk (σ.set i none) H,ct:=λσ H=>D.ct (σ.set i none) H }
section
variable{X:Cx}{G:Addr}{g n:Str}{i:Nat}{body suite:List Stmt}{b₀:Stmt}{gp hpos pos:Pos}{tb:XK->TS}{ts:Addr->Addr->TS}
end
end L2
namespace L2
open PySem PySem.Spec PySem.W PyProof.Rows
def Vd(e:Addr)(d:Option Addr)(h:Heap):Prop:=∃o,h.get? e=some o/\o.dict=d
def Z7{α:Type}(e:Addr):Sem α->Prop
 | .pure _=>True
 | .unsupported _=>True
 | .rule _ k=>Z7 e (k ())
 | .at _ k=>Z7 e (k ())
 | .load _ _ k=>∀o,Z7 e (k o)
 | .update a _ f k=>(∀(h:Heap)d,Vd e d h->Vd e d (h.update a f))/\Z7 e (k ())
 | .alloc _ k=>∀a,Z7 e (k a)
 | .stack k=>∀l,Z7 e (k l)
 | .ask k=>∀l,Z7 e (k l)
 |_=>False
theorem Yz{α β:Type}{e:Addr}{f:α->Sem β}:∀{m:Sem α},Z7 e m->(∀a,Z7 e (f a))->Z7 e (m >>= f):=by
 intro m;show Z7 e m->_->Z7 e (Sem.bind m f)
 induction m<;>intro h g<;>first|exact False.elim h|exact g _|exact True.intro|skip
 all_goals first
  |(rename_i k ih;exact ih () h g)
  |(rename_i k ih;exact⟨h.1,ih () h.2 g⟩)
  |(rename_i k ih;exact λa=>ih a (h a) g)
theorem ZhC{α:Type}{e:Addr}{d:Option Addr}{M:Model}{Γ:PySem.Ctx}{Q:α->Pos->Shared->Prop}{E:Value->Pos->Shared->Prop}:∀{t:Sem α}{p:Pos}{s:Shared},Z7 e t->Vd e d s.heap->Sem.wp M Γ t Q E p s ->
 Sem.wp M Γ t (λa p' s'=>Q a p' s'/\Vd e d s'.heap) E p s:=by
 intro t
 induction t<;>intro p s hc hd h<;>first|exact False.elim hc|skip
 case pure a=>exact⟨h,hd⟩
 case unsupported w=>exact h
 case rule t k ih=>exact ih () hc hd h
 case «at» t k ih=>exact ih () hc hd h
 case load a pt k ih=>obtain⟨o,h1,h2⟩:=h;exact⟨o,h1,ih o (hc o) hd h2⟩
 case update a pt f k ih=>exact⟨h.1,ih () hc.2 (hc.1 _ _ hd) h.2⟩
 case alloc o k ih=>
  obtain⟨ob,e1,e2⟩:=hd;exact ih _ (hc _) ⟨ob,Heap.get?_push_of_some _ e1,e2⟩ h
 case stack k ih=>exact ih _ (hc _) hd h
 case ask k ih=>exact ih _ (hc _) hd h
theorem Q5{α:Type}{e:Addr}{d:Option Addr}{M:Model}{A:Around}{Q:α->Shared->Prop}{E:Value->Shared->Prop}{t:Sem α}{s:Shared}(hc:Z7 e t)(hd:Vd e d s.heap)(h:wpAny M A t Q E s) :
 wpAny M A t (λa s'=>Q a s'/\Vd e d s'.heap) E s:=λΓ p hΓ=>ZhC hc hd (h Γ p hΓ)
theorem Zaq{e a:Addr}{d:Option Addr}{h:Heap}{f:Obj->Obj}(hf:∀o:Obj,(f o).dict=o.dict)(hz:∀o:Obj,o.isFreed=false->(f o).isFreed=false)(x:Vd e d h):Vd e d (h.update a f):=by
 obtain⟨o,e1,e2⟩:=x
 by_cases q:a=e
 · subst q
   exact⟨f o,Heap.get?_update_self f e1 (hz o (Heap.get?_some_iff.mp e1).2),(hf o).trans e2⟩
 · exact⟨o,(Heap.get?_update_other _ _ q).trans e1,e2⟩
section
variable{e:Addr}{α β:Type}
theorem YW{a:α}:Z7 e (pure a:Sem α):=True.intro
theorem Vp{w:String}:Z7 e (unsupported w:Sem α):=True.intro
theorem VU{c:Prop} [Decidable c]{a b:Sem α}(h1:Z7 e a)(h2:Z7 e b):Z7 e (if c then a else b):=by split<;>assumption
theorem ZaS{a:Addr}:Z7 e (load a):=λ_=>True.intro
theorem Zat:Z7 e stack:=λ_=>True.intro
theorem Zfq{a:Addr}{f:Array Value->Array Value}:Z7 e (update a (Obj.mapFields f)):=by
 refine⟨λh d x=>Zaq (λo => ?_) (λo hz => ?_) x,True.intro⟩
 · unfold Obj.mapFields;split<;>rfl
 · unfold Obj.mapFields;split<;>first|rfl|exact hz
theorem ZcJ{v:Value}:Z7 e (fieldsOf v):=by
 unfold fieldsOf
 split
 · refine Yz ZaS λo => ?_
   split<;>first|exact Vp|exact YW
 · exact Vp
theorem Zaj{v:Value}{i:Nat}:Z7 e (field v i):=by
 unfold field;refine Yz ZcJ λo => ?_
 split<;>first|exact Vp|exact YW
theorem Zag{v x:Value}{i:Nat}:Z7 e (setField v i x):=by
 unfold setField
 split
 · unfold updateField
   refine Yz ZaS λo => ?_
   split
   · exact VU Zfq Vp
   · exact Vp
 · exact Vp
theorem Zab{v:Value}{f:Option Addr}:Z7 e (setFlight v f):=by
 unfold setFlight;exact Yz Zaj λt=>VU Zag YW
theorem Za6:∀{l:List Env},Z7 e (readyFrames l)
 | []=>YW
 |env::outer=>by
  unfold readyFrames
  split
  · refine Yz ZaS λo=>VU YW (Yz ?_ λim=>Yz ?_ λbk=>Yz ?_ λ_=>Za6)
    · unfold behindIsImport
      exact VU YW (VU YW (Yz Zaj λ_=>YW))
    · unfold keptBack
      split
      · exact VU YW (Yz (by unfold underTheClaimsCaller;exact Yz Zat λ_=>YW) λ_=>YW)
      · exact YW
    · exact⟨λh d x=>Zaq (λo=>rfl) (λo hz=>by cases o with|mk a b c d=>cases c<;>first|rfl|exact hz) x,True.intro⟩
  · exact Vp
theorem Zcn{env:Env}:Z7 e (PySem.frameOf env):=by
 unfold PySem.frameOf;refine Yz (by unfold frameEnvs;exact Yz Zat λ_=>YW) λl=>Yz ?_ λo => ?_
 · unfold frameObject
   split
   · exact YW
   · exact Yz Za6 λ_=>YW
 · split<;>first|exact Vp|exact YW
theorem ZdQ{f:Addr}{b:Bool}:Z7 e (entryPlaceOf f b):=by
 unfold entryPlaceOf;refine Yz Zat λl => ?_
 split<;>exact YW
theorem Zfr{vs:List Value}:Z7 e (newFields "traceback" vs):=by
 unfold newFields newObj;dsimp only
 have h:Z7 e (newObjAsIs (.type "traceback") (.fields vs.toArray)):=by
  unfold newObjAsIs;exact Yz (λ_=>True.intro) λa=>YW
 exact VU (Yz Vp λ_=>h) h
theorem ZbX{v:Value}{env:Env}:Z7 e (noteFrame v env):=by
 unfold noteFrame
 split
 · refine Yz Zaj λhd => ?_
   have rest:∀hd:Value,Z7 e (do setField v 1 (<-EntryCells.newEntry hd (<-PySem.frameOf env) .none (rawInt ‹Addr›) .none (<-entryPlaceOf ‹Addr› (hd != .none)))):=λhd=>
    Yz Zcn λ_=>Yz ZdQ λ_=>Yz (by unfold EntryCells.newEntry;exact Zfr) λ_=>Zag
   refine VU ?_ (rest hd);refine Yz Zaj λx=>VU YW (Yz Zag λ_=>rest hd)
 · exact Vp
theorem Zaz{v:Value}{env:Env}:Z7 e (leaving env v):=by
 unfold leaving;exact Yz ZbX λ_=>Zab
end
end L2
namespace L2
open PySem PySem.Spec PySem.W PyProof.Rows
def UJ(K:PySem.W.Frag)(C:Addr):Bool:=match K.lookup C with
 |some ⟨.type "type",_,.cls cd,sl⟩=>(match cd.mro,sl.toList with
  | .ref C'::bm,[_,_,_,_,some (.builtin n),_]=>C' == C&&n == "ValueError.__new__" && !cd.hasDel&&tailIn K bmV bm
  |_,_=>false)
 |_=>false
theorem ZaT{K:PySem.W.Frag}{hp:Heap}{C:Addr}(KX:K.In hp)(q0:UJ K C=true) :
 ∃bm N nm q bs hdct sn sub ab col dd k0 k1 k2 k3 k5,hp.get? C=some (excClassObj nm q C N bs bm hdct sn sub ab col dd k0 k1 k2 k3 k5 "ValueError.__new__")/\OwnTail hp bmV bm:=by
 unfold UJ at q0
 split at q0
 · rename_i dict0 cls0 slots0 look0
   split at q0
   · rename_i C1 rest0 j0 j1 j2 j3 nid1 j5 mro0 sl0
     simp only [Bool.and_eq_true,beq_iff_eq,Bool.not_eq_true']at q0;have e1:C1=C:=q0.1.1.1;have e2:nid1 = "ValueError.__new__" := q0.1.1.2;have e3:=q0.1.2;have e4:=q0.2;subst e1 e2;cases cls0 with
     |mk f1 f2 f3 f4 f5 f6 f7 f8 f9 f10 f11=>
      dsimp only at mro0 e3;subst mro0 e3
      have es:slots0 = #[j0,j1,j2,j3,some (.builtin "ValueError.__new__"),j5]:=by
       cases slots0 with
       |mk l=>exact congrArg Array.mk sl0
      subst es;exact⟨rest0,f4,f1,f5,f2,f6,f7,f8,f9,f10,dict0,j0,j1,j2,j3,j5,KX _ _ look0,tail_of_in KX e4⟩
   · cases q0
 · cases q0
section
variable{prog:Program}{w:World}{A:Around}{E:Value->Shared->Prop}{s:Shared}{K:PySem.W.Frag}{C fI:Addr}{rest:List Value}
abbrev YX(C:Addr)(dd:Option Addr)(a0:Value):Obj:={ cls := .ref C,dict:=dd,data := .fields #[a0,.none,.none,.none,.bool false,.none] }
abbrev VV(vs:List Value):Obj:={ cls := .type "tuple",data := .seq vs.toArray }
theorem Zf2 {Q:Value->Shared->Prop} (KX:K.In s.heap) (hq:UJ K C=true) (hi:findIn K (.ref C) "__init__" = some (some (.ref fI))) (hf:typeIn K (.ref fI)=some (.type "function")) (hz:rest.length<=8)
 (h:wpAny (model prog w) (A.under (.builtin "type.__call__" ⟨.ref C::rest,[]⟩)) (call (.ref fI) (.ref (s.heap.objs.size+1)::rest)) (λr s'=>r = .none/\Q (.ref (s.heap.objs.size+1)) s') E
   { s with heap:=(s.heap.push (VV rest)).push (YX C none (.ref s.heap.objs.size)) }) :
 wpAny (model prog w) A (call (.ref C) rest) Q E s:=by
 obtain⟨hp,g,d,t,os⟩:=s;obtain⟨bm,N,nm,q,bs,hdct,sn,sub,ab,col,dd,k0,k1,k2,k3,k5,hC,T⟩:=ZaT KX hq;have F:=PySem.F.excBase_ValueError;have hrest:rest.length<=sizeLine:=Nat.le_trans hz (by decide);have f1:=tc_lookup;have f2:=tc_bind (.ref C);have hT:(⟨hp,g,d,t,os⟩:Shared).TypeIs (.ref C) "type" := ⟨_,hC,rfl⟩
 refine wpAny_call (codeAny_of_tree ?_);show wpAny _ _ (callAny (.ref C) _) _ _ _
 repeat (any_goals (first|assumption|with_reducible refine wpAny_loadPart_at hC ?_|wp_step))
 refine⟨rfl,?_⟩;refine codeAny_call_builtin_at (Code.quiet_builtin _ (by decide +kernel)) entry_typeCall (wpAny_check_type_call_sub hC ?_)
 repeat (first|with_reducible refine wpAny_loadPart_at hC ?_|with_reducible refine wpAny_madeBy_exc hC ?_|wp_step)
 refine codeAny_call_builtin_code (Code.quiet_builtin _ F.quiet) (wpAny_check_new_subT F T hC ?_);refine codeAny_exc_new_subT F T hC ?_ hrest;show wpAny _ _ _ _ _ _;have kp:∀b o,hp.get? b=some o->((hp.push (VV rest)).push (YX C none (.ref hp.objs.size))).get? b=some o:=λb o e=>Heap.get?_push_of_some _ (Heap.get?_push_of_some _ e)
 have hC1:=kp _ _ hC
 have hget:((hp.push (VV rest)).push (YX C none (.ref hp.objs.size))).get? (hp.objs.size+1)=some (YX C none (.ref hp.objs.size)):=by
  have:=Heap.get?_push_size (hp.push (VV rest)) (o:=YX C none (.ref hp.objs.size)) rfl
  rwa [Heap.size_push]at this
 have hcC:(Value.ref C::bm).contains (.ref C)=true:=by simp
 unfold isInstance
 repeat (first|with_reducible refine wpAny_loadPart_at hget ?_|wp_step)
 show wpAny _ _ (isSubtype (.ref C) (.ref C)) _ _ _;refine wpAny_isSubtype_exc hC1 ?_;rw [hcC]
 repeat (first|with_reducible refine wpAny_loadPart_at hget ?_|wp_step)
 show wpAny _ _ (typeLookup (.ref C) _) _ _ _;have KX1:K.In ((hp.push (VV rest)).push (YX C none (.ref hp.objs.size))):=λa o e=>kp _ _ (KX _ _ e)
 refine(looks_findIn KX1 hi).here ?_;refine wpAny_holding (wpAny_bind ((PySem.W.bind_fn KX1 _ hf).here ?_));refine wpAny_bind (wpAny_mono h (λr s' hr => ?_) λ_ _ x=>x);obtain⟨rfl,hQ⟩:=hr
 wp_walk
 exact hQ
end
end L2
namespace L2
open PySem PySem.Spec PySem.W PyProof.Rows
section
variable{prog:Program}{w:World}{A:Around}{E:Value->Shared->Prop}{s:Shared}{K:PySem.W.Frag}{C e:Addr}{dd:Option Addr}{a0 u v:Value}{name:Str}
theorem Zf3 {Q:Value->Shared->Prop} (KX:K.In s.heap) (hq:UJ K C=true) {t0:Addr} (he:s.heap.get? e=some (YX C dd (.ref t0)))
 (h:∀h',h'.get? e=some (YX C dd (.ref s.heap.objs.size))->(∀b o,b≠e->s.heap.get? b=some o->h'.get? b=some o)->h'.objs.size=s.heap.objs.size+1->Q .none { s with heap:=h' }) :
 wpAny (model prog w) A (call (.builtin "ValueError.__init__") [.ref e,u]) Q E s:=by
 obtain⟨hp,g,d,t,os⟩:=s;obtain⟨bm,N,nm,q,bs,hdct,sn,sub,ab,col,dd',k0,k1,k2,k3,k5,hC,T⟩:=ZaT KX hq;have F:=PySem.F.excBase_ValueError;refine wpAny_call (codeAny_call_builtin F.init.plain F.initEntry (wpAny_check_init_subT F T hC he rfl ?_));have h1:=Heap.get?_push_of_some (VV [u]) he
 wp_walk
 refine h _ ?_ (λb o hb e1 => ?_) (by rw [Heap.size_update,Heap.size_push])
 · rw [Heap.get?_update_self _ h1 rfl]
   rfl
 · rw [Heap.get?_update_other _ _ (Ne.symm hb)]
   exact Heap.get?_push_of_some _ e1
theorem Zf4(self:Value):refuseLoop self "__setattr__" bmV=pure ():=by kernel_rfl
def Qq:List Value->Bool
 | .ref _::r=>Qq r
 |l=>l == bmV
theorem ZdR(self:Value):∀{l:List Value},Qq l=true->refuseLoop self "__setattr__" l=pure ():=by
 intro l
 induction l with
 |nil=>intro x;cases x
 |cons a r ih=>
  intro x;cases a with
  |ref c=>rw [refuseLoop_ref];exact ih x
  |type n=>rw [beq_iff_eq.mp (show((Value.type n::r) == bmV)=true from x)];exact Zf4 self
  |_=>cases beq_iff_eq.mp (show((_::r) == bmV)=true from x)
theorem Zfs:∀{l:List Value},Qq l=true->l.contains (.type "object")=true:=by
 intro l
 induction l with
 |nil=>intro x;cases x
 |cons a r ih=>
  intro x;cases a with
  |ref c=>rw [List.contains_cons,ih x,Bool.or_true]
  |type n=>rw [beq_iff_eq.mp (show((Value.type n::r) == bmV)=true from x)];decide +kernel
  |_=>cases beq_iff_eq.mp (show((_::r) == bmV)=true from x)
theorem ZhD {Q:Unit->Shared->Prop} (KX:K.In s.heap) (hv:((clsIn K C).any λcd=>Qq cd.mro)=true) (he:s.heap.get? e=some (YX C none a0)) (hs:findIn K (.ref C) "__setattr__" = some (some (.builtin "object.__setattr__"))) (hn:findIn K (.ref C) name=some none) (hh:PySem.W.hasDictIn K C=true)
 (h:∀h',h'.get? e=some (YX C (some s.heap.objs.size) a0)->h'.Ns1 s.heap.objs.size (λy=>if y=name then some v else none)->(∀b o,b≠e->s.heap.get? b=some o->h'.get? b=some o)->Q () { s with heap:=h',toks:=s.toks+2 }) :
 wpAny (model prog w) A (setAttr (.ref e) name v) Q E s:=by
 have J:InstAt s.heap e (YX C none a0) C none:=⟨he,rfl,rfl,True.intro⟩
 refine PySem.W.set_plain KX J hs ?_;have SF:=PySem.F.store_object;obtain⟨cd,hc,hd'⟩:=PySem.W.any_some hh;obtain⟨cd2,hc2,ho⟩:=PySem.W.any_some hv;obtain rfl:cd2=cd:=Option.some.inj (hc2.symm.trans hc);have ne:cd2.mro.isEmpty=false:=by cases q:cd2.mro with|nil=>rw [q]at ho;cases ho|cons _ _=>rfl
 have sub:Looks (model prog w) s.heap (isInstance (.ref e) (.type "object")) true:=J.type.andThen (looks_mroIn KX (by unfold mroIn;rw [hc,Option.bind_some,if_neg (by rw [ne];decide),Zfs ho]));refine codeAny_call_builtin SF.slot.plain SF.entry (@check_slot (model prog w) _ _ { s with toks:=s.toks+1 } "object.__setattr__" "object" "__setattr__" (.ref e) [.str name s.toks,v] [] _ SF.kind SF.split sub (SF.args (.ref e) (.str name s.toks) v) ?_)
 have hm:Looks (model prog w) s.heap (mroOf (.ref C)) cd2.mro:=(looks_clsIn KX hc).andThen .now;rw [osa_eq,refuse_eq];refine wpAny_bind (wpAny_bind (J.type.here (s:={ s with toks:=s.toks+1 }) (wpAny_bind (hm.here (s:={ s with toks:=s.toks+1 }) ?_))));rw [ZdR _ ho];refine wpAny_pure (wpAny_bind (J.type.here (s:={ s with toks:=s.toks+1 }) (wpAny_bind ((looks_findIn KX hn).here (s:={ s with toks:=s.toks+1 }) (wpAny_bind (wpAny_pure ?_))))))
 dsimp only;refine wpAny_bind (wpAny_pure (wpAny_bind (wpAny_bind (wpAny_loadPart he (wpAny_bind (PySem.W.Looks.here (s:={ s with toks:=s.toks+1 }) (PySem.W.looks_clsIn KX hc) ?_))))));rw [hd',if_neg (by decide)];dsimp only;rw [if_neg (show ¬((!true || !typeHasDict (.ref C))=true)from Bool.false_ne_true)];refine wpAny_bind (wpAny_alloc ?_);have hlt:e<s.heap.objs.size:=Heap.lt_size he
 have he1:=Heap.get?_push_of_some emptyDict he;refine wpAny_bind (wpAny_update (o:=YX C none a0) he1 ?_);refine wpAny_pure ?_;have he2:=Heap.get?_update_self (λo:Obj=>{ o with dict:=some s.heap.objs.size }) he1 rfl;have hk:∀b o,b≠e->(s.heap.push emptyDict).get? b=some o->((s.heap.push emptyDict).update e λo:Obj=>{ o with dict:=some s.heap.objs.size }).get? b=some o:=λb o hb x=>(Heap.get?_update_other _ _ (Ne.symm hb)).trans x
 have hd0:(s.heap.push emptyDict).get? s.heap.objs.size=some emptyDict:=Heap.get?_push_size s.heap rfl;have hd1:=hk _ _ (Nat.ne_of_gt hlt) hd0;have n1:((s.heap.push emptyDict).update e λo:Obj=>{ o with dict:=some s.heap.objs.size }).Ns1 s.heap.objs.size (λ_=>none):=Heap.Ns1.of_empty ⟨emptyDict,#[],_,hd1,rfl,(λe he=>absurd he (by simp)),λ_=>rfl⟩;refine wpAny_bind (wpAny_pure (wpAny_bind ?_))
 refine wpAny_nsSet1 (s:={ s with heap:=((s.heap.push emptyDict).update e λo:Obj=>{ o with dict:=some s.heap.objs.size }),toks:=s.toks+1 }) n1 λh' hn2 hs2 => ?_
 have wi:PySem.Within (λ_:Str=>(none:Option Value)) []:=λy hy=>absurd rfl hy
 obtain⟨oD,esD,epD,hoD,hdD,hcD⟩:=hn2.count (PySem.Within.cons name v wi);refine wpAny_bind (wpAny_lookBehind hoD (by rw [hdD];exact pastItsLine_dict (Nat.le_trans hcD (show 1<=sizeLine+1 by decide))) ?_);exact wpAny_pure (h _ ((hs2.2 _ (Nat.ne_of_lt hlt)).trans he2) hn2 λb o hb x=>(hs2.2 b (Nat.ne_of_lt (Heap.lt_size x))).trans (hk b o hb (Heap.get?_push_of_some _ x)))
theorem ZhE{x:Addr}{ox od:Obj}{tk:Tok}{Q:Fin->Shared->Prop}(KX:K.In s.heap)(J:InstAt s.heap x ox C (some od))(hf:findObj K C (some od) name=some (.value v))(h:Q (.done (.ret v)) s) :
 wpAny (model prog w) A (Builtin.«object.__getattribute__» ⟨[.ref x,.str name tk],[]⟩) Q E s:=by
 obtain⟨hp,g,d,t,os⟩:=s;have L0:=J.type (M:=model prog w);have L1:=looks_find (M:=model prog w) KX J hf;unfold Builtin.«object.__getattribute__»;refine wpAny_bind (wpAny_pure ?_);refine wpAny_bind (wpAny_pure (wpAny_bind (L0.at (wpAny_bind (L1.at ?_)))));exact wpAny_pure h
theorem ZhF {x:Addr} {ox od:Obj} {expr:Bool} {Q:Value->Shared->Prop} (KX:K.In s.heap) (J:InstAt s.heap x ox C (some od)) (hga:findIn K (.ref C) "__getattribute__" = some (some (.builtin "BaseException.__getattribute__"))) (hgn:findIn K (.ref C) "__getattr__" = some none)
 (hsub:mroIn K C (.type "BaseException")=some true) (hf:findObj K C (some od) name=some (.value v)) (hh:handedIn v=true) (h:Q v { s with toks:=s.toks+1 }):wpAny (model prog w) A (getAttr (.ref x) name expr) Q E s:=by
 have FX:=PySem.F.attr_ValueError;refine wpAny_bind (wpAny_mkText (wpAny_holding (wpAny_bind (J.type _ _ _ _ (λ_ _ e=>e) (wpAny_bind (looks_findIn KX hga _ _ _ _ (λ_ _ e=>e) ?_))))));dsimp only;rw [show(onTheHeap (Value.ref C)&&Value.builtin "BaseException.__getattribute__" == Value.builtin "object.__getattribute__")=false from by rw [show(Value.builtin "BaseException.__getattribute__" == Value.builtin "object.__getattribute__")=false from by decide +kernel,Bool.and_false],if_neg (by decide)]
 refine wpAny_bind ((looks_findIn KX hgn) _ _ _ _ (λ_ _ e=>e) (wpAny_bind (wpAny_attempt (wpAny_holding ?_))));unfold callGetattribute;rw [show(expr&&onTheHeap (Value.builtin "BaseException.__getattribute__"))=false from Bool.and_false _,if_neg (by decide)];unfold boundAndCalled;rw [FX.ga.bind];refine wpAny_bind (wpAny_pure ?_);show wpAny _ _ (call (.builtin "BaseException.__getattribute__") [.ref x,.str name s.toks]) _ _ _
 refine wpAny_call ?_;refine codeAny_call_builtin FX.ga.plain PySem.F.entry_bexc_ga ?_;refine @check_slot (model prog w) _ _ { s with toks:=s.toks+1 } "BaseException.__getattribute__" "BaseException" "__getattribute__" (.ref x) [.str name s.toks] [] _ (by decide +kernel) (by decide +kernel) (J.type.andThen (looks_mroIn KX hsub)) (PySem.F.args_bexc_ga (.ref x) (.str name s.toks)) ?_;refine ZhE (s:={ s with toks:=s.toks+1 }) KX J hf ?_
 show wpAny _ _ (handedOut v) _ _ _;rw [handedOut_of hh];exact wpAny_pure h
end
end L2
namespace L2
open PySem PySem.Spec PySem.W PyProof.Rows
def XRaw(e C:Addr)(d:Option Addr)(h:Heap):Prop:=∃t0:Addr,h.get? e=some (YX C d (.ref t0))
theorem XRaw.ok{P:Program}{w:World}{H:Hp}{h:Heap}{e C:Addr}{d:Option Addr}(x:XRaw e C d h):ObjOk P w H h e (.ext (XRaw e C d)):=
 ⟨x,let⟨_,q⟩:=x;⟨_,q⟩,λh1 h2 ⟨t0,q⟩ k=>⟨t0,k _ q⟩⟩
structure ExIn(K:PySem.W.Frag)(C fI:Addr)(f:Str):Prop where
 new:UJ K C=true
 ini:findIn K (.ref C) "__init__" = some (some (.ref fI))
 fn:isFn K (.ref fI)=true
 kp:keepIn K (.ref C)=true
 tl:((clsIn K C).any λcd=>Qq cd.mro)=true
 sa:findIn K (.ref C) "__setattr__" = some (some (.builtin "object.__setattr__"))
 no:findIn K (.ref C) f=some none
 hd:hasDictIn K C=true
structure BsIn(K:PySem.W.Frag)(G:Addr):Prop where
 sp:specialIn K (.ref G) "__getattribute__" = some (some (.builtin "type.__getattribute__"))
 rd:readsIn K G (.type "type")=true
 fc:findCls K (.ref G) (.type "type") "__init__" = some (.val (.builtin "ValueError.__init__"))
theorem Zf5{H:Hp}{a:Addr}{o:HO}(h:H a=some o):upd H a o=H:=by
 funext b
 unfold upd
 split
 · rename_i q;rw [q,h]
 · rfl
theorem Zft{h:Heap}{b:Addr}{o w:Obj}(hb:b≠h.objs.size)(x:(h.push o).get? b=some w):h.get? b=some w:=by
 obtain⟨x1,x2⟩:=Heap.get?_some_iff.mp x;refine Heap.get?_some_iff.mpr ⟨?_,x2⟩;have x3:(h.objs.push o)[b]? = some w:=x1;rw [Array.getElem?_push,if_neg hb]at x3;exact x3
def Zhf(C:Addr):List V->Hp->VK->Prop:=λxs H Q=>∃e d u,xs=[.ref e,u]/\H e=some (.ext (XRaw e C d))/\Q .non H
section
variable{X:Cx}{C fI:Addr}{f:Str}
theorem Zfu(T:ExIn X.K C fI f):YI X (.builtin "ValueError.__init__") (Zhf C):=by
 intro pins s σ H xs us Q I rs h;obtain⟨e,d,u,rfl,he,q⟩:=h;obtain⟨ue,uu,rfl,rx,rc⟩:=QR rs;cases(show ue=Value.ref e from rx);obtain⟨t0,hx⟩:=(I.hok e _ he).1;refine Zf3 I.kIn T.new hx λh' h1 h2 h3=>⟨.non,H,?_,rfl,q⟩
 have J:=I.write (h':=h') (t':=s.toks) (x:=e) (e:=e) (o:=.ext (XRaw e C d)) (by rw [he];exact True.intro) (.inl rfl) (λb o hb z=>h2 b o hb z) ⟨_,h1⟩ (XRaw.ok ⟨_,h1⟩);rw [Zf5 he]at J;exact J
theorem ZhG {G:Addr} {g:Str} {p apos pos:Pos} {e:Expr} {es:List Expr} {t:TA} {pl:Sem Bool} (T:ExIn X.K C fI f) (B:BsIn X.K G) (hg:Gl X g) (hm:X.mg g=some (.ref G)) (ha:PA X (e::es) t) (hdb:(g == ("__debug__" : Str))=false:=by decide)
 (hst:starEach (e::es) X.env=(false,eval e X.env)::starEach es X.env:=by rfl) (hpl:(backTo pos (starEach es X.env)).any (·.1)=false:=by rfl)
 (ht:eval (.Call (.Attribute (.Name g p) "__init__" apos) (e::es) [] pos) X.env=(do
   let ov <-eval (.Name g p) X.env
   standAt apos.atName
   let(f,first) <-holding [ov] (getMethod ov "__init__" pl)
   callWith pos f first (backTo pos (starEach (e::es) X.env)) (backToKw pos (keywordEach [] X.env))):=by rfl) :
 PE X (.Call (.Attribute (.Name g p) "__init__" apos) (e::es) [] pos) (tCB (Zhf C) t):=by
 intro pins s σ H Q I h;refine PySem.W.methodCall_KW (pl:=pl) (Uw I hg hm ?_ hdb) ht;refine method_cls I.kIn B.sp (cls_value I.kIn B.rd B.fc rfl ?_);exact PyProof.Rows.callWith_builtin1 (thn (ha pos pins _ σ H _ (I.tok _) h) λus s1 ⟨vs,H1,I1,r1,q1⟩=>Zfu T pins s1 σ H1 vs us Q I1 r1 q1) hst hpl
def ZiF(C:Addr)(ta tv:TE)(f:Str):TS:=λD σ H=>tv σ H λy H1=>ta σ H1 λx H2=>∃e,x = .ref e/\H2 e=some (.ext (XRaw e C none))/\∀d,H2 d=none->D.nx σ (upd (upd H2 d (.xd [(f,y)])) e (.ext (XRaw e C (some d))))
theorem ZhH{o value:Expr}{pos pos':Pos}{ta tv:TE}(T:ExIn X.K C fI f)(ha:PE X o ta)(hv:PE X value tv)(hs:swapsWith value (some (.Attribute o f pos')) pos.line X.env=pure false:=by rfl):PS X (.Assign [.Attribute o f pos'] value pos) (ZiF C ta tv f):=by
 intro pins s σ H D I h;refine plainObj_wpAny_Assign_Attribute (thn (hv pins s σ H _ I h) λu s1 ⟨y,H1,I1,ry,q⟩=>thn (ha pins s1 σ H1 _ I1 q) λov s2 ⟨x,H2,I2,rx,e,ex,ea,q2⟩ => ?_) hs;subst ex;cases(show ov=Value.ref e from rx);obtain⟨t0,hx⟩:=(I2.hok e _ ea).1;have hf:H2 s2.heap.objs.size=none:=I2.hok.fresh (Nat.le_refl _);refine ZhD I2.kIn T.tl hx T.sa T.no T.hd λh' h1 h2 h3=>⟨σ,_,?_,q2 _ hf⟩
 obtain⟨oD,esD,epD,hoD,cD⟩:=id h2;have hne:e≠s2.heap.objs.size:=Nat.ne_of_lt (Heap.lt_size hx);have hz:(s2.heap.push oD).get? s2.heap.objs.size=some oD:=Heap.get?_push_size s2.heap (Heap.get?_some_iff.mp hoD).2
 have I3:=I2.laid (a:=s2.heap.objs.size) (o:=.xd [(f,y)]) (h':=s2.heap.push oD) (t':=s2.toks) (λb w z=>Heap.get?_push_of_some _ z) (Nat.le_refl _)
  ⟨_,⟨oD,esD,epD,hz,cD⟩,λg=>by
    show RelO (List.lookup g [(f,y)]) (if g=f then some u else none)
    by_cases hgf:g=f
    · have hb:(g == f)=true:=beq_iff_eq.mpr hgf
      simp only [List.lookup,hb,if_pos hgf];exact ry
    · have hb:(g == f)=false:=beq_eq_false_iff_ne.mpr hgf
      simp only [List.lookup,hb,if_neg hgf];exact True.intro⟩
 refine I3.write (h':=h') (t':=s2.toks+2) (x:=e) (e:=e) (o:=.ext (XRaw e C (some s2.heap.objs.size))) (by rw [ZI hne,ea];exact True.intro) (.inl rfl) (λb w hb z => ?_) ⟨_,h1⟩ (XRaw.ok ⟨_,h1⟩)
 by_cases hbd:b=s2.heap.objs.size
 · subst hbd
   have z':(s2.heap.push oD).get? s2.heap.objs.size=some w:=z;rw [hz]at z';cases z';exact hoD
 · refine h3 b w hb ?_
   have z':(s2.heap.push oD).get? b=some w:=z;exact Zft hbd z'
end
end L2
namespace L2
open PySem PySem.Spec PySem.W PyProof.Rows
def off(H:Hp)(a:Addr):Hp:=λb=>if b=a then none else H b
theorem Q6{H:Hp}{a b:Addr}(h:b≠a):off H a b=H b:=by unfold off;rw [if_neg h]
theorem Zbu{H:Hp}{a:Addr}:off H a a=none:=by unfold off;rw [if_pos rfl]
theorem ZdS {prog:Program} {w:World} {A:Around} {E:Value->Shared->Prop} {s:Shared} {K:PySem.W.Frag} {C:Addr} {env:Env} {x:Sem Value} {Q:Flow->Shared->Prop} (hq:UJ K C=true) (hh:A.handled=none)
 (h:wpAny (model prog w) A x (λv s1=>∃e d t0,v = .ref e/\K.In s1.heap/\s1.heap.get? e=some (YX C d (.ref t0))/\E (.ref e) s1) E s):wpAny (model prog w) A (raiseStmt env (some x) none) Q E s:=by
 unfold raiseStmt;refine wpAny_bind (wpAny_mono h (λv s1 h1 => ?_) λ_ _ x=>x);obtain⟨e,d,t0,rfl,KX,he,hE⟩:=h1;obtain⟨hp,g,dr,tk,os⟩:=s1;obtain⟨bm,N,nm,q,bs,hdct,sn,sub,ab,col,dd',k0,k1,k2,k3,k5,hC,T⟩:=ZaT KX hq;have hcB:(Value.ref C::bm).contains (.type "BaseException")=true:=by rw [List.contains_cons,T.hasType PySem.F.excBase_ValueError.hasBase,Bool.or_true]
 have he':hp.get? e=some { cls := .ref C,dict:=d,data := .fields #[.ref t0,.none,.none,.none,.bool false,.none] }:=he
 repeat (first|with_reducible refine wpAny_loadPart_at he' ?_|with_reducible refine wpAny_loadPart_at hC ?_|(with_reducible refine wpAny_isSubtype_exc hC ?_;rw [hcB])|wp_step)
 exact wpAny_raiseNew_none hh hE
def Zdg(X:Cx)(E:XK)(C:Addr):Prop:=∀(pins:List (Addr×Obj))(σ:St)(H:Hp)(s:Shared)(ea d:Addr),Inv X pins σ H s->H ea=some (.ext (XRaw ea C (some d)))->E (.ref C) (some d) (off H ea)->X.xe (.ref ea) s
def ZeG(E:XK)(C:Addr)(sp:Sp)(t:TA):TS:=λ_ σ H=>t σ H λvs H1=>vs.length<=8/\∀ea,H1 ea=none ->
 sp (.ref ea::vs) (upd H1 ea (.ext (XRaw ea C none))) (λv H2=>v = .non/\∃d,H2 ea=some (.ext (XRaw ea C (some d)))/\E (.ref C) (some d) (off H2 ea)) E0
section
variable{X:Cx}{E:XK}{C fI:Addr}{f x:Str}{fd:FuncData}{ps:List Str}{sp:Sp}{k:Nat}{p cpos pos:Pos}{e:Expr}{es:List Expr}{t:TA}
theorem ZbY (T:ExIn X.K C fI f) (F:FnOk X.prog X.w X.K X.mg X.base CX0 k fI fd ps sp) (hr:Room (k+1) X.A) (hg:Gl X x) (hm:X.mg x=some (.ref C)) (hb:Binds X.K fd ps []) (hR:Zdg X E C) (ha:PA X (e::es) t) (hc:X.calm=true:=by rfl)
 (he:starEach (e::es) X.env=(false,eval e X.env)::starEach es X.env:=by rfl) (hpl:(backTo cpos (starEach es X.env)).any (·.1)=false:=by rfl) (hdb:(x == ("__debug__" : Str))=false:=by decide) :
 PS X (.Raise (some (.Call (.Name x p) (e::es) [] cpos)) none pos) (ZeG E C sp t):=by
 intro pins s σ H D I h;rw [arm_exec_Raise];simp only [evalOpt,Option.map];refine wpAny_bind (wpAny_standAt (ZdS (C:=C) T.new (I.ok.hd hc) ?_));refine wpAny_bind (wpAny_mono (Q:=λv s1=>∃e d t0,v = .ref e/\X.K.In s1.heap/\s1.heap.get? e=some (YX C d (.ref t0))/\X.xe (.ref e) s1) ?_ (λv s3 h3=>wpAny_bind (wpAny_standAt (wpAny_pure h3))) λ_ _ x=>x);refine wpAny_Call_Name_kw (Uw I hg hm ?_ hdb)
 refine PySem.W.callWith_K (h₀:=X.base) I.ok.mod.kin T.kp (thn (ha cpos pins s σ H _ I h) λus s1 ⟨vs,H1,I1,r,hz,q⟩=>⟨I1.kIn,?_⟩) he hpl;refine Zf2 I1.kIn T.new T.ini (beq_iff_eq.mp T.fn) (show us.length<=8 by rw [<-r.length];exact hz) ?_
 have hget:((s1.heap.push (VV us)).push (YX C none (.ref s1.heap.objs.size))).get? (s1.heap.objs.size+1)=some (YX C none (.ref s1.heap.objs.size)):=by
  have:=Heap.get?_push_size (s1.heap.push (VV us)) (o:=YX C none (.ref s1.heap.objs.size)) rfl
  rwa [Heap.size_push]at this
 have I2:=I1.laid (a:=s1.heap.objs.size+1) (o:=.ext (XRaw (s1.heap.objs.size+1) C none)) (h':=(s1.heap.push (VV us)).push (YX C none (.ref s1.heap.objs.size))) (t':=s1.toks) (λb u z=>Heap.get?_push_of_some _ (Heap.get?_push_of_some _ z)) (Nat.le_succ _) (XRaw.ok ⟨_,hget⟩);have hq:=q (s1.heap.objs.size+1) (I1.hok.fresh (Nat.le_succ _));have r2:Vals (V.ref (s1.heap.objs.size+1)::vs) (Value.ref (s1.heap.objs.size+1)::us) := .cons rfl r
 have hl:(Value.ref (s1.heap.objs.size+1)::us++[]).length=ps.length:=by
  have e:=r2.length;rw [F.len _ _ _ _ hq]at e;rw [List.append_nil];exact e.symm
 have hbb:=hb _ (Value.ref (s1.heap.objs.size+1)::us) I2.kIn hl;rw [List.append_nil]at hbb;refine wpAny_call (codeAny_mono (F.run _ X.stack _ _ ⟨Value.ref (s1.heap.objs.size+1)::us,[]⟩ (Value.ref (s1.heap.objs.size+1)::us) _ _ E0 (hr.make C us []) (I2.env0.make C us []) hbb r2 hq) λr s' hq' => ?_);cases r with
 |error e=>exact(show False from hq').elim
 |ok fl=>
  cases fl with
  |ret u=>
   obtain⟨v,H',I3,rv,ev,d,hd,q3⟩:=I2.after hq';subst ev;obtain⟨t0,hx⟩:=(I3.hok _ _ hd).1;exact⟨rv,_,_,_,rfl,I3.kIn,hx,hR pins σ H' s' _ d I3 hd q3⟩
  |next=>exact False.elim hq'
  |brk=>exact False.elim hq'
  |cont=>exact False.elim hq'
end
end L2
namespace L2
open PySem PySem.Spec PySem.W PyProof.Rows
def CXd(P:Program)(w:World):CXT:=λouter H s E ev s'=>∃(ea:Addr) (cls a0:Value) (B:Heap) (H':Hp) (dO:Option Addr),ev = .ref ea/\s'.os=s.os/\AllBare s'.gens/\Heap.FlyingW B outer ea cls a0 s'.heap /\
 (∀b o,s.heap.get? b=some o->H b=none->b∉frs outer->B.get? b=some o)/\HOk P w H' B/\Same H H'/\(∀b o,s.heap.get? b=some o->H b=none->H' b=none)/\(∀b o,s.heap.get? b=some o->b∈frs outer->∃sl,s'.heap.get? b=some { o with slots:=sl })/\Vd ea dO s'.heap/\E cls dO H'
section
variable{P:Program}{w:World}{K:PySem.W.Frag}{mg:Str->Option Value}{base:Heap}{N:List Str}{qual:Str}{scope:Scope}{f:Addr}{cd:Value}{A:Around}{outer:List Env}{s:Shared}{H:Hp}{E:XK}
theorem HOk.off{H:Hp}{h:Heap}{a:Addr}{φ:Heap->Prop}(x:HOk P w H h)(ha:H a=some (.ext φ)):HOk P w (off H a) h:=λb o e=>by
 have hb:b≠a:=λz=>by rw [z,Zbu]at e;cases e
 rw [Q6 hb]at e;refine(x b o e).stay (λ_ _ _ q=>q) (λc q => ?_) λc xs q => ?_
 · rw [Q6 (λz=>by rw [z,ha]at q;cases q)];exact q
 · rw [Q6 (λz=>by rw [z,ha]at q;cases q)];exact q
theorem Zar{C:Addr}:Zdg (YU (CXd P w) P w K mg base N qual scope f cd A outer s H E) (λc d H'=>Same H H'/\E c d H') C:=by
 intro pins σ H1 s1 e d I hx ⟨hsm,hw⟩;show wpAny (model P w) _ (leaving _ (.ref e)) _ _ _;have hin:∀env∈((YU (CXd P w) P w K mg base N qual scope f cd A outer s H E).stack),∀b,env.frame=some b->b∈e::frs (YU (CXd P w) P w K mg base N qual scope f cd A outer s H E).stack:=λenv he b hb=>List.mem_cons_of_mem _ (List.mem_filterMap.mpr ⟨env,he,hb⟩)
 have hfr:=I.ok.frames;have hfun:=funFrames_hide I.stack hin;have hfree:=I.stkFree;have hsub:=I.stkSub;obtain⟨t0,hxe⟩:=(I.hok e _ hx).1;have hen:(hideAll s1.heap (e::frs (YU (CXd P w) P w K mg base N qual scope f cd A outer s H E).stack)).get? e=none:=hideAll_none _ List.mem_cons_self;refine wpAny_mono (Q5 (d:=some d) Zaz ⟨_,hxe,rfl⟩ (wpAny_leaving_firstW (Q:=λ_ s'=>∃h',s'={ s1 with heap:=h' }/\Heap.LeftW (hideAll s1.heap (e::frs (YU (CXd P w) P w K mg base N qual scope f cd A outer s H E).stack)) _ e (.ref C) (.ref t0) s1.heap h') (a0:=.ref t0) hfr hfun rfl hxe (λb o q=>of_hideAll _ q) hen rfl rfl rfl λh' hL=>⟨h',rfl,hL⟩)) (λ_ s' ⟨⟨h',es,hL⟩,hD⟩ => ?_) λ_ _ z=>z
 subst es;obtain⟨k1,⟨_,_,k2⟩,k3,k4⟩:=hL
 have hH:∀b o,s.heap.get? b=some o->H b=none->b≠e:=λb o q n z=>by
  have:=I.base.free b o q n (λz=>nomatch z);rw [z,hx]at this;cases this
 refine⟨e,.ref C,.ref t0,_,off H1 e,some d,rfl,I.os,I.bare,⟨k1,hen,k2,k3⟩,λb o q n hb => ?_,HOk.hide (I.hok.off hx) λb hb => ?_,hsm,λb o q n => ?_,λb o q hb => ?_,hD,hw⟩
 · have q1:=I.base.keep b o q n hb (λz=>nomatch z)
   refine hideAll_get _ q1 λz => ?_
   rcases List.mem_cons.mp z with e'|z
   · exact hH b o q n e'
   · rcases List.mem_cons.mp (hsub b z)with e'|z
     · have:=I.ok.above
       exact absurd (Heap.lt_size q) (Nat.not_lt.mpr (by rw [e'];exact this))
     · exact hb z
 · rcases List.mem_cons.mp hb with e'|z
   · rw [e',Zbu]
   · by_cases q:b=e
     · rw [q,Zbu]
     · rw [Q6 q];exact hfree b z
 · rw [Q6 (hH b o q n)]
   exact I.base.free b o q n (λz=>nomatch z)
 · obtain⟨sl,q1⟩:=I.base.slot b o q (I.ok.frf b hb) hb (λz=>nomatch z)
   obtain⟨_,o',q2,hnf⟩:=I.ok.funs.mem hb;have:o'=o:=Option.some.inj (q2.symm.trans q);subst this;obtain⟨sl2,q4⟩:=k4 b _ q1 (show ∀vs,({ cls:=o'.cls,dict:=o'.dict,data:=o'.data,slots:=sl }:Obj).data ≠ .fields vs from hnf);exact⟨sl2,q4⟩
theorem Qr:UB (CXd P w) (YU (CXd P w) P w K mg base N qual scope f cd A outer s H E) (λc d H'=>Same H H'/\E c d H'):=by
 intro pins σ H1 s1 ev s' I ⟨ea,cls,a0,B,H2,dO,e,hos,hb,hfl,hKB,hok,hsame,hfree,hup,hD,hS,hE⟩;subst e;show wpAny (model P w) _ (leaving _ (.ref ea)) _ _ _;refine wpAny_mono (Q5 Zaz hD (wpAny_leaves_onW (Q:=λ_ s2=>∃h2,s2={ s' with heap:=h2 }/\Heap.FlyingW B outer ea cls a0 h2/\s'.heap.UpToSlots h2) (outer:=outer) I.ok.frames rfl hfl λh2 y1 y2=>⟨h2,rfl,y1,y2⟩)) (λ_ s2 ⟨⟨h2,es,y1,y2⟩,hD2⟩ => ?_) λ_ _ z=>z
 subst es;refine⟨ea,cls,a0,B,H2,dO,rfl,hos.trans I.os,hb,y1,λb o q n hn => ?_,hok,hS,λb o q n => ?_,λb o q hn => ?_,hD2,hE⟩
 · refine hKB b o (I.base.keep b o q n hn (λz=>nomatch z)) (I.base.free b o q n (λz=>nomatch z)) λz => ?_
   rcases List.mem_cons.mp (I.stkSub b z)with e'|z
   · exact absurd (Heap.lt_size q) (Nat.not_lt.mpr (by rw [e'];exact I.ok.above))
   · exact hn z
 · obtain⟨sl,q1⟩:=I.base.any q n (λz=>nomatch z)
   exact hfree b _ q1 (I.base.free b o q n (λz=>nomatch z))
 · obtain⟨sl,q1⟩:=I.base.slot b o q (I.ok.frf b hn) hn (λz=>nomatch z)
   obtain⟨_,o',q2,hnf⟩:=I.ok.funs.mem hn;have:o'=o:=Option.some.inj (q2.symm.trans q);subst this;obtain⟨sl',q3⟩:=hup b _ q1 (List.mem_cons_of_mem _ hn);obtain⟨sl2,q4⟩:=y2 b _ q3 (show ∀vs,({ cls:=o'.cls,dict:=o'.dict,data:=o'.data,slots:=sl' }:Obj).data ≠ .fields vs from hnf);exact⟨sl2,q4⟩
end
end L2
namespace L2
open PySem PySem.Spec PySem.W PyProof.Rows
def Uj(e C:Addr)(dO:Option Addr)(h:Heap):Prop:=∃o:Obj,h.get? e=some o/\o.cls = .ref C/\o.dict=dO/\notCls o=true
theorem ZhI{B h:Heap}{l:List Env}{e C:Addr}{a0:Value}{dO:Option Addr}(f:Heap.FlyingW B l e (.ref C) a0 h)(d:Vd e dO h):Uj e C dO h:=by
 obtain⟨oe,vs,h3,hc,h4,_⟩:=f.first;obtain⟨o,h1,h2⟩:=d;obtain rfl:o=oe:=Option.some.inj (h1.symm.trans h3);exact⟨o,h1,hc,h2,by obtain⟨a,b,c,d⟩:=o;dsimp only at h4;subst h4;rfl⟩
section
variable{X:Cx}{pins:List (Addr×Obj)}{σ:St}{H H':Hp}{s s':Shared}{B hp:Heap}{ea:Addr}
theorem ZcK {φ:Heap->Prop} (I:Inv X pins σ H s) (hos:s'.os=s.os) (hbare:AllBare s'.gens) (hst:B.StaysIn s'.heap) (hea:B.get? ea=none) (hKB:∀b o,s.heap.get? b=some o->H b=none->b∉frs X.stack->B.get? b=some o)
 (hok:HOk X.prog X.w H' B) (hsame:Same H H') (hfree:∀b o,s.heap.get? b=some o->H b=none->H' b=none) (hup:∀b o,s.heap.get? b=some o->b∈frs X.stack->∃sl,s'.heap.get? b=some { o with slots:=sl })
 (hφ:∀g1 g2:Heap,φ g1->(∀o,g1.get? ea=some o->g2.get? ea=some o)->φ g2) (hxe:∃ob,s'.heap.get? ea=some ob) (hx:φ s'.heap) (hnf:ea∉frs X.stack):Inv X pins σ (upd H' ea (.ext φ)) s'/\H' ea=none:=by
 have hn:H' ea=none:=by
  cases q:H' ea with
  |none=>rfl
  |some o=>
   obtain⟨u,e⟩:=(hok ea o q).there;rw [hea]at e;cases e
 have ne':∀b o,H' b=some o->b≠ea:=λb o q z=>by rw [z,hn]at q;cases q
 have hup':∀b o,H' b=some o->upd H' ea (.ext φ) b=some o:=λb o q=>(ZI (ne' b o q)).trans q
 refine⟨I.call' (ch:=[]) hos ⟨λb o q n hb _=>hst b o (hKB b o q n hb),λb o q n hb _=>hup b o q hb,λb o q n _ => ?_,λb o q _ => ?_,λb xs q=>hup' b _ (hsame b _ q),λb ob u q=>hup' b _ (hsame b _ q),λb ps q=>⟨#[],by rw [hup' b _ (hsame b _ q)];simp⟩⟩ ?_ hbare (λb z=>nomatch z),hn⟩
 · by_cases hb:b∈frs X.stack
   · have hbe:b≠ea:=λz=>hnf (by rw [<-z];exact hb)
     rw [ZI hbe];exact hfree b o q n
   · have:=hKB b o q n hb
     have hbe:b≠ea:=λz=>by rw [z,hea]at this;cases this
     rw [ZI hbe];exact hfree b o q n
 · by_cases hb:b∈frs X.stack
   · obtain⟨sl,e⟩:=hup b o q hb
     exact⟨_,e⟩
   · cases n:H b with
     |none=>exact⟨o,hst b o (hKB b o q n hb)⟩
     |some u=>
      obtain⟨v,e⟩:=(hok b u (hsame b u n)).there;exact⟨v,hst b v e⟩
 · intro a o q
   by_cases ha:a=ea
   · subst ha
     rw [Z2]at q;cases q;exact⟨hx,hxe,hφ⟩
   · rw [ZI ha]at q
     exact(hok a o q).stay (λb u _ e=>hst b u e) (λb e=>hup' b _ e) λb xs e=>hup' b _ e
end
def ZmR(X:Cx)(E:XK)(e:Expr)(t:TE):Prop:=∀(pins:List (Addr×Obj))(s:Shared)(σ:St)(H:Hp)(Q:VK)(xe:Value->Shared->Prop),Inv X pins σ H s->t σ H Q ->
 (∀H2 s2 ev s',Inv X pins σ H2 s2->CXd X.prog X.w X.stack H2 s2 E ev s'->xe ev s')->wpAny (model X.prog X.w) X.A (eval e X.env) (EP X pins σ Q) xe s
def ZmS(X:Cx)(E:XK)(st:List Stmt)(t:TS):Prop:=∀(pins:List (Addr×Obj))(s:Shared)(σ:St)(H:Hp)(D:Ends)(xe:Value->Shared->Prop),Inv X pins σ H s->t D σ H ->
 (∀H2 s2 ev s',Inv X pins σ H2 s2->CXd X.prog X.w X.stack H2 s2 E ev s'->xe ev s')->wpAny (model X.prog X.w) X.A (execs st X.env) (SP X pins D) xe s
section
variable{X:Cx}{E:XK}
theorem Zfv {k:Nat} {f:Addr} {fd:FuncData} {ps:List Str} {sp:Sp} {dvs:List V} {ds:List Value} {x:Str} {p pos:Pos} {e:Expr} {es:List Expr} {t:TA}
 (F:FnOk X.prog X.w X.K X.mg X.base (CXd X.prog X.w) k f fd ps sp) (hr:Room k X.A) (hg:Gl X x) (hm:X.mg x=some (.ref f)) (hk:PySem.W.keepIn X.K (.ref f)=true) (hb:Binds X.K fd ps ds) (hd:Vals dvs ds) (h0:∀e s,¬X.xe e s) (ha:PA X (e::es) t)
 (hdb:(x == ("__debug__" : Str))=false:=by decide) (he:starEach (e::es) X.env=(false,eval e X.env)::starEach es X.env:=by rfl) (hpl:(backTo pos (starEach es X.env)).any (·.1)=false:=by rfl) :
 ZmR X E (.Call (.Name x p) (e::es) [] pos) (U5 sp dvs E t):=by
 intro pins s σ H Q xe I h hx;refine wpAny_Call_Name_kw (Uw I hg hm ?_ hdb);refine PySem.W.callWith_K (h₀:=X.base) I.ok.mod.kin hk (wpAny_mono (ha pos pins s σ H _ I h) (λus s1 ⟨vs,H1,I1,r,q⟩=>⟨I1.kIn,?_⟩) λe s z=>(h0 e s z).elim) he hpl;have r2:Vals (vs++dvs) (us++ds):=r.append hd;have hl:(us++ds).length=ps.length:=by rw [<-r2.length];exact F.len _ _ _ _ q
 refine wpAny_call (codeAny_mono (F.run X.A X.stack s1 H1 ⟨us,[]⟩ (us++ds) (vs++dvs) Q E hr I1.env0 (hb s1 us I1.kIn hl) r2 q) λr' s' hq => ?_);cases r' with
 |error ev=>exact hx H1 s1 ev s' I1 hq
 |ok fl=>
  cases fl with
  |ret u=>exact I1.after hq
  |next=>exact False.elim hq
  |brk=>exact False.elim hq
  |cont=>exact False.elim hq
theorem Zfw{e:Expr}{te:TE}{pos:Pos}(he:ZmR X E e te)(hs:swapsWith e none pos.line X.env=pure false:=by rfl):ZmS X E [.Expr e pos] (V7 te):=by
 intro pins s σ H D xe I h hx;refine wpAny_execs_cons (thn (Q:=SP X pins D) (wpAny_Expr_any (thn (he pins s σ H _ xe I h hx) λv s1 ⟨x,H1,I1,r1,q1⟩=>⟨σ,H1,I1,q1⟩) I.quiet hs) λf s1 q => ?_);cases f with
 |next=>exact wpAny_execs_nil q
 |ret v=>exact q
 |brk=>exact q
 |cont=>exact q
end
def ZiG(K:PySem.W.Frag)(G:Addr)(i:Nat)(tb:XK->TS)(ts:Addr->Addr->Option Addr->TS):TS:=λD σ H=>∃E:XK,tb E D σ H/\∀cls dO H',E cls dO H'->∃C,cls = .ref C/\ExCls K C/\exmOne K (.ref C) (.ref G)=some true /\
 ∀ea,H' ea=none->ts C ea dO (ZeF i D) (σ.set i (some (.ref ea))) (upd H' ea (.ext (Uj ea C dO)))
section
variable{X:Cx}{G:Addr}{g n:Str}{i:Nat}{body suite:List Stmt}{b₀:Stmt}{gp hpos pos:Pos}{tb:XK->TS}{ts:Addr->Addr->Option Addr->TS}
theorem ZhJ (hN:X.N.Nodup) (hi:X.N[i]? = some n) (hk:X.env.scope.names.lookup n=some .local) (hstk:X.stack=X.env::X.outer/\X.env.frame=some X.env.locals) (hg:Gl X g) (hm:X.mg g=some (.ref G))
 (hb:∀E,ZmS X E body (tb E)) (hs:∀C ea dO,ExCls X.K C->PSs (X.suite ea) (b₀::suite) (ts C ea dO)) (hdb:(g == ("__debug__" : Str))=false:=by decide) :
 PS X (.Try body [.ExceptHandler (some (.Name g gp)) (some n) (b₀::suite) hpos] [] [] pos) (ZiG X.K G i tb ts):=by
 intro pins s σ H D I ⟨E,h⟩;refine wpAny_Try_except ?_;refine thn (hb E pins s σ H D _ I h.1 ?_) λfl s1 q => ?_
 · intro H2 s2 ev s' I2 ⟨ea,cls,a0,B,H',dO,e,hos,hbare,hfl,hKB,hok,hsame,hfree,hup,hD,hE⟩
   subst e;obtain⟨C,rfl,T,hx,hts⟩:=h.2 cls dO H' hE;have hfr:X.A.frames=some (X.env::X.outer):=by rw [<-hstk.1];exact I.ok.frames
   have hfl':Heap.FlyingW B (X.env::X.outer) ea (.ref C) a0 s'.heap:=hstk.1▸hfl;have hea:B.get? ea=none:=hfl.2.1
   have hnf:ea∉frs X.stack:=λz=>by
    obtain⟨_,o,h1,h2⟩:=hfl.2.2.1.mem z;obtain⟨oe,vs,h3,_,h4,_⟩:=hfl.first;rw [h1]at h3;cases h3;exact h2 vs h4
   have frnf:∀b o,s2.heap.get? b=some o->b∈frs X.stack->∀vs,o.data ≠ .fields vs:=λb o q z=>by
    obtain⟨_,o',h1,h2⟩:=I2.stack.mem z;have:o'=o:=Option.some.inj (h1.symm.trans q);exact this▸h2
   have at_:∀{hp:Heap}{g':Array GenState}{d':Drawn}{t':Nat},Heap.FlyingW B (X.env::X.outer) ea (.ref C) a0 hp->Vd ea dO hp->s'.heap.UpToSlots hp->AllBare g'->Inv X pins σ (upd H' ea (.ext (Uj ea C dO))) ⟨hp,g',d',t',s'.os⟩/\H' ea=none:=λ{hp g' d' t'} f fd u hg'=>by
    refine ZcK (φ:=Uj ea C dO) (s':=⟨hp,g',d',t',s'.os⟩) I2 hos hg' f.1 hea hKB hok hsame hfree (λb o q z => ?_) (λg1 g2 ⟨o,q1,q2⟩ k=>⟨o,k o q1,q2⟩) (let⟨o,q,_⟩:=f.there;⟨o,q⟩) (ZhI f fd) hnf;obtain⟨sl,q1⟩:=hup b o q z;obtain⟨sl2,q2⟩:=u b _ q1 (show ∀vs,({ o with slots:=sl }:Obj).data ≠ .fields vs from frnf b o q z);exact⟨sl2,q2⟩
   refine wpAny_mono (Q5 ZbX hD (wpAny_looks_onW (Q:=λ_ s2=>∃h2,s2={ s' with heap:=h2 }/\Heap.HeldW B (X.env::X.outer) ea (.ref C) a0 X.env.locals h2/\s'.heap.UpToSlots h2) hfr hstk.2 hfl' λh4 hh4 u4=>⟨h4,rfl,hh4,u4⟩)) (λ_ s4 ⟨⟨h4,es4,hh4,u4⟩,hD4⟩ => ?_) λ_ _ z=>z
   subst es4;refine wpAny_mono (Q5 Zab hD4 (wpAny_landsW (Q:=λ_ s2=>∃h2,s2={ s' with heap:=h2 }/\Heap.FlyingW B (X.env::X.outer) ea (.ref C) a0 h2/\h4.UpToSlots h2) hh4 λh5 hf5 u5=>⟨h5,rfl,hf5,u5⟩)) (λ_ s5 ⟨⟨h5,es5,hf5,u5⟩,hD5⟩ => ?_) λ_ _ z=>z
   subst es5;obtain⟨I5,hn⟩:=at_ (hp:=h5) (g':=s'.gens) (d':=s'.drawn) (t':=s'.toks) hf5 hD5 (u4.trans u5) hbare;refine wpAny_handleBy_cons (codeAny_handlers_test (Uw (I5.suite ea) hg hm ?_ hdb)) (by intro q;cases q);refine(exm_one (M:=model X.prog X.w) (K:=X.K) I5.kIn (Qp (hf5.there)) hx).here ?_;show codeAny (model X.prog X.w) (X.A.mark (some (.ref ea))) _ _ _;refine codeAny_handlers_suite_as (wpAny_mono (Q5 Zab hD5 (lands_againW (Q:=λ_ s2=>∃h2,s2={ s' with heap:=h2 }/\Heap.FlyingW B (X.env::X.outer) ea (.ref C) a0 h2/\h5.UpToSlots h2) hf5 λh6 hf6 u6=>⟨h6,rfl,hf6,u6⟩)) (λ_ s6 ⟨⟨h6,es6,hf6,u6⟩,hD6⟩ => ?_) λ_ _ z=>z)
   subst es6;obtain⟨I6,_⟩:=at_ (hp:=h6) (g':=s'.gens) (d':=s'.drawn) (t':=s'.toks) hf6 hD6 ((u4.trans u5).trans u6) hbare;refine Zbp I6 hN hi (.inl hk) (v:=.ref ea) (show RelV (.ref ea) (.ref ea)from rfl) (λs7 I7 => ?_) (.inr hk);refine wpAny_mono (hs C ea dO T pins s7 _ _ (ZeF i D) (I7.suite ea) (hts ea hn)) (λfl s8 q8 => ?_) λ_ _ z=>z.elim
   cases fl with
   |next=>
    obtain⟨σ',H8,I8,q⟩:=q8;exact Zan (I8.unsuite I.ok) hN hi hk λs9 I9=>⟨_,H8,I9,q⟩
   |brk=>
    obtain⟨σ',H8,I8,q⟩:=q8;exact Zan (I8.unsuite I.ok) hN hi hk λs9 I9=>⟨_,H8,I9,q⟩
   |cont=>
    obtain⟨σ',H8,I8,q⟩:=q8;exact Zan (I8.unsuite I.ok) hN hi hk λs9 I9=>⟨_,H8,I9,q⟩
   |ret u=>
    obtain⟨v,σ',H8,I8,r,q⟩:=q8;exact Zan (I8.unsuite I.ok) hN hi hk λs9 I9=>⟨v,_,H8,I9,r,q⟩
 · cases fl with
   |next=>exact wpAny_execs_nil q
   |ret v=>exact q
   |brk=>exact q
   |cont=>exact q
end
def ZiH(K:PySem.W.Frag)(e C:Addr)(dO:Option Addr):List V->Hp->VK->Prop:=λxs H Q=>∃c cv b,xs=[.ref e,c]/\(∀v,RelV c v->v=cv)/\H e=some (.ext (Uj e C dO))/\kitOne K (.ref C) cv=some b/\Q (.bl b) H
theorem ZgD{X:Cx}{K:PySem.W.Frag}{e C:Addr}{dO:Option Addr}(T:ExCls K C)(hK:X.K=K:=by rfl):YI X (.builtin "isinstance") (ZiH K e C dO):=by
 subst hK;intro pins s σ H xs us Q I rs h;obtain⟨c,cv,b,rfl,hc,he,hk,q⟩:=h;obtain⟨u,w',rfl,rx,rc⟩:=QR rs;have ec:=hc _ rc;subst ec;cases(show u=Value.ref e from rx);obtain⟨o,h1,h2,_⟩:=(I.hok e _ he).1;exact PySem.W.kia_one (Zdf T) I.kIn ⟨o,h1,h2⟩ hk (λz=>nomatch z) λtk=>⟨.bl b,H,I.tok tk,rfl,q⟩
def ZgE(K:PySem.W.Frag)(e C:Addr)(dO:Option Addr):List V->Hp->VK->Prop:=λxs H Q=>∃tp vs cvs b,xs=[.ref e,.ref tp]/\H e=some (.ext (Uj e C dO))/\SqT K H tp vs/\(∀us,Vals vs us->us=cvs)/\PySem.W.kitAny K (.ref C) cvs=some b/\Q (.bl b) H
theorem ZhK{X:Cx}{K:PySem.W.Frag}{e C:Addr}{dO:Option Addr}(T:ExCls K C)(hK:X.K=K:=by rfl):YI X (.builtin "isinstance") (ZgE K e C dO):=by
 subst hK;intro pins s σ H xs us Q I rs h;obtain⟨tp,vs,cvs,b,rfl,he,hq,hc,hk,q⟩:=h;obtain⟨u,w',rfl,rx,rc⟩:=QR rs;cases(show u=Value.ref e from rx);cases(show w'=Value.ref tp from rc);obtain⟨o',h1,h2,_⟩:=(I.hok e _ he).1;obtain⟨its,rv,⟨o,e1,hcl,n,hd⟩,_⟩:=I.tuple hq;cases hc its rv;obtain⟨cl,dd,da,sl⟩:=o;cases hcl;cases hd;exact PySem.W.kia_tup (Zdf T) I.kIn ⟨o',h1,h2⟩ e1 hk (λz=>nomatch z) λtk=>⟨.bl b,H,I.tok tk,rfl,q⟩
def ZiI(K:PySem.W.Frag)(ea C d:Addr)(ta:TE)(f:Str):TE:=λσ H Q=>ta σ H λx H1=>∃fs v,hasDictIn K C=true/\findIn K (.ref C) f=some none/\x = .ref ea/\H1 ea=some (.ext (Uj ea C (some d)))/\H1 d=some (.xd fs)/\fs.lookup f=some v/\Q v H1
theorem ZhL{X:Cx}{ea C d:Addr}{e:Expr}{f:Str}{pos:Pos}{ta:TE}(he:PE X e ta)(T:ExCls X.K C)(hb:attributeBase e f X.env (eval e X.env)=eval e X.env:=by rfl):PE X (.Attribute e f pos) (ZiI X.K ea C d ta f):=by
 intro pins s σ H Q I h;refine Zeu hb (thn (he pins s σ H _ I h) λu s1 ⟨x,H1,I1,rx,fs,v,hh,hn,ex,ea',ed,l,q⟩ => ?_);subst ex;cases(show u=Value.ref ea from rx);obtain⟨o,h1,h2,h3,h4⟩:=(I1.hok ea _ ea').1;obtain⟨mA,ns,r⟩:=(show ObjOk X.prog X.w H1 s1.heap d (.xd fs)from I1.hok d _ ed)
 obtain⟨od,ho,hl⟩:=ZbK ns;obtain⟨u',hu,ru⟩:=RelO.some_of (v:=v) (o:=mA f) (by rw [<-l];exact r f);have J:PySem.W.InstAt s1.heap ea o C (some od):=⟨h1,h2,h4,by rw [h3];exact ho⟩
 exact ZhF I1.kIn J T.ga T.gt T.mb (PySem.W.findObj_own hh hn rfl (by rw [hl,hu])) (ZbL ru) ⟨v,H1,I1.tok _,ru,q⟩
end L2
namespace DL
open PySem PySem.Spec L2
abbrev XC:=String×Nat
def Xo(cA:Kn)(c:XC)(E:XK)(H':Hp):Prop:=∀d,H' d=none->E (.ref (cA.c c.1)) (some d) (upd H' d (.xd [(Str.ofString "row",.int c.2)]))
def spJ(C:Addr)(f:Str):Sp:=λvs H Q _=>∃ea,∃n:Nat,vs=[.ref ea,.int n]/\n<10 ^ 10/\H ea=some (.ext (XRaw ea C none))/\∀d,H d=none->Q .non (upd (upd H d (.xd [(f,.int n)])) ea (.ext (XRaw ea C (some d))))
theorem ZhM{H:Hp}{a d:Addr}{o o1 o2:HO}(h:H a=none)(hd:d≠a):off (upd (upd (upd H a o1) d o) a o2) a=upd H d o:=by
 funext b
 unfold off upd
 by_cases h1:b=a
 · subst h1
   rw [if_pos rfl,if_neg (Ne.symm hd)];exact h.symm
 · simp [h1]
def spX(cA:Kn)(n:Nat)(m:List D->Option D)(x:List D->Option XC):Sp:=λvs H Q E=>spD cA n m vs H Q E \/
 ∃(av:Addr->Prop) (ds:List D) (c:XC),(∀a,av a->H a≠none)/\RepL cA av H ds vs/\ds.length=n/\x ds=some c/\∀H',Same H H'->Xo cA c E H'
def ZjU(N:Nat)(χ:Env->Option XC)(ds:List D):Option XC:=χ (ds.map some++List.replicate (N-ds.length) none)
def VX(G:Cn)(ow:List Nat)(E:XK)(ts:TS)(χ:Env->Option XC):Prop:=
 ∀H0 av A σ H δ,ER G ow H0 av A σ H δ->∀c,χ δ=some c->(∀H',Same H0 H'->Xo G.1 c E H')->∀De:Ends,ts De σ H
def VXe(G:Cn)(ow:List Nat)(E:XK)(te:TE)(χ:Env->Option XC):Prop:=
 ∀H0 av A σ H δ,ER G ow H0 av A σ H δ->∀c,χ δ=some c->(∀H',Same H H'->Xo G.1 c E H')->∀Q:VK,te σ H Q
def VXs(G:Cn)(ow:List Nat)(E:XK)(ts:TS)(χ:Env->Option XC):Prop:=
 ∀H0 av A σ H δ,ER G ow H0 av A σ H δ->∀c,χ δ=some c->(∀H',Same H H'->Xo G.1 c E H')->∀De:Ends,ts De σ H
section
variable{cA:Kn}{G:Cn}{ow ow1 owB owC owN:List Nat}{E:XK}
def xNever(_:Env):Option XC:=none
theorem Ve{ts:TS}:VX G ow E ts xNever:=λH0 av A σ H δ R c e=>nomatch e
def Uk(c:String)(α:Env->Option (List D))(δ:Env):Option XC:=match α δ with
 |some [.int n]=>if 0<=n/\n<10 ^ 10 then some (c,n.toNat)else none
 |_=>none
theorem Zdh{C:Addr}{t:TA}{q:Ql}{α:Env->Option (List D)}(c:String)(hC:C=G.1.c c)(h:VA G ow t q α):VX G ow E (ZeG E C (spJ C (Str.ofString "row")) t) (Uk c α):=λH0 av A σ H δ R c' e k De=>by
 unfold Uk at e
 split at e
 · rename_i n he
   by_cases hz:0<=n/\n<10 ^ 10
   · rw [if_pos hz]at e
     cases e;subst hC;refine h H0 av A σ H δ R _ he _ λvs H1 s1 r1 => ?_
     obtain⟨v,r,rfl,rv,rr⟩:=r1.any;obtain rfl:r=[]:=rr;obtain rfl:v = .int n:=rv;refine⟨show 1<=8 by decide,λea hea=>⟨ea,n.toNat,by rw [Int.toNat_of_nonneg hz.1],by omega,Z2,λd hd=>⟨rfl,d,Z2,?_⟩⟩⟩;have hde:d≠ea:=λz=>by rw [z,Z2]at hd;cases hd
     rw [ZI hde]at hd;rw [ZhM hea hde];exact k H1 (R.same.trans s1) d hd
   · rw [if_neg hz]at e;cases e
 · cases e
def xIf(τ:Env->Option Bool)(χ ψ:Env->Option XC)(δ:Env):Option XC:=match τ δ with
 |some true=>χ δ
 |some false=>ψ δ
 |none=>none
theorem ZiJ{c:TT}{t u:TS}{τ:Env->Option Bool}{χ ψ:Env->Option XC}(hc:VT G ow c τ)(h1:VX G ow E t χ)(h2:VX G ow E u ψ):VX G ow E (JP c t u) (xIf τ χ ψ):=λH0 av A σ H δ R c' e k De=>by
 unfold xIf at e;cases he:τ δ with
 |none=>rw [he]at e;cases e
 |some b=>
  rw [he]at e;refine hc H0 av A σ H δ R b he _ λH' s => ?_
  cases b with
  |true=>exact X5 (h1 H0 av A σ H' δ (R.mono s) c' e k De)
  |false=>exact Ua (h2 H0 av A σ H' δ (R.mono s) c' e k De)
def ZX(χ:Env->Option XC)(φ:Env->Option Out)(ψ:Env->Option XC)(δ:Env):Option XC:=match χ δ with
 |some c=>some c
 |none=>match φ δ with
  |some (.nx δ1)=>ψ δ1
  |_=>none
theorem Xl{t u:TS}{χ ψ:Env->Option XC}{φ:Env->Option Out}(h1:VX G ow E t χ)(hv:VS G ow ow1 owB owC t φ)(h2:VX G ow1 E u ψ):VX G ow E (QN t u) (ZX χ φ ψ):=λH0 av A σ H δ R c e k De=>by
 unfold ZX at e;cases hx:χ δ with
 |some c'=>
  rw [hx]at e;cases e;exact h1 H0 av A σ H δ R c hx k _
 |none=>
  rw [hx]at e;dsimp only at e;cases hp:φ δ with
  |none=>rw [hp]at e;cases e
  |some o=>
   rw [hp]at e;cases o with
   |nx δ1=>exact hv H0 av A σ H δ R _ hp _ λA' σ' H' R'=>h2 H0 av A' σ' H' δ1 R' c e k De
   |rt d=>cases e
   |bk δ1=>cases e
   |ct δ1=>cases e
theorem VXs.vx{ts:TS}{χ:Env->Option XC}(h:VXs G ow E ts χ):VX G ow E ts χ:=λH0 av A σ H δ R c e k De=>h H0 av A σ H δ R c e (λH' s=>k H' (R.same.trans s)) De
theorem Zf6{te:TE}{χ:Env->Option XC}(h:VXe G ow E te χ):VXs G ow E (V7 te) χ:=λH0 av A σ H δ R c e k De=>h H0 av A σ H δ R c e k _
theorem Zcv{te:TE}{χ:Env->Option XC}{g:TG}(h:VXe G ow E te χ):VXs G ow E (UA te g) χ:=λH0 av A σ H δ R c e k De=>h H0 av A σ H δ R c e k _
theorem YY{n:Nat}{m:List D->Option D}{x:List D->Option XC}{t:TA}{q:Ql}{α:Env->Option (List D)}{E0:XK}(dds:List D)(hd:dds.all ZW=true)(h:VA G ow t q α):VE G ow (U5 (spX G.1 n m x) (dds.map val) E0 t) q.cq (Zl n m dds α):=λH0 av A σ H δ R d e Q k=>by
 unfold Zl at e;cases he:α δ with
 |none=>rw [he]at e;cases e
 |some ds=>
  rw [he]at e;dsimp only at e
  by_cases hz:(ds++dds).length=n
  · rw [if_pos hz]at e
    refine h H0 av A σ H δ R ds he _ λvs H1 s1 r1 => .inl ?_
    have E1:=R.mono s1;cases q with
    |cl=>exact⟨AV av A,ds++dds,d,E1.avl,r1.cl.append (.of_vals hd),hz,e,λv H' s r=>k v H' (s1.trans s) r.t⟩
    |tp=>exact⟨av,ds++dds,d,E1.avH,r1.any.append (.of_vals hd),hz,e,λv H' s r=>k v H' (s1.trans s) r.t⟩
    |dt=>exact⟨av,ds++dds,d,E1.avH,r1.any.append (.of_vals hd),hz,e,λv H' s r=>k v H' (s1.trans s) r.t⟩
  · rw [if_neg hz]at e;cases e
def YB(n:Nat)(x:List D->Option XC)(dds:List D)(α:Env->Option (List D))(δ:Env):Option XC:=match α δ with
 |some ds=>if(ds++dds).length=n then x (ds++dds)else none
 |none=>none
theorem UK{n:Nat}{m:List D->Option D}{x:List D->Option XC}{t:TA}{q:Ql}{α:Env->Option (List D)}(dds:List D)(hd:dds.all ZW=true)(h:VA G ow t q α):VXe G ow E (U5 (spX G.1 n m x) (dds.map val) E t) (YB n x dds α):=λH0 av A σ H δ R c e k Q=>by
 unfold YB at e;cases he:α δ with
 |none=>rw [he]at e;cases e
 |some ds=>
  rw [he]at e;dsimp only at e
  by_cases hz:(ds++dds).length=n
  · rw [if_pos hz]at e
    refine h H0 av A σ H δ R ds he _ λvs H1 s1 r1 => .inr ⟨av,ds++dds,c,(R.mono s1).avH,r1.any.append (.of_vals hd),hz,e,λH' s=>k H' (s1.trans s)⟩
  · rw [if_neg hz]at e;cases e
end
section
variable{P:Program}{w:World}{K:PySem.W.Frag}{mg:Str->Option Value}{base:Heap}{cA:Kn}
theorem Zhg {x qual:Str} {st:Stmt} {f:Addr} {fd:FuncData} {N ps:List Str} {k:Nat} {φ:Env->Option Out} {χ:Env->Option XC} {body:List Stmt} {scope:Scope} {n:Nat} {m:List D->Option D} {xm:List D->Option XC} (F:FunX K x qual st f fd) (S:FnScope N ps (defScope st)) (hS:defScope st=scope) (hB:defBody st=body)
 (hbody:∀(cdv:Value)(A:Around)(outer:List PySem.Env)(s:Shared)(H:Hp)(E:XK),Room k (A.deeper (PyProof.Rows.envOfC qual scope s.heap.objs.size f cdv)) ->
   ∃t,PSs (YU (CXd P w) P w K mg base N qual scope f cdv A outer s H E) body t/\∃owN,VS ⟨cA,λ_=>none⟩ [] owN [] [] t φ/\VX ⟨cA,λ_=>none⟩ [] (λc d H'=>Same H H'/\E c d H') t χ) (hm:m=run N.length φ) (hx:xm=ZjU N.length χ) (hn:ps.length=n) :
 FnOk P w K mg base (CXd P w) (k+1) f fd ps (spX cA n m xm):=by
 subst hS hB hm hx hn;obtain⟨oc,od,dV,kV,doc,pm,an,cdv,ct,osl,rfl,lk,hcd⟩:=F.ex;refine Zg9 lk hcd S (λvs H Q E h => ?_) λA outer s H vs Q E hr h => ?_
 · rcases h with⟨av,ds,d,_,r,hl,_⟩|⟨av,ds,c,_,r,hl,_⟩
   · rw [<-r.length,hl]
   · rw [<-r.length,hl]
 · obtain⟨t,ht,owN,hv,hX⟩:=hbody cdv A outer s H E hr
   refine⟨t,ht,?_⟩;rcases h with⟨av,ds,d,ha,r,hl,hm,q⟩|⟨av,ds,c,ha,r,hl,hm,q⟩
   · unfold run at hm
     cases hφ:φ (ds.map some++List.replicate (N.length-ds.length) none)with
     |none=>rw [hφ]at hm;cases hm
     |some o=>
      rw [hφ]at hm;refine hv H av _ _ H _ (ZaE ha r) o hφ _ ?_;cases o with
      |nx δ'=>cases hm;exact λA' σ' H' E'=>q .non H' E'.same rfl
      |rt d'=>cases hm;exact λv H' s' r'=>q v H' s' r'
      |bk δ'=>cases hm
      |ct δ'=>cases hm
   · exact hX H av _ _ H _ (ZaE ha r) c hm (λH' s' d hd=>⟨s'.trans (Ym hd),q H' s' d hd⟩) _
end
end DL
namespace DL
open PySem PySem.Spec L2
def ZjV(c:String):List (List (String×Bool))->Option (List Bool)
 | []=>some []
 |t::r=>match t.lookup c,ZjV c r with
  |some b,some bs=>some (b::bs)
  |_,_=>none
def Ul(K:PySem.W.Frag)(cA:Kn)(v:V)(tab:List (String×Bool)):Prop:=∀c b,tab.lookup c=some b->∃cv,(∀u,RelV v u->u=cv)/\kitOne K (.ref (cA.c c)) cv=some b
inductive IsiEs(K:PySem.W.Frag)(cA:Kn):List V->List (List (String×Bool))->Prop where
 |nil:IsiEs K cA [] []
 |cons {v:V} {t:List (String×Bool)} {vs:List V} {ts:List (List (String×Bool))}:Ul K cA v t->IsiEs K cA vs ts->IsiEs K cA (v::vs) (t::ts)
section
variable{cA:Kn}{G:Cn}{ow owB owC:List Nat}
theorem ER.none{H0 H:Hp}{av:Addr->Prop}{A:Nat->Option Addr}{σ:L2.St}{δ:Env}{i:Nat}{x:Option V}(R:ER G ow H0 av A σ H δ)(hi:ow.contains i=false)(hn:G.2 i=Option.none):ER G ow H0 av A (σ.set i x) H (δ.set i Option.none):=
 ⟨R.same,R.avd,R.fr,R.inj,R.live,R.dom,R.dom',by rw [List.length_set,List.length_set];exact R.len,R.pin,(λj v' e=>by
   have q:j≠i:=λz=>by rw [z,hn]at e;cases e
   rw [List.getElem?_set_ne (Ne.symm q)];exact R.kept j v' e),λj d e=>by
   have hj:j≠i:=by
    intro z;subst z
    by_cases hl:j<δ.length
    · rw [List.getElem?_set_self hl]at e;cases e
    · rw [List.getElem?_eq_none (by rw [List.length_set];omega)]at e;cases e
   rw [List.getElem?_set_ne (Ne.symm hj)]at e;obtain⟨v,h1,h2⟩:=R.var j d e;exact⟨v,by rw [List.getElem?_set_ne (Ne.symm hj)];exact h1,h2⟩⟩
end
end DL
namespace L2
open PySem PySem.Spec PyProof.Rows
section
variable{X:Cx}
def ZiK(K:PySem.W.Frag):R2:=λx y H Q=>∃l b xs zs,x = .ref l/\y = .ref b/\SqL K H l xs/\SqL K H b zs/\xs.length+zs.length<=sizeLine/\∀p,H p=none->Q (.ref p) (upd H p (.lst (xs++zs)))
theorem ZhN:OpR X (binaryOp .Add) (ZiK X.K):=by
 intro pins s σ H x y v u Q I rx ry h;obtain⟨l,b,xs,zs,rfl,rfl,hH,hB,hz,q⟩:=h;cases rx;cases ry;obtain⟨its,r,pl,_⟩:=I.list hH;obtain⟨its2,r2,pl2,_⟩:=I.list hB;obtain⟨⟨c1,d1,da1,sl1⟩,n1,g1,e1,e2,e3⟩:=pl;obtain⟨⟨c2,d2,da2,sl2⟩,n2,g2,f1,f2,f3⟩:=pl2;dsimp only at e1 e2 e3 f1 f2 f3;subst e1 e2 e3 f1 f2 f3;have hl:=r.length;have hl2:=r2.length;refine concat_meets ⟨_,g1,rfl⟩ ⟨_,g2,rfl⟩ noFill_list_add seq_list_add PySem.F.slot_list_add PySem.F.entry_list_add (PySem.F.args_list_add_2 _ _) (list_addW l b its.toArray its2.toArray n1 n2 none none sl1 sl2 (by rw [List.size_toArray,List.size_toArray];omega)) ⟨g1,g2,?_⟩
 have ea:its.toArray++its2.toArray=(its++its2).toArray:=by simp
 rw [ea];exact⟨.ref _,_,I.lnew (t':=s.toks) (r.append r2) (by rw [List.length_append];omega),rfl,q _ I.fresh⟩
def ZiL(K:PySem.W.Frag):R2:=λx y H Q=>∃l k xs,x = .ref l/\y = .int k/\SqL K H l xs /\ -(2 ^ 63)<=k/\k<2 ^ 63/\xs.length*k.toNat<=sizeLine/\∀p,H p=none->Q (.ref p) (upd H p (.lst (List.replicate k.toNat xs).flatten))
theorem ZhO:OpR X (binaryOp .Mult) (ZiL X.K):=by
 intro pins s σ H x y v u Q I rx ry h;obtain⟨l,k,xs,rfl,rfl,hH,h1,h2,hz,q⟩:=h;cases rx;obtain⟨t,rfl⟩:=ry;obtain⟨its,r,pl,_⟩:=I.list hH;obtain⟨⟨c1,d1,da1,sl1⟩,n1,g1,e1,e2,e3⟩:=pl;dsimp only at e1 e2 e3;subst e1 e2 e3;have hl:=r.length;have hlen:its.toArray.size*k.toNat<=sizeLine:=by rw [List.size_toArray,<-hl];exact hz
 have hcap:¬its.toArray.size*k.toNat>(2 ^ 63-1) / 8:=by
  have:(sizeLine:Nat)<=(2 ^ 63-1) / 8:=by decide
  omega
 have hfit:¬(!Builtin.List.listFitsIndex k)=true:=by
  rw [fitsIndex_both h1 h2];exact Bool.false_ne_true
 have hlong:¬Builtin.List.listTooLong (its.toArray.size*k.toNat)=true:=by
  rw [Zc3 hlen];exact Bool.false_ne_true
 have hnew:List.foldl (λx1 x2=>x1++x2) #[] (List.replicate (if its.toArray.isEmpty=true then 0 else k.toNat) its.toArray)=(List.replicate k.toNat its).flatten.toArray:=by
  have f0:∀m:Nat,List.foldl (λx1 x2=>x1++x2) #[] (List.replicate m its.toArray)=(List.replicate m its).flatten.toArray:=λm=>by
   have:=ZbQ its m [];rw [List.nil_append]at this;exact this
  rw [f0];cases its with
  |nil=>simp
  |cons a r'=>rw [if_neg (by simp)]
 refine wpAny_binaryOp_repeat_ref (T:="list") (U:="int") (by decide) ⟨_,g1,rfl⟩ (λs'=>typeIs_int s' k t) noFill_list_mul F.fills_int_mul F.slot_int_rmul repeat_list F.slot_int_index.lookup
  (call_meets F.slot_int_rmul (typeIs_int s k t) F.entry_int_rmul (F.args_int_rmul_2 _ _) (lm_int_rmul_list_any k t l its.toArray n1 none sl1)
    ⟨g1,rfl,⟨_,g1,rfl⟩,call_meets F.slot_list_mul ⟨_,g1,rfl⟩ F.entry_list_mul (F.args_list_mul_2 _ _) (lm_list_mul_any l its.toArray n1 none sl1 k t hfit hcap hlong) ⟨g1,?_⟩⟩)
 rw [hnew];exact⟨.ref _,_,I.lnew (t':=s.toks) (r.rep k.toNat) (by rw [Zhu,Nat.mul_comm];exact hz),rfl,q _ I.fresh⟩
def Q7(K:PySem.W.Frag):R2:=λx y H Q=>rI0 (λi j => .int (i+j)) x y H Q\/rAddS x y H Q\/ZiK K x y H Q
theorem ZhP:OpR X (binaryOp .Add) (Q7 X.K):=op_add.or (op_addS.or ZhN)
theorem ZY{K:PySem.W.Frag}(hK:X.K=K:=by rfl):OpR X (binaryOp .Add) (Q7 K):=hK▸ZhP
def Zhh(K:PySem.W.Frag):R2:=λx y H Q=>rI DL.CMulW (λi j => .int (i*j)) x y H Q\/DL.rMulS x y H Q\/ZiL K x y H Q
theorem ZhQ:OpR X (binaryOp .Mult) (Zhh X.K):=DL.op_mulW.or (DL.op_mulS.or ZhO)
theorem ZgF{K:PySem.W.Frag}(hK:X.K=K:=by rfl):OpR X (binaryOp .Mult) (Zhh K):=hK▸ZhQ
end
end L2
namespace DL
open PySem PySem.Spec L2
section
variable{cA:Kn}{G:Cn}{ow owB owC:List Nat}
theorem ZeH{i:Addr->Prop}{H:Hp}{p:Addr}{xs:List D}{vs:List V}(hi:∀a,i a->H a≠none)(hp:H p=none)(l:RepL cA i H xs vs):Rep cA i (upd H p (.lst vs)) (.lst xs) (.ref p):=by
 unfold Rep;exact⟨p,vs,rfl,λz=>(hi p z hp).elim,SqL.of Z2,l.same (Ym hp)⟩
def addX:D->D->Option D
 | .lst a,.lst b=>if a.length+b.length<=sizeLine then some (.lst (a++b))else none
 |x,y=>addD x y
theorem ZV:Xx cA (Q7 cA.K) addX:=λt t' i H x y vx vy d hi hx hy e Q k=>by
 have old:addD x y=some d->Q7 cA.K vx vy H Q:=λe=>by
  rcases(Zjl (cA:=cA) t t' i H x y vx vy d hi hx hy e Q k)with h|h|h
  · exact .inl h
  · exact .inr (.inl h)
  · obtain⟨l,b,xs,zs,e1,e2,h1,h2,h3,h4⟩:=h
    exact .inr (.inr ⟨l,b,xs,zs,e1,e2,SqL.of h1,SqL.of h2,h3,h4⟩)
 cases x with
 |lst a=>
  cases y with
  |lst b=>
   dsimp only [addX]at e
   by_cases hz:a.length+b.length<=sizeLine
   · rw [if_pos hz]at e
     cases e;obtain⟨a1,vs1,rfl,_,r1,l1⟩:=hx;obtain⟨a2,vs2,rfl,_,r2,l2⟩:=hy;exact .inr (.inr ⟨a1,a2,vs1,vs2,rfl,rfl,r1,r2,by rw [<-l1.length,<-l2.length];exact hz,λp hp=>k _ _ (Ym hp) (ZeH hi hp (l1.append l2))⟩)
   · rw [if_neg hz]at e;cases e
  |_=>exact old e
 |_=>exact old e
theorem RepL.rep{av:Addr->Prop}{H:Hp}{xs:List D}{vs:List V}(l:RepL cA av H xs vs):∀n:Nat,RepL cA av H (List.replicate n xs).flatten (List.replicate n vs).flatten
 |0 => .nil
 |n+1=>by
  rw [List.replicate_succ,List.replicate_succ,List.flatten_cons,List.flatten_cons];exact l.append (RepL.rep l n)
def mulX:D->D->Option D
 | .int i,.int j=>if CMulW i j then some (.int (i*j))else none
 | .str a,.int n=>if n<2 ^ 63 /\ -(2 ^ 63)<=n/\a.length*n.toNat<=sizeLine then some (.str (Qb a n))else none
 | .lst a,.int n=>if n<2 ^ 63 /\ -(2 ^ 63)<=n/\a.length*n.toNat<=sizeLine then some (.lst (List.replicate n.toNat a).flatten)else none
 |_,_=>none
theorem ZeI:Xx cA (Zhh cA.K) mulX:=λt t' i H x y vx vy d hi hx hy e Q k=>by
 cases x<;>cases y<;>first|(cases e;done)|skip
 · cases(show vx=_ from hx);cases(show vy=_ from hy)
   rename_i a b;dsimp only [mulX]at e
   by_cases hz:CMulW a b
   · rw [if_pos hz]at e
     cases e;exact .inl ⟨_,_,rfl,rfl,hz,k _ H (Same.refl H) rfl⟩
   · rw [if_neg hz]at e;cases e
 · cases(show vx=_ from hx);cases(show vy=_ from hy)
   rename_i a n;dsimp only [mulX]at e
   by_cases hz:n<2 ^ 63 /\ -(2 ^ 63)<=n/\a.length*n.toNat<=sizeLine
   · rw [if_pos hz]at e
     cases e;exact .inr (.inl ⟨_,_,rfl,rfl,hz,k _ H (Same.refl H) rfl⟩)
   · rw [if_neg hz]at e;cases e
 · rename_i a n
   cases(show vy=_ from hy);dsimp only [mulX]at e
   by_cases hz:n<2 ^ 63 /\ -(2 ^ 63)<=n/\a.length*n.toNat<=sizeLine
   · rw [if_pos hz]at e
     cases e;obtain⟨a1,vs1,rfl,_,r1,l1⟩:=hx;exact .inr (.inr ⟨a1,n,vs1,rfl,rfl,r1,hz.2.1,hz.1,by rw [<-l1.length];exact hz.2.2,λp hp=>k _ _ (Ym hp) (ZeH hi hp (l1.rep n.toNat))⟩)
   · rw [if_neg hz]at e;cases e
end
end DL
namespace L2
open PySem PySem.W
theorem Zjo{P:Program}{w:World}{X:Cx}:UB (CXd P w) X E0:=λ_ _ _ _ _ _ _ ⟨_,_,_,_,_,_,_,_,_,_,_,_,_,_,_,_,hE⟩=>hE.elim
end L2
namespace DL
open L2
theorem VX.frz{G:Cn}{ow ow1:List Nat}{E:XK}{t:TS}{χ:Env->Option XC}(i:Nat)(h:VX G ow1 E t χ)(hn:G.2 i=none)(h1:sub ow1 ow=true)(h2:ow1.contains i=false)(h3:sub ow (i::ow1)=true):VX G ow E t χ:=λH0 av A σ H δ R c e k De=>
 h H0 av _ σ H δ (R.freeze i (ZaR h1 h2 h3) hn) c e k De
theorem ZaH{K:PySem.W.Frag}{cA:Kn}{v:V}{cv:PySem.Value}{tab:List (String×Bool)}(hv:∀u,RelV v u->u=cv)(h:∀p∈tab,kitOne K (.ref (cA.c p.1)) cv=some p.2):Ul K cA v tab:=λc b e=>⟨cv,hv,h (c,b) (ZaF e)⟩
end DL
namespace L2
open PySem
end L2
namespace L2
open PySem
end L2
namespace L2
open PySem PySem.Spec PySem.W PyProof.Rows
section
variable{X:Cx}{e:Expr}{te:TE}{pos:Pos}
def Zhi(te:TE):TE:=λσ H Q=>te σ H λv H1=>(∃cs,v=S cs/\cs.length<=sizeLine/\Q (S cs) H1)\/∃n:Nat,v = .int n/\n<10 ^ 10/\Q (S (Zo n)) H1
theorem Zbg(he:PE X e te):PE X (.FormattedValue e (-1) none pos) (Zhi te):=by
 intro pins s σ H Q I h;refine wpAny_FormattedValue_plain (thn (he pins s σ H _ I h) λu s1 ⟨v,H1,I1,r,q⟩ => ?_);rcases q with⟨cs,ev,hl,q⟩|⟨n,ev,hn,q⟩
 · subst ev
   obtain⟨t,rfl⟩:=r;have hz:(tx cs).length<=sizeLine:=by simpa [Str.length]using hl
   exact wpAny_formatField_str ⟨S cs,H1,I1,⟨_,rfl⟩,q⟩ ⟨S cs,H1,I1.tok _,⟨_,rfl⟩,q⟩ hz
 · subst ev
   obtain⟨t,rfl⟩:=r;refine formatField_int_small ?_ ?_
   · have h1 : n.log2 < 40 := by
      by_cases h0:n=0
      · subst h0;decide
      · exact(Nat.log2_lt h0).mpr (Nat.lt_trans hn (by decide))
     show(n:Int).natAbs.log2<1920;rw [Int.natAbs_natCast];omega
   · refine⟨S (Zo n),H1,I1.tok _,⟨s1.toks+1,?_⟩,q⟩
     rw [Zgt]
inductive PJ(X:Cx):List Expr->List TE->Prop where
 |nil:PJ X [] []
 |cons {e:Expr} {es:List Expr} {t:TE} {ts:List TE}:PE X e t->PJ X es ts->PJ X (e::es) (t::ts)
def tJs:List TE->List Nat->L2.St->Hp->(List Nat->Hp->Prop)->Prop
 | [],acc,_,H,Q=>Q acc H
 |t::r,acc,σ,H,Q=>t σ H λv H1=>∃cs,v=S cs/\(acc++cs).length<=sizeLine/\tJs r (acc++cs) σ H1 Q
theorem Zdi{pins:List (Addr×Obj)}{σ:L2.St}{Q:List Nat->Hp->Prop}:∀{es:List Expr}{ts:List TE}{acc:List Nat}{H:Hp}{s:Shared},PJ X es ts->Inv X pins σ H s->acc.length<=sizeLine->tJs ts acc σ H Q ->
 Joins (model X.prog X.w) X.A X.xe (evalEach es X.env) (tx acc) (λout s1=>∃cs H',out=tx cs/\Inv X pins σ H' s1/\cs.length<=sizeLine/\Q cs H') s
 |_,_,acc,H,s,.nil,I,hl,q=>⟨acc,H,rfl,I,hl,q⟩
 |_,_,acc,H,s,.cons he hr,I,hl,q=>by
  show wpAny (model X.prog X.w) X.A _ _ X.xe s;refine thn (he pins s σ H _ I q) λu s1 ⟨v,H1,I1,r,cs,ev,hz,q1⟩ => ?_
  subst ev;obtain⟨t,rfl⟩:=r
  have ea:tx acc++tx cs=tx (acc++cs):=by
   show(⟨acc.toArray++cs.toArray⟩:Str)=⟨(acc++cs).toArray⟩
   simp
  refine⟨_,_,rfl,?_,?_⟩
  · rw [ea];simpa [Str.length]using hz
  · rw [ea];exact Zdi hr I1 hz q1
theorem Za7{P Q:Str->Shared->Prop}(k:∀x s,P x s->Q x s):∀{parts:List (Sem Value)}{acc:Str}{s:Shared},Joins (model X.prog X.w) X.A X.xe parts acc P s->Joins (model X.prog X.w) X.A X.xe parts acc Q s
 | [],acc,s,h=>k _ _ h
 |x::r,acc,s,h=>thn h λv s1 ⟨y,t,e,hz,q⟩=>⟨y,t,e,hz,Za7 k q⟩
def Zhj(ts:List TE):TE:=λσ H Q=>tJs ts [] σ H λcs H1=>Q (S cs) H1
theorem Zcw{e1 e2:Expr}{es:List Expr}{ts:List TE}(h:PJ X (e1::e2::es) ts):PE X (.JoinedStr (e1::e2::es) pos) (Zhj ts):=by
 intro pins s σ H Q I q;refine wpAny_JoinedStr (Za7 (λx s1 ⟨cs,H1,ex,I1,hl,q1⟩ => ?_) (Zdi (acc:=[]) h I (Nat.zero_le _) q));subst ex;exact⟨by simpa [Str.length]using hl,S cs,H1,I1.tok _,⟨_,rfl⟩,q1⟩
end
end L2
namespace DL
open PySem PySem.Spec L2
def Xm:D->Option D
 | .str cs=>if cs.length<=sizeLine then some (.str cs)else none
 | .int n=>if 0<=n/\n<10 ^ 10 then some (.str (Zo n.toNat))else none
 |_=>none
def XD(f:D->Option D)(a:Env->Option D)(δ:Env):Option D:=match a δ with
 |some d=>f d
 |none=>none
section
variable{G:Cn}{ow:List Nat}
theorem Zcx{te:TE}{a:Env->Option D}(h:VE G ow te .cl a):VE G ow (Zhi te) .cl (XD Xm a):=λH0 av A σ H δ E d e Q k=>by
 unfold XD at e;cases hx:a δ with
 |none=>rw [hx]at e;cases e
 |some x=>
  rw [hx]at e;dsimp only at e;unfold Xm at e
  split at e
  · rename_i cs
    by_cases hz:cs.length<=sizeLine
    · rw [if_pos hz]at e
      cases e;exact h H0 av A σ H δ E _ hx _ λv H1 s1 r1 => .inl ⟨cs,r1,hz,k _ H1 s1 rfl⟩
    · rw [if_neg hz]at e;cases e
  · rename_i n
    by_cases hz:0<=n/\n<10 ^ 10
    · rw [if_pos hz]at e
      cases e;refine h H0 av A σ H δ E _ hx _ λv H1 s1 r1 => .inr ⟨n.toNat,?_,by omega,k _ H1 s1 rfl⟩
      rw [Int.toNat_of_nonneg hz.1];exact r1
    · rw [if_neg hz]at e;cases e
  · cases e
inductive VJ(G:Cn)(ow:List Nat):List TE->List (Env->Option D)->Prop where
 |nil:VJ G ow [] []
 |cons {t:TE} {a:Env->Option D} {ts:List TE} {as:List (Env->Option D)}:VE G ow t .cl a->VJ G ow ts as->VJ G ow (t::ts) (a::as)
def xJs:List (Env->Option D)->List Nat->Env->Option (List Nat)
 | [],acc,_=>some acc
 |a::r,acc,δ=>match a δ with
  |some (.str cs)=>if(acc++cs).length<=sizeLine then xJs r (acc++cs) δ else none
  |_=>none
theorem vjs{H0:Hp}{av:Addr->Prop}{A:Nat->Option Addr}{σ:L2.St}{δ:Env}:∀{ts:List TE}{as:List (Env->Option D)},VJ G ow ts as->∀{acc cs:List Nat}{H:Hp},ER G ow H0 av A σ H δ->xJs as acc δ=some cs->∀Q:List Nat->Hp->Prop,(∀H',Same H H'->Q cs H')->tJs ts acc σ H Q
 |_,_,.nil,acc,cs,H,E,e,Q,k=>by cases e;exact k H (Same.refl H)
 |_,_,.cons h hr,acc,cs,H,E,e,Q,k=>by
  rename_i t a ts as;unfold xJs at e;cases hx:a δ with
  |none=>rw [hx]at e;cases e
  |some x=>
   rw [hx]at e;cases x<;>first|(cases e;done)|skip
   rename_i c1;dsimp only at e
   by_cases hz:(acc++c1).length<=sizeLine
   · rw [if_pos hz]at e
     exact h H0 av A σ H δ E _ hx _ λv H1 s1 r1=>⟨c1,r1,hz,vjs hr (E.mono s1) e _ λH' s=>k H' (s1.trans s)⟩
   · rw [if_neg hz]at e;cases e
def VW(as:List (Env->Option D))(δ:Env):Option D:=match xJs as [] δ with
 |some cs=>some (.str cs)
 |none=>none
theorem ZeJ{ts:List TE}{as:List (Env->Option D)}(h:VJ G ow ts as):VE G ow (Zhj ts) .cl (VW as):=λH0 av A σ H δ E d e Q k=>by
 unfold VW at e;cases hx:xJs as [] δ with
 |none=>rw [hx]at e;cases e
 |some cs=>
  rw [hx]at e;cases e;exact vjs h E hx _ λH' s=>k _ H' s rfl
end
end DL
namespace L2
open PySem PySem.Spec PySem.W PyProof.Rows
section
variable{X:Cx}{E:XK}
end
end L2
namespace DL
open PySem PySem.Spec L2
abbrev XTab:=List (String×(Nat×(List D->Option D)×(List D->Option XC)))
structure MethOkX(X:Cx)(cA:Kn)(k:Nat)(m:String)(c:String)(n:Nat)(mm:List D->Option D)(xm:List D->Option XC):Prop where
 ex:∃f fd ps,Cls X.K (cA.c c)/\Meth X.K (cA.c c) (Str.ofString m) f/\FnOk X.prog X.w X.K X.mg X.base (CXd X.prog X.w) k f fd ps (spX cA n mm xm)/\Binds X.K fd ps []
def MTOkX(X:Cx)(cA:Kn)(k:Nat)(m:String):XTab->Prop
 | []=>True
 |(c,n,mm,xm)::r=>MethOkX X cA k m c n mm xm/\MTOkX X cA k m r
theorem MTOkX.get{X:Cx}{cA:Kn}{k:Nat}{m:String}:∀{tab:XTab}{c:String}{n:Nat}{mm:List D->Option D}{xm:List D->Option XC},MTOkX X cA k m tab->tab.lookup c=some (n,mm,xm)->MethOkX X cA k m c n mm xm
 | [],_,_,_,_,_,h=>by simp at h
 |(c',n',mm',xm')::r,c,n,mm,xm,T,h=>by
  rw [List.lookup_cons]at h;cases hc:c == c' with
  |true=>
   rw [hc]at h;cases h;have:c=c':=eq_of_beq hc;subst this;exact T.1
  |false=>
   rw [hc]at h;exact MTOkX.get T.2 h
section
variable{X:Cx}{cA:Kn}{k:Nat}{m:String}{tab:XTab}{o e:Expr}{es:List Expr}{ta:TE}{t:TA}{pos apos:Pos}{pl:Sem Bool}{E:XK}
end
section
variable{cA:Kn}{G:Cn}{ow ow1 owB owC owN:List Nat}{E:XK}
def Xn(γ:D->Env->Option Env)(φ:Env->Option Out)(χ:Env->Option XC):List D->Env->Option XC
 | [],_=>none
 |x::r,δ=>match γ x δ with
  |none=>none
  |some δ1=>match χ δ1 with
   |some c=>some c
   |none=>match φ δ1 with
    |some (.nx δ2)=>Xn γ φ χ r δ2
    |some (.ct δ2)=>Xn γ φ χ r δ2
    |_=>none
def Um(ι:Env->Option (List D))(γ:D->Env->Option Env)(φ:Env->Option Out)(χ:Env->Option XC)(δ:Env):Option XC:=match ι δ with
 |some xs=>Xn γ φ χ xs δ
 |none=>none
theorem ZgG{wi:TI}{g:TG}{tb:TS}{ι:Env->Option (List D)}{γ:D->Env->Option Env}{φ:Env->Option Out}{χ:Env->Option XC}(hi:VI G ow wi ι)(hg:VG G ow ow g γ)(hb:VS G ow ow ow ow tb φ)(hX:VX G ow E tb χ):VX G ow E (ZkQ wi g tb) (Um ι γ φ χ):=λH0 av A σ H δ R c e k De=>by
 unfold Um at e;cases he:ι δ with
 |none=>rw [he]at e;cases e
 |some xs=>
  rw [he]at e;have e:Xn γ φ χ xs δ=some c:=e;refine hi H0 av A σ H δ R xs he _ λJ H1 s1 W => ?_
  have E1:=R.mono s1;refine⟨λi m σ' H'=>m=xs.length-i/\i<=xs.length/\∃A' δ',ER G ow (DL.cut A H1) av A' σ' H' δ'/\Xn γ φ χ (xs.drop i) δ'=some c,⟨xs.length,by simp,Nat.zero_le _,A,δ,E1.cut,e⟩,?_⟩
  rintro i m σ' H' ⟨rfl,hle,A',δ',E',e'⟩
  obtain⟨w1,w2,w3⟩:=W H' E'.same
  by_cases hlt:i<xs.length
  · refine .inr ⟨w1 i hlt,λσ2 H2=>∃A2 δ2,ER G ow (DL.cut A H1) av A2 σ2 H2 δ2/\Xn γ φ χ (xs.drop (i+1)) δ2=some c,λσ2 H2 ⟨A2,δ2,E2,e2⟩=>⟨xs.length-(i+1),by omega,rfl,hlt,A2,δ2,E2,e2⟩,λv H2 y => ?_⟩
    have hx:xs[i]? = some xs[i]:=List.getElem?_eq_getElem hlt;obtain⟨s2,rep⟩:=w2 i _ v H2 hx y;have E2:=E'.mono s2
    have rep':Rep G.1 (AV av A') H2 xs[i] v:=rep _ E'.avl λb z=>by
     rcases z with z|⟨j,z⟩
     · exact .inl (.inl z)
     · exact .inr (E'.fr j b z)
    rw [List.drop_eq_getElem_cons hlt]at e';unfold Xn at e';cases hγ:γ xs[i] δ' with
    |none=>rw [hγ]at e';cases e'
    |some δ1=>
     rw [hγ]at e';dsimp only at e';refine hg _ av A' σ' H2 δ' E2 _ v rep' δ1 hγ _ λA3 σ3 H3 s3 E3 => ?_
     cases hχ:χ δ1 with
     |some c'=>
      rw [hχ]at e';cases e';exact hX _ av A3 σ3 H3 δ1 E3 c hχ (λH' s=>k H' (E1.sub0.trans s)) _
     |none=>
      rw [hχ]at e';dsimp only at e';cases hφ:φ δ1 with
      |none=>rw [hφ]at e';cases e'
      |some o1=>
       rw [hφ]at e';refine hb _ av A3 σ3 H3 δ1 E3 o1 hφ _ ?_;cases o1 with
       |nx δ2=>exact λA4 σ4 H4 E4=>⟨A4,δ2,E4,e'⟩
       |ct δ2=>exact λA4 σ4 H4 E4=>⟨A4,δ2,E4,e'⟩
       |bk δ2=>cases e'
       |rt d=>cases e'
  · have ei:i=xs.length:=by omega
    subst ei;rw [List.drop_length]at e';cases e'
end
end DL
namespace L2
open PySem PySem.Spec PySem.W PyProof.Rows
end L2
namespace DL
open PySem PySem.Spec L2
section
variable{G:Cn}{ow:List Nat}
end
end DL
namespace L2
open PySem PySem.Spec PySem.W PyProof.Rows
structure RoomE(k:Nat)(A:Around):Prop where
 dp:A.depth+3*k+5<recursionLimit
 un:A.units+16*k+200<cLine
structure FnOkE(P:Program)(w:World)(K:PySem.W.Frag)(mg:Str->Option Value)(base:Heap)(k:Nat)(f:Addr)(fd:FuncData)(ps:List Str)(sp:List V->Hp->VK->Prop):Prop where
 len:∀vs H Q,sp vs H Q->vs.length=ps.length
 run:∀(A:Around)(outer:List PySem.Env)(s:Shared)(H:Hp)(args:Args)(us:List Value)(vs:List V)(Q:VK),RoomE k A->Env0 P w K mg base A outer s H->BindsTo s fd args (ps.zip us)->Vals vs us->sp vs H Q ->
  codeAny (model P w) A (.call (.ref f) args) (CR CX0 outer P w H s Q E0) s
end L2
namespace DL
open PySem PySem.Spec L2
def tCs:List V->TA
 | []=>tNil
 |v::vs=>Y4 (tC v) (tCs vs)
theorem ZgH{σ:L2.St}{H:Hp}:∀{vs:List V}(Q:List V->Hp->Prop),Q vs H->tCs vs σ H Q
 | [],Q,q=>q
 |v::vs,Q,q=>ZgH (vs:=vs) (λxs H2=>Q (v::xs) H2) q
theorem ZbZ{K:PySem.W.Frag}{cA:Kn}{c:String}:∀{vs:List V}{tabs:List (List (String×Bool))}{bs:List Bool},IsiEs K cA vs tabs->ZjV c tabs=some bs->∃cvs,(∀us,Vals vs us->us=cvs)/\PySem.W.kitAny K (.ref (cA.c c)) cvs=some (bs.any id)
 |_,_,bs,.nil,e=>by
  cases e;exact⟨[],λus r=>by cases r;rfl,rfl⟩
 |_,_,bs,.cons h1 h2,e=>by
  unfold ZjV at e
  split at e
  · rename_i b bs' e1 e2
    cases e;obtain⟨cv,hc,hk⟩:=h1 c b e1;obtain⟨cvs,hcs,hks⟩:=ZbZ h2 e2;refine⟨cv::cvs,λus r => ?_,?_⟩
    · cases r with
      |cons r1 r2=>rw [hc _ r1,hcs _ r2]
    · unfold PySem.W.kitAny
      rw [hk];cases b with
      |true=>rfl
      |false=>exact hks
  · cases e
def Zjp(K:PySem.W.Frag)(cA:Kn)(i:Nat)(mk:Addr->Addr->TE)(tab:List (String×Bool)):Prop:=∀(c:String)(b:Bool)(ea:Addr)(σ:L2.St)(H:Hp)(Q:VK),ExCls K (cA.c c)->tab.lookup c=some b->σ[i]? = some (some (.ref ea))->H ea=some (.ext (UI ea (.ref (cA.c c))))->(∀H',Same H H'->Q (.bl b) H')->mk (cA.c c) ea σ H Q
inductive Items(K:PySem.W.Frag)(cA:Kn)(i:Nat):List (Addr->Addr->TE)->List (List (String×Bool))->Prop where
 |nil:Items K cA i [] []
 |cons {m:Addr->Addr->TE} {t:List (String×Bool)} {ms:List (Addr->Addr->TE)} {ts:List (List (String×Bool))}:Zjp K cA i m t->Items K cA i ms ts->Items K cA i (m::ms) (t::ts)
section
variable{cA:Kn}{G:Cn}{ow owB owC:List Nat}
end
end DL
namespace DL
open PySem PySem.Spec L2
end DL
namespace DL
open PySem PySem.Spec L2
theorem Zjq {P:Program} {w:World} {K:PySem.W.Frag} {mg:Str->Option Value} {base:Heap} {x qual:Str} {st:Stmt} {fI C:Addr} {fd:FuncData} {N ps:List Str} {k:Nat} {body:List Stmt} {scope:Scope} {f:Str} {a b:List Nat}
 (F:FunX K x qual st fI fd) (Sc:FnScope N ps (defScope st)) (hS:defScope st=scope) (hB:defBody st=body) (hn:ps.length=2) (hN:N.length=2) (hl:a.length+b.length<=1000)
 (hbody:∀(cdv:Value)(A:Around)(outer:List PySem.Env)(s:Shared)(H:Hp)(E:XK),Room k (A.deeper (PyProof.Rows.envOfC qual scope s.heap.objs.size fI cdv)) ->
   PSs (YU CX0 P w K mg base N qual scope fI cdv A outer s H E).nox body (QN (V7 (tCB (Zhf C) (Y4 (Xk 0) (Y4 (Zhj [tC (S a),Zhi (Xk 1),tC (S b)]) tNil)))) (ZiF C (Xk 0) (Xk 1) f))) :
 FnOk P w K mg base CX0 (k+1) fI fd ps (spJ C f):=by
 subst hS hB;refine FunX.ok F Sc (λvs H Q E h => ?_) λcdv A outer s H vs Q E hr h=>⟨_,hbody cdv A outer s H E hr,?_⟩
 · obtain⟨ea,n,rfl,_⟩:=h
   exact hn.symm
 · obtain⟨ea,n,rfl,hn1,he,q⟩:=h
   have e0:L2.start N [.ref ea,.int n]=[some (.ref ea),some (.int n)]:=by unfold L2.start;rw [hN];rfl
   rw [e0];have hs:sizeLine=16777216:=sizeLine_eq
   have hf:(Zo n).length<=10:=by
    unfold Zo;rw [List.length_map];exact(Nat.length_toDigits_le_iff (b:=10) (k:=10) (by decide) (by decide)).mpr hn1
   refine⟨.ref ea,rfl,⟨a,rfl,by simp;omega,⟨.int n,rfl,.inr ⟨n,rfl,hn1,⟨Zo n,rfl,by simp;omega,⟨b,rfl,by simp;omega,?_⟩⟩⟩⟩⟩⟩;refine⟨ea,none,_,rfl,he,?_⟩;exact⟨.int n,rfl,.ref ea,rfl,ea,rfl,he,λd hd=>q d hd⟩
def ZmT(K:PySem.W.Frag)(i:Nat)(v:V)(C ea:Addr)(dO:Option Addr):TT:=tB (tCB (ZiH K ea C dO) (Y4 (Xk i) (Y4 (tC v) tNil)))
def Znc(K:PySem.W.Frag)(i:Nat)(vs:List V)(C ea:Addr)(dO:Option Addr):TT:=tB (tCB (ZgE K ea C dO) (Y4 (Xk i) (Y4 (ZkT (tCs vs)) tNil)))
def ZgI(K:PySem.W.Frag)(i r:Nat)(t1:TE)(v1 v2:V)(vs:List V)(C ea:Addr)(dO:Option Addr):TS:=
 QN (UA t1 (VL r)) (JP (JO (ZmT K i v1 C ea dO) (JO (ZmT K i v2 C ea dO) (ZkN (Znc K i vs C ea dO)))) (UA (ZiI K ea C (dO.getD 0) (Xk i) (Str.ofString "row")) (VL r)) tNext)
def Qs(φb:Env->Option Out)(χb:Env->Option XC)(cl:String)(i r:Nat)(δ:Env):Option Out:=match χb δ with
 |some c=>if c.1=cl/\i<δ.length then some (.nx ((δ.set r (some (.int c.2))).set i none))else none
 |none=>φb δ
section
variable{cA:Kn}{G:Cn}{ow owB owC:List Nat}
theorem ZhR {K:PySem.W.Frag} {Gd:Addr} {tb:XK->TS} {φb:Env->Option Out} {χb:Env->Option XC} {v1 v2:V} {vs:List V} {t1:TE} {tab1 tab2:List (String×Bool)} {tabs:List (List (String×Bool))} {bs:List Bool} (cl:String) (i r:Nat)
 (hir:i≠r) (hi:ow.contains i=false) (hr:ow.contains r=false) (hni:G.2 i=none) (hnr:G.2 r=none) (hT:ExCls K (G.1.c cl)) (hm:PySem.W.exmOne K (.ref (G.1.c cl)) (.ref Gd)=some true) (hh:PySem.W.hasDictIn K (G.1.c cl)=true) (hno:PySem.W.findIn K (.ref (G.1.c cl)) (Str.ofString "row")=some none)
 (I1:Ul K G.1 v1 tab1) (x1:tab1.lookup cl=some true) (I2:Ul K G.1 v2 tab2) (x2:tab2.lookup cl=some true) (I3:IsiEs K G.1 vs tabs) (x3:ZjV cl tabs=some bs) (x4:bs.any id=false) (hv:vs.length<=1000) (h1:∀σ H(Q:VK),Q (.int (-1)) H->t1 σ H Q)
 (hb:∀E,VS G ow ow owB owC (tb E) φb) (hx:∀E,VXs G ow E (tb E) χb):VS G ow ow owB owC (ZiG K Gd i tb (ZgI K i r t1 v1 v2 vs)) (Qs φb χb cl i r):=λH0 av A σ H δ R o e De k=>by
 unfold Qs at e;cases hc:χb δ with
 |none=>
  rw [hc]at e;exact⟨λ_ _ _=>False,hb _ H0 av A σ H δ R o e De k,λ_ _ _ z=>z.elim⟩
 |some c=>
  rw [hc]at e;dsimp only at e
  by_cases hz:c.1=cl/\i<δ.length
  · rw [if_pos hz]at e
    cases e;obtain⟨hz1,hz2⟩:=hz;refine⟨λcls dO H'=>cls = .ref (G.1.c cl)/\∃d,dO=some d/\Same H H'/\H' d=some (.xd [(Str.ofString "row",.int c.2)]),hx _ H0 av A σ H δ R c hc (λH' s d hd=>⟨by rw [hz1],d,rfl,s.trans (Ym hd),Z2⟩) De,λcls dO H' ⟨e1,d,e2,s1,hd⟩=>⟨G.1.c cl,e1,hT,hm,λea hea => ?_⟩⟩;subst e2;have hlen:i<σ.length:=by rw [R.len];exact hz2
    have hde:d≠ea:=λz=>by rw [z,hea]at hd;cases hd
    have s2:Same H' (upd H' ea (.ext (Uj ea (G.1.c cl) (some d)))):=Ym hea;have hσ:((σ.set i (some (.ref ea))).set r (some (.int (-1))))[i]? = some (some (.ref ea)):=by rw [List.getElem?_set_ne (Ne.symm hir),List.getElem?_set_self hlen]
    obtain⟨c1,y1,z1⟩:=I1 cl true x1;obtain⟨c2,y2,z2⟩:=I2 cl true x2;obtain⟨cvs,y3,z3⟩:=ZbZ I3 x3;rw [x4]at z3;refine h1 _ _ _ ?_;refine⟨.ref ea,hσ,⟨_,c1,true,rfl,y1,Z2,z1,true,rfl,X5 ?_⟩⟩;refine⟨.ref ea,hσ,⟨_,c2,true,rfl,y2,Z2,z2,true,rfl,X5 ?_⟩⟩;refine⟨.ref ea,hσ,ZgH _ ⟨Nat.le_trans hv (by decide),λp hp => ?_⟩⟩;have hpe:ea≠p:=λz=>by rw [<-z,Z2]at hp;cases hp
    have hpd:d≠p:=λz=>by rw [<-z,ZI hde,hd]at hp;cases hp
    refine⟨p,vs,cvs,false,rfl,by rw [ZI hpe];exact Z2,SqT.of Z2,y3,z3,false,rfl,X5 ?_⟩;refine⟨.ref ea,hσ,_,_,hh,hno,rfl,by rw [ZI hpe];exact Z2,by show upd (upd H' ea _) p _ d=_;rw [ZI hpd,ZI hde];exact hd,rfl,?_⟩;have R1:=R.mono ((s1.trans s2).trans (Ym (o:=.tup vs) hp));have hrow:∀j,j∈ow ↔ j∈ow/\j≠r:=λj=>⟨λq=>⟨q,λz=>by rw [z]at q;simp at hr;exact hr q⟩,λq=>q.1⟩
    have R2:=(R1.set (i:=r) (d:=.int c.2) (v:=.int c.2) rfl hrow hnr).none (i:=i) (x:=none) hi hni;show De.nx (((((σ.set i (some (.ref ea))).set r (some (.int (-1)))).set r (some (.int c.2)))).set i none) _
    have ez:(((((σ.set i (some (V.ref ea))).set r (some (.int (-1)))).set r (some (.int c.2)))).set i none)=(σ.set r (some (.int c.2))).set i none:=by
     rw [List.set_set,List.set_comm _ _ hir,List.set_set]
    rw [ez];exact k _ _ _ R2
  · rw [if_neg hz]at e;cases e
end
end DL
namespace DL
open PySem PySem.Spec L2
section
variable{G:Cn}{ow:List Nat}{E:XK}
def XF(i:Nat)(χ:Env->Option XC)(δ:Env):Option XC:=match Za i δ with
 |some (.lst _)=>χ δ
 |_=>none
theorem Zcy{K:PySem.W.Frag}{te:TE}{χ:Env->Option XC}(i:Nat)(hi:ow.contains i=true)(h:VXe G ow E te χ):VXs G ow E (V7 (tBM K "list" rAppend (Xk i) (Y4 te tNil))) (XF i χ):=λH0 av A σ H δ R c e k De=>by
 unfold XF at e;cases hv:Za i δ with
 |none=>rw [hv]at e;cases e
 |some x=>
  rw [hv]at e;cases x<;>first|(cases e;done)|skip
  have hi':i∈ow:=by simpa using hi
  cases hA:A i with
  |none=>exact absurd hA (R.dom' i hi')
  |some a=>
   obtain⟨v,h1,_,h3⟩:=R.var i _ (VN hv);obtain⟨rfl,vs,q1,q2⟩:=h3 a hA;exact⟨_,h1,.inl ⟨rfl,vs,SqL.of q1⟩,h H0 av A σ H δ R c e k _⟩
end
end DL
namespace L2
open PySem PySem.Spec PyProof.Rows
section
variable{X:Cx}{elts:List Expr}{x1:Nat}{tpos:Pos}
end
end L2
namespace DL
open PySem PySem.Spec L2
def Xp:List D->List D->List D
 |x::xs,y::ys => .tup [x,y]::Xp xs ys
 |_,_=>[]
theorem Zae:∀xs ys:List D,(Xp xs ys).length=min xs.length ys.length
 | [],_=>by simp [Xp]
 |_::_,[]=>by simp [Xp]
 |x::xs,y::ys=>by rw [Xp,List.length_cons,List.length_cons,List.length_cons,Zae xs ys];omega
theorem Zdj:∀(xs ys:List D)(i:Nat)(x y:D),xs[i]? = some x->ys[i]? = some y->(Xp xs ys)[i]? = some (.tup [x,y])
 | [],_,i,x,y,h,_=>by simp at h
 |_::_,[],i,x,y,_,h=>by simp at h
 |x0::xs,y0::ys,0,x,y,h1,h2=>by simp at h1 h2;rw [h1,h2];rfl
 |x0::xs,y0::ys,i+1,x,y,h1,h2=>by
  rw [Xp,List.getElem?_cons_succ];exact Zdj xs ys i x y (by simpa using h1) (by simpa using h2)
section
variable{cA:Kn}{G:Cn}{ow:List Nat}
end
end DL
namespace DL
open PySem PySem.Spec L2
def mat(rows:List (List D)):D := .lst (rows.map D.lst)
structure Mx(H:Hp)(a:Addr)(bs:List Addr)(rows:List (List D)):Prop where
 top:H a=some (.lst (bs.map V.ref))
 len:bs.length=rows.length
 nd:bs.Nodup
 na:a∉bs
 row:∀(k:Nat)(b:Addr)(r:List D),bs[k]? = some b->rows[k]? = some r->H b=some (.lst (r.map val))
 sc:∀r∈rows,r.all ZW=true
section
variable{H H':Hp}{a:Addr}{bs:List Addr}{rows:List (List D)}
theorem Mx.mem(M:Mx H a bs rows){b:Addr}(h:b∈bs):∃r∈rows,H b=some (.lst (r.map val)):=by
 obtain⟨k,hk,e⟩:=List.mem_iff_getElem.mp h;have hk2:k<rows.length:=by rw [<-M.len];exact hk
 exact⟨rows[k],List.getElem_mem hk2,M.row k b _ (by rw [List.getElem?_eq_getElem hk,e]) (List.getElem?_eq_getElem hk2)⟩
theorem Mx.there(M:Mx H a bs rows){x:Addr}(h:x∈a::bs):∃vs,H x=some (.lst vs):=by
 rcases List.mem_cons.mp h with rfl|h
 · exact⟨_,M.top⟩
 · obtain⟨r,_,e⟩:=M.mem h
   exact⟨_,e⟩
theorem Mx.mono(M:Mx H a bs rows)(k:Same H H'):Mx H' a bs rows:=⟨k _ _ M.top,M.len,M.nd,M.na,λn b r h1 h2=>k _ _ (M.row n b r h1 h2),M.sc⟩
theorem Mx.rep{cA:Kn}{av:Addr->Prop}(M:Mx H a bs rows)(hn:∀x∈a::bs,¬av x):Rep cA av H (mat rows) (.ref a):=by
 have go:∀(bs:List Addr)(rows:List (List D)),bs.length=rows.length->(∀x∈bs,¬av x)->(∀(k:Nat)(b:Addr)(r:List D),bs[k]? = some b->rows[k]? = some r->H b=some (.lst (r.map val)))->(∀r∈rows,r.all ZW=true)->RepL cA av H (rows.map D.lst) (bs.map V.ref):=by
  intro bs
  induction bs with
  |nil=>
   intro rows hl _ _ _;cases rows with
   |nil=>exact .nil
   |cons _ _=>simp at hl
  |cons b bs ih=>
   intro rows hl hn hr hs;cases rows with
   |nil=>simp at hl
   |cons r rows=>
    refine .cons ?_ (ih rows (by simpa using hl) (λx hx=>hn x (List.mem_cons_of_mem _ hx)) (λk b r h1 h2=>hr (k+1) b r (by simpa using h1) (by simpa using h2)) λr hr=>hs r (List.mem_cons_of_mem _ hr));unfold Rep;exact⟨b,r.map val,rfl,λz=>(hn b List.mem_cons_self z).elim,SqL.of (hr 0 b r rfl rfl),.of_vals (hs r List.mem_cons_self)⟩
 unfold mat Rep;exact⟨a,bs.map V.ref,rfl,λz=>(hn a List.mem_cons_self z).elim,SqL.of M.top,go bs rows M.len (λx hx=>hn x (List.mem_cons_of_mem _ hx)) M.row M.sc⟩
end
open Classical in
noncomputable def ovl(H0 H:Hp)(F:List Addr):Hp:=λx=>if x∈F then H x else H0 x
theorem ZgJ{H0 H:Hp}{F:List Addr}{x:Addr}(h:x∈F):ovl H0 H F x=H x:=if_pos h
theorem ZeK{H0 H:Hp}{F:List Addr}{x:Addr}(h:x∉F):ovl H0 H F x=H0 x:=if_neg h
abbrev Cn.keep(G:Cn)(i:Nat)(v:V):Cn:=⟨G.1,λj=>if j=i then some (.inr v)else G.2 j⟩
abbrev avF(av:Addr->Prop)(F:List Addr):Addr->Prop:=λx=>av x\/x∈F
def PinOk(G:Cn)(i:Nat)(σ:L2.St):Prop:=∀z,G.2 i=some z->∃v,z = .inr v/\σ[i]? = some (some v)
theorem PinOk.none{G:Cn}{i:Nat}{σ:L2.St}(h:G.2 i=Option.none):PinOk G i σ:=λz e=>by rw [h]at e;cases e
theorem PinOk.set{G:Cn}{i k:Nat}{σ:L2.St}{x:Option V}(h:PinOk G i σ)(hk:k≠i):PinOk G i (σ.set k x):=λz e=>by
 obtain⟨v,h1,h2⟩:=h z e;exact⟨v,h1,by rw [List.getElem?_set_ne hk];exact h2⟩
structure MR(G:Cn)(ow:List Nat)(i:Nat)(H0:Hp)(av:Addr->Prop)(A:Nat->Option Addr)(σ:L2.St)(H:Hp)(δ:Env):Prop where
 ni:i∉ow
 nn:PinOk G i σ
 avd:∀x,av x->H0 x≠none
 ex:∃a bs rows,δ[i]? = some (some (mat rows))/\Mx H a bs rows/\(∀x∈a::bs,H0 x=none)/\ER (G.keep i (.ref a)) ow (ovl H0 H (a::bs)) (avF av (a::bs)) A σ H (δ.set i none)
section
variable{cA:Kn}{G:Cn}{ow owN owB owC ow1:List Nat}{i:Nat}{H0 H H':Hp}{av:Addr->Prop}{A:Nat->Option Addr}{σ:L2.St}{δ:Env}
theorem ZeL{j:Nat}{v:V}(h:j≠i):(G.keep i v).2 j=G.2 j:=if_neg h
theorem Zf7{a:Addr}{bs:List Addr}{rows:List (List D)}(M:Mx H a bs rows)(k:Same H H'):ovl H0 H' (a::bs)=ovl H0 H (a::bs):=by
 funext x
 by_cases h:x∈a::bs
 · rw [ZgJ h,ZgJ h]
   obtain⟨vs,q⟩:=M.there h;rw [q,k _ _ q]
 · rw [ZeK h,ZeK h]
theorem MR.set{k:Nat}{d:D}(R:MR G ow i H0 av A σ H δ)(hs:ZW d=true)(hk:k≠i)(hw:∀j,j∈owN ↔ j∈ow/\j≠k)(hn:G.2 k=none):MR G owN i H0 av (λj=>if j=k then none else A j) (σ.set k (some (val d))) H (δ.set k (some d)):=by
 obtain⟨a,bs,rows,hd,M,h0,E⟩:=R.ex;refine⟨λz=>R.ni ((hw i).mp z).1,R.nn.set hk,R.avd,a,bs,rows,by rw [List.getElem?_set_ne hk];exact hd,M,h0,?_⟩;rw [List.set_comm _ _ hk];exact E.set (.of_val hs) hw (by rw [ZeL hk];exact hn)
end
end DL
namespace DL
open PySem PySem.Spec L2
section
variable{cA:Kn}{G:Cn}{ow owN owB owC ow1:List Nat}{i:Nat}
end
end DL
namespace DL
open PySem PySem.Spec L2
section
variable{H:Hp}{a b:Addr}{bs:List Addr}{rows:List (List D)}{j:Nat}{r r':List D}
theorem Mx.at(M:Mx H a bs rows)(hr:rows[j]? = some r):∃b,bs[j]? = some b/\H b=some (.lst (r.map val)):=by
 have hjl:j<bs.length:=by rw [M.len];exact(List.getElem?_eq_some_iff.mp hr).1
 exact⟨bs[j],List.getElem?_eq_getElem hjl,M.row j _ r (List.getElem?_eq_getElem hjl) hr⟩
end
section
variable{cA:Kn}{G:Cn}{ow owN owB owC ow1:List Nat}{i:Nat}
end
end DL
namespace DL
open PySem PySem.Spec L2
def VFM(G:Cn)(ow:List Nat)(te:TE)(ε:Env->Option D):Prop:=
 ∀H0 av A σ H δ,ER G ow H0 av A σ H δ->∀d,ε δ=some d->∀Q:VK,(∀a bs rows H',Same H H'->(∀x∈a::bs,H x=none)->Mx H' a bs rows->d=mat rows->Q (.ref a) H')->te σ H Q
section
variable{cA:Kn}{G:Cn}{ow owN owB owC ow1:List Nat}{i:Nat}
def Q8(N:Nat)(φ:Env->Option Out)(ds:List D):Option D:=match φ (ds.map some++List.replicate (N-ds.length) none)with
 |some (.rt d)=>some d
 |_=>none
theorem VFM.cl{te:TE}{ε:Env->Option D}(h:VFM G ow te ε):VE G ow te .cl ε:=λH0 av A σ H δ E d e Q k=>
 h H0 av A σ H δ E d e Q λa bs rows H' s hf M hd=>by
  subst hd;exact k _ H' s (M.rep λx hx z=>E.avl x z (hf x hx)).t
end
section
variable{P:Program}{w:World}{K:PySem.W.Frag}{mg:Str->Option Value}{base:Heap}{cA:Kn}
end
end DL
namespace DL
open PySem PySem.Spec L2
section
variable{cA:Kn}{G:Cn}{ow:List Nat}
structure RowsAt(H0 H:Hp)(bs:List Addr)(rows:List (List D)):Prop where
 len:bs.length=rows.length
 nd:bs.Nodup
 row:∀(k:Nat)(b:Addr)(r:List D),bs[k]? = some b->rows[k]? = some r->H b=some (.lst (r.map val))
 fr:∀b∈bs,H0 b=none
 sc:∀r∈rows,r.all ZW=true
theorem RowsAt.same{H0 H H':Hp}{bs:List Addr}{rows:List (List D)}(R:RowsAt H0 H bs rows)(s:Same H H'):RowsAt H0 H' bs rows:=⟨R.len,R.nd,λk b r h1 h2=>s _ _ (R.row k b r h1 h2),R.fr,R.sc⟩
end
end DL
namespace DL
open PySem PySem.Spec L2
def FL(cA:Kn)(H0:Hp)(av:Addr->Prop)(De:Ends)(d:D):Prop:=∀p vs xs H',Same H0 H'->H0 p=none->H' p=some (.lst vs)->RepL cA (λx=>av x\/x=p) H' xs vs->d = .lst xs->De.rt (.ref p) H'
def VSL(G:Cn)(ow:List Nat)(ts:TS)(φ:Env->Option Out):Prop:=∀H0 av A σ H δ,ER G ow H0 av A σ H δ->∀d,φ δ=some (.rt d)->∀De:Ends,FL G.1 H0 av De d->ts De σ H
section
variable{cA:Kn}{G:Cn}{ow owN owB owC ow1:List Nat}{i:Nat}
theorem Zf8{te:TE}{ε:Env->Option D}(h:VF G ow te ε):VSL G ow (ZkO te) (Zp ε):=λH0 av A σ H δ E d e De k=>by
 unfold Zp at e;cases he:ε δ with
 |none=>rw [he]at e;cases e
 |some d'=>
  rw [he]at e;cases e;refine h H0 av A σ H δ E _ he _ λp vs xs H1 s hp l hd => ?_
  refine k p vs xs _ ((E.same.trans s).trans (Ym hp)) (E.same.free (s.free hp)) Z2 (((l.av λb z => ?_)).same (Ym hp)) hd;rcases z with z|z
  · exact .inl (.inl z)
  · rw [z];exact .inr hp
def spL(cA:Kn)(n:Nat)(m:List D->Option D):Sp:=λvs H Q _=>∃av ds d,(∀a,av a->H a≠none)/\RepL cA av H ds vs/\ds.length=n/\m ds=some d/\∀p vs xs H',Same H H'->H p=none->H' p=some (.lst vs)->RepL cA (λx=>av x\/x=p) H' xs vs->d = .lst xs->Q (.ref p) H'
open Classical in
theorem Zf9{n:Nat}{m:List D->Option D}{t:TA}{α:Env->Option (List D)}{E0:XK}(dds:List D)(hd:dds.all ZW=true)(h:VA G ow t .cl α):VF G ow (U5 (spL G.1 n m) (dds.map val) E0 t) (Zl n m dds α):=λH0 av A σ H δ E d e Q k=>by
 unfold Zl at e;cases he:α δ with
 |none=>rw [he]at e;cases e
 |some ds=>
  rw [he]at e;dsimp only at e
  by_cases hz:(ds++dds).length=n
  · rw [if_pos hz]at e
    refine h H0 av A σ H δ E ds he _ λvs H1 s1 r1 => ?_
    have E1:=E.mono s1;refine⟨AV av A,ds++dds,d,E1.avl,r1.cl.append (.of_vals hd),hz,e,λp ws xs H' s hp hH' l hd => ?_⟩
    have eu:upd (λx=>if x=p then none else H' x) p (.lst ws)=H':=by
     funext x
     by_cases hx:x=p
     · subst hx;rw [Z2,hH']
     · rw [ZI hx,if_neg hx]
    have:=k p ws xs (λx=>if x=p then none else H' x) (λb o q => ?_) (if_pos rfl) ((l.ext λb o n q => ?_).av λb z => .inl (.inl z)) hd
    · rw [eu]at this
      exact this
    · have hb:b≠p:=λz=>by rw [z]at q;rw [s1.free hp]at q;cases q
      show(if b=p then none else H' b)=some o;rw [if_neg hb];exact s b o (s1 b o q)
    · have hb:b≠p:=λz=>n (.inr z)
      show(if b=p then none else H' b)=some o;rw [if_neg hb];exact q
  · rw [if_neg hz]at e;cases e
end
section
variable{P:Program}{w:World}{K:PySem.W.Frag}{mg:Str->Option Value}{base:Heap}{cA:Kn}
theorem Zlu {x qual:Str} {st:Stmt} {f:Addr} {fd:FuncData} {N ps:List Str} {k:Nat} {φ:Env->Option Out} {body:List Stmt} {scope:Scope} {n:Nat} {m:List D->Option D} (F:FunX K x qual st f fd) (S:FnScope N ps (defScope st)) (hS:defScope st=scope) (hB:defBody st=body)
 (hbody:∀(cdv:Value)(A:Around)(outer:List PySem.Env)(s:Shared)(H:Hp)(E:XK),Room k (A.deeper (PyProof.Rows.envOfC qual scope s.heap.objs.size f cdv)) ->
   ∃t,PSs (YU CX0 P w K mg base N qual scope f cdv A outer s H E).nox body t/\VSL ⟨cA,λ_=>none⟩ [] t φ) (hm:m=Q8 N.length φ) (hn:ps.length=n):FnOk P w K mg base CX0 (k+1) f fd ps (spL cA n m):=by
 subst hS hB hm hn;refine F.ok S (λvs H Q E h => ?_) λcdv A outer s H vs Q E hr h => ?_
 · obtain⟨av,ds,d,_,r,hl,_⟩:=h
   rw [<-r.length,hl]
 · obtain⟨av,ds,d,ha,r,hl,hm,q⟩:=h
   obtain⟨t,ht,hv⟩:=hbody cdv A outer s H E hr;refine⟨t,ht,?_⟩;unfold Q8 at hm
   split at hm
   · rename_i d' hφ
     cases hm;exact hv H av _ _ H _ (ZaE ha r) _ hφ _ λp vs xs H' s' h0 hp l hd=>q p vs xs H' s' h0 hp l hd
   · cases hm
end
end DL
namespace L2
open PySem PySem.Spec PySem.W PyProof.Rows
theorem Zlv {X:Cx} {K:PySem.W.Frag} {o:Expr} {to:TE} {name:Str} {apos cpos:Pos} {T id:String} {r:V->List V->Hp->VK->Prop} (pa:PlainAttrs T) (slot:Slot T name id) (hty:typeOf (.builtin id)=pure (.type "method_descriptor")) (hm:MtR X id r) (ho:PE X o to)
 (hbase:attributeBase o name X.env (eval o X.env)=eval o X.env:=by rfl) (hline:(apos.endLine == cpos.line)=true:=by rfl) (hK:X.K=K:=by rfl):PE X (.Call (.Attribute o name apos) [] [] cpos) (ZkU K T r to):=hK▸Zjg pa slot hty hm ho hbase hline
end L2
namespace DL
open PySem PySem.Spec L2
section
variable{cA:Kn}{G:Cn}{ow owN owB owC ow1:List Nat}{i:Nat}
theorem MR.own{H0 H:Hp}{av:Addr->Prop}{A:Nat->Option Addr}{σ:L2.St}{δ:Env}{k:Nat}{xs:List D}{p:Addr}(R:MR G ow i H0 av A σ H δ)(hs:xs.all ZW=true)(hp:H p=none)(hk:k≠i)(hw:∀j,j∈ow1 ↔ j∈ow\/j=k)(hn:G.2 k=none):MR G ow1 i H0 av (λj=>if j=k then some p else A j) (σ.set k (some (.ref p))) (upd H p (.lst (xs.map val))) (δ.set k (some (.lst xs))):=by
 obtain⟨a,bs,rows,hd,M,h0,E⟩:=R.ex;refine⟨λz=>((hw i).mp z).elim R.ni λz=>hk z.symm,R.nn.set hk,R.avd,a,bs,rows,by rw [List.getElem?_set_ne hk];exact hd,M.mono (Ym hp),h0,?_⟩;rw [List.set_comm _ _ hk,Zf7 M (Ym hp)];exact E.own hp (.of_vals hs) hw (by rw [ZeL hk];exact hn)
end
end DL
namespace DL
open PySem PySem.Spec L2
section
variable{cA:Kn}{av:Addr->Prop}{H:Hp}
end
section
variable{G:Cn}{ow owN owB owC ow1:List Nat}{H0 H:Hp}{av:Addr->Prop}{A:Nat->Option Addr}{σ:L2.St}{δ:Env}
end
end DL
namespace L2
open PySem
end L2
namespace DL
open PySem PySem.Spec L2
section
variable{G:Cn}{ow owN owB owC ow1:List Nat}
def UL(i:Nat)(ε:Env->Option D)(δ:Env):Option Out:=match Za i δ,ε δ with
 |some (.lst xs),some (.lst ys)=>if xs.length+ys.length<=sizeLine then some (.nx (δ.set i (some (.lst (xs++ys)))))else none
 |_,_=>none
theorem Zjr{te:TE}{ε:Env->Option D}(i:Nat)(hi:ow.contains i=true)(h:VF G ow te ε):VS G ow ow owB owC (V7 (tBM G.1.K "list" rExtend (Xk i) (Y4 te tNil))) (UL i ε):=λH0 av A σ H δ E o e De k=>by
 unfold UL at e
 split at e
 · rename_i xs ys hv he
   by_cases hz:xs.length+ys.length<=sizeLine
   · rw [if_pos hz]at e
     cases e;have hi':i∈ow:=by simpa using hi
     cases hA:A i with
     |none=>exact absurd hA (E.dom' i hi')
     |some a=>
      obtain⟨v,g1,_,g3⟩:=E.var i _ (VN hv);obtain⟨rfl,ws,q1,q2⟩:=g3 a hA;refine⟨_,g1,.inl ⟨rfl,ws,SqL.of q1⟩,h H0 av A σ H δ E _ he _ λp vs zs H1 s1 hp l hd => ?_⟩;cases hd;have s2:Same H1 (upd H1 p (.lst vs)):=Ym hp;have E2:=(E.mono s1).mono s2;have q1':=s2 _ _ (s1 _ _ q1);have l2:=(q2.same s1).same s2;refine⟨a,p,ws,vs,rfl,rfl,q1',Z2,by rw [<-q2.length,<-l.length];exact hz,k A σ _ (E2.put hA (VN hv) (λb o hb e=>by rw [ZI hb];exact e) (by rw [Z2];exact λz=>by cases z) ⟨_,Z2,?_⟩)⟩
      exact(l2.append (l.same s2)).ext λb o n e=>by
       rw [ZI λz=>n (.inr ⟨i,by rw [z];exact hA⟩)];exact e
   · rw [if_neg hz]at e;cases e
 · cases e
end
section
variable{cA:Kn}{G:Cn}{ow owN owB owC ow1:List Nat}{i:Nat}
end
section
variable{P:Program}{w:World}{K:PySem.W.Frag}{mg:Str->Option Value}{base:Heap}{cA:Kn}
open Classical in
end
end DL
namespace L2
open PySem PySem.Spec PyProof.Rows
section
variable{X:Cx}
end
end L2
namespace DL
open PySem PySem.Spec L2
section
variable{cA:Kn}{G:Cn}{ow owN owB owC ow1:List Nat}{i:Nat}
mutual
def frz:D->Bool
 | .non=>true
 | .bl _=>true
 | .int _=>true
 | .str _=>true
 | .lst _=>false
 | .tup xs=>frzL xs
 | .obj _ _ xs=>frzL xs
 | .dct _ _=>false
 | .dtt _ _=>false
def frzL:List D->Bool
 | []=>true
 |x::xs=>frz x&&frzL xs
end
mutual
theorem Rep.frz{av av':Addr->Prop}{H:Hp}:∀{d:D}{v:V},frz d=true->(∀b,av' b->av b\/∃vs,H b=some (.lst vs))->Rep cA av H d v->Rep cA av' H d v
 | .non,_,_,_,h=>h
 | .bl _,_,_,_,h=>h
 | .int _,_,_,_,h=>h
 | .str _,_,_,_,h=>h
 | .lst xs,v,hf,k,h=>by cases hf
 | .tup xs,v,hf,k,h=>by
  unfold DL.frz at hf;unfold Rep at h ⊢;obtain⟨a,vs,e,n,r,l⟩:=h;exact⟨a,vs,e,λz=>(k a z).elim n (by rw [r];exact λ⟨_,z⟩=>by cases z),r,RepL.frz hf k l⟩
 | .obj c ks xs,v,hf,k,h=>by
  unfold DL.frz at hf;unfold Rep at h ⊢;obtain⟨a,dx,vs,e,n,r,z,l⟩:=h;exact⟨a,dx,vs,e,λz=>(k a z).elim n (by rw [r];exact λ⟨_,z⟩=>by cases z),r,z,RepL.frz hf k l⟩
 | .dct ks xs,v,hf,k,h=>by cases hf
 | .dtt ks xs,v,hf,k,h=>by cases hf
theorem RepL.frz{av av':Addr->Prop}{H:Hp}:∀{xs:List D}{vs:List V},frzL xs=true->(∀b,av' b->av b\/∃vs,H b=some (.lst vs))->RepL cA av H xs vs->RepL cA av' H xs vs
 | [],_,_,_,h=>h
 |x::xs,vs,hf,k,h=>by
  unfold DL.frzL at hf;rw [Bool.and_eq_true]at hf;unfold RepL at h ⊢;obtain⟨v,r,e,h1,h2⟩:=h;exact⟨v,r,e,Rep.frz hf.1 k h1,RepL.frz hf.2 k h2⟩
end
end
end DL
namespace PySem
open Sem (wp)
section
variable{prog:Program}{w:World}{A:Around}{E:Value->Shared->Prop}{s:Shared}
theorem ZcL {j t:Addr} {i:Nat} {xs:Array Value} {x:Value} {Q:Value->Shared->Prop} (hj:s.heap.IsTupleIter j t i) (ht:s.heap.IsTuple t xs) (hx:xs[i]? = some x)
 (hQ:∀h',h'.IsTupleIter j t (i+1)->Heap.SameBut j s.heap h'->Q x { s with heap:=h' }):wpAny (model prog w) A (Builtin.SmallTypes.nextOf (.ref j)) Q E s:=by
 obtain⟨oj,gj,cj,dj⟩:=id hj;obtain⟨ot,gt,_,nt,dt⟩:=ht;unfold Builtin.SmallTypes.nextOf;refine wpAny_bind (wpAny_callSpecial?_slot (name:=Str.ofString "__next__") hj.typeIs F.slot_tuple_iterator_next (wpAny_call_entry F.slot_tuple_iterator_next hj.typeIs F.entry_tuple_iterator_next ?_ (F.args_tuple_iterator_next_1 _)));show wpAny _ _ (field (.ref j) 0 >>= _) _ _ s;refine wpAny_bind (wpAny_field gj dj (x:=.ref t) rfl ?_)
 show wpAny _ _ (if(Value.ref t == Value.none)=true then _ else _) _ _ _;rw [if_neg (show ¬(Value.ref t == Value.none)=true from λz=>Bool.false_ne_true z)];show wpAny _ _ (field (.ref j) 1 >>= _) _ _ s;refine wpAny_bind (wpAny_field gj dj (x:=.int i 0) rfl ?_);show wpAny _ _ (seqItems? (.ref t) >>= _) _ _ _;refine wpAny_bind (wpAny_seqItems gt dt ?_);simp only [Int.toNat_natCast,hx];refine wpAny_bind (wpAny_setField gj dj (by simp) (wpAny_pure ⟨x,rfl,wpAny_pure (hQ _ ?_ (Heap.SameBut.update ..))⟩))
 refine⟨_,Heap.get?_update_self _ gj (Obj.isFreed_of_fields (Obj.data_mapFields dj _)),(Obj.cls_mapFields ..).trans cj,?_⟩;rw [Obj.data_mapFields dj];simp [rawInt]
theorem ZcM {j t:Addr} {i:Nat} {xs:Array Value} {Q:Value->Shared->Prop} (hh:A.handled=none) (hj:s.heap.IsTupleIter j t i) (ht:s.heap.IsTuple t xs) (hx:xs[i]? = none)
 (hE:∀h' e,Heap.ExtBut j s.heap h'->(∃o,h'.get? e=some o/\o.cls = .type "StopIteration")->E (.ref e) { s with heap:=h' }):wpAny (model prog w) A (Builtin.SmallTypes.nextOf (.ref j)) Q E s:=by
 obtain⟨oj,gj,cj,dj⟩:=id hj;obtain⟨ot,gt,_,nt,dt⟩:=ht;unfold Builtin.SmallTypes.nextOf;refine wpAny_bind (wpAny_callSpecial?_slot (name:=Str.ofString "__next__") hj.typeIs F.slot_tuple_iterator_next (wpAny_call_entry F.slot_tuple_iterator_next hj.typeIs F.entry_tuple_iterator_next ?_ (F.args_tuple_iterator_next_1 _)));show wpAny _ _ (field (.ref j) 0 >>= _) _ _ s;refine wpAny_bind (wpAny_field gj dj (x:=.ref t) rfl ?_)
 show wpAny _ _ (if(Value.ref t == Value.none)=true then _ else _) _ _ _;rw [if_neg (show ¬(Value.ref t == Value.none)=true from λz=>Bool.false_ne_true z)];show wpAny _ _ (field (.ref j) 1 >>= _) _ _ s;refine wpAny_bind (wpAny_field gj dj (x:=.int i 0) rfl ?_);show wpAny _ _ (seqItems? (.ref t) >>= _) _ _ _;refine wpAny_bind (wpAny_seqItems gt dt ?_);simp only [Int.toNat_natCast,hx];refine wpAny_bind (wpAny_rule (wpAny_bind (wpAny_setField gj dj (by simp) ?_)))
 show wpAny _ _ (newExc (.type "StopIteration") List.nil >>= _) _ _ _;refine wpAny_bind ?_;simp only [newExc,newTuple];refine wpAny_bind (wpAny_newObj_type (wpAny_bind (m:=firstArgMember _ _) (wpAny_of_eq (a:=Value.none) (by first|rfl|(simp only [firstArgMember];rfl)) (wpAny_newObj_type ?_ (by size_fits)))) (by size_fits));simp only [raiseNew];refine wpAny_bind (wpAny_handled ?_)
 first|rw [show A.in1.handled=none from hh]|rw [hh]
 exact wpAny_bind (wpAny_pure (wpAny_throw (hE _ _ (((Heap.SameBut.update ..).extBut.push _).push _) ⟨_,Heap.get?_push_size _ rfl,rfl⟩)))
end
def IsQI(k:Bool)(h:Heap)(a l:Addr)(i:Nat):Prop:=match k with
 |true=>h.IsTupleIter a l i
 |false=>h.IsListIter a l i
def IsQ(k:Bool)(h:Heap)(l:Addr)(xs:Array Value):Prop:=match k with
 |true=>h.IsTuple l xs
 |false=>h.IsList l xs
theorem IsQI.get{k:Bool}{h:Heap}{a l:Addr}{i:Nat}(x:IsQI k h a l i):∃o,h.get? a=some o/\o.data = .fields #[.ref l,.int i 0]:=by
 cases k with
 |true=>obtain⟨o,e,_,d⟩:=x;exact⟨o,e,d⟩
 |false=>obtain⟨o,e,_,d⟩:=x;exact⟨o,e,d⟩
theorem IsQI.at{k:Bool}{h h':Heap}{a l:Addr}{i:Nat}(x:IsQI k h a l i)(f:∀o,h.get? a=some o->h'.get? a=some o):IsQI k h' a l i:=by
 cases k with
 |true=>obtain⟨o,e,r⟩:=x;exact⟨o,f o e,r⟩
 |false=>obtain⟨o,e,r⟩:=x;exact⟨o,f o e,r⟩
theorem IsQI.ext{k:Bool}{h h':Heap}{a b l:Addr}{i:Nat}(x:IsQI k h a l i)(hs:Heap.ExtBut b h h')(n:a≠b):IsQI k h' a l i:=x.at λo e=>hs a o n e
theorem IsQ.at{k:Bool}{h h':Heap}{l:Addr}{xs:Array Value}(x:IsQ k h l xs)(f:∀o,h.get? l=some o->h'.get? l=some o):IsQ k h' l xs:=by
 cases k with
 |true=>obtain⟨o,e,r⟩:=x;exact⟨o,f o e,r⟩
 |false=>obtain⟨o,e,r⟩:=x;exact⟨o,f o e,r⟩
theorem IsQ.ext{k:Bool}{h h':Heap}{b l:Addr}{xs:Array Value}(x:IsQ k h l xs)(hs:Heap.ExtBut b h h')(n:l≠b):IsQ k h' l xs:=x.at λo e=>hs l o n e
theorem IsQ.lt{k:Bool}{h:Heap}{l:Addr}{xs:Array Value}(x:IsQ k h l xs):l<h.objs.size:=by
 cases k with
 |true=>obtain⟨o,e,_⟩:=x;exact Heap.lt_size e
 |false=>obtain⟨o,e,_⟩:=x;exact Heap.lt_size e
section
variable{prog:Program}{w:World}{A:Around}{E:Value->Shared->Prop}{s:Shared}
theorem Zau {k:Bool} {j t:Addr} {i:Nat} {xs:Array Value} {x:Value} {Q:Value->Shared->Prop} (hj:IsQI k s.heap j t i) (ht:IsQ k s.heap t xs) (hx:xs[i]? = some x)
 (hQ:∀h',IsQI k h' j t (i+1)->Heap.SameBut j s.heap h'->Q x { s with heap:=h' }):wpAny (model prog w) A (Builtin.SmallTypes.nextOf (.ref j)) Q E s:=by
 cases k with
 |true=>exact ZcL hj ht hx hQ
 |false=>exact wpAny_nextOf_list_item hj ht hx hQ
theorem Zb0 {k:Bool} {j t:Addr} {i:Nat} {xs:Array Value} {Q:Value->Shared->Prop} (hh:A.handled=none) (hj:IsQI k s.heap j t i) (ht:IsQ k s.heap t xs) (hx:xs[i]? = none)
 (hE:∀h' e,Heap.ExtBut j s.heap h'->(∃o,h'.get? e=some o/\o.cls = .type "StopIteration")->E (.ref e) { s with heap:=h' }):wpAny (model prog w) A (Builtin.SmallTypes.nextOf (.ref j)) Q E s:=by
 cases k with
 |true=>exact ZcM hh hj ht hx hE
 |false=>exact wpAny_nextOf_list_end hh hj ht hx hE
theorem Zfx {p q:Bool} {z TI TO i1 i2 l1 l2:Addr} {k1 k2:Nat} {xs ys:Array Value} {x y a b:Value} {Q:Value->Shared->Prop} (D:ZipApart z TI TO i1 i2 l1 l2)
 (gz:IsZip s.heap z TI TO .none) (gI:IsPair s.heap TI (.ref i1) (.ref i2)) (gO:IsPair s.heap TO a b) (u1:IsQI p s.heap i1 l1 k1) (u2:IsQI q s.heap i2 l2 k2) (m1:IsQ p s.heap l1 xs) (m2:IsQ q s.heap l2 ys) (hx:xs[k1]? = some x) (hy:ys[k2]? = some y)
 (hQ:∀h',IsZip h' z TI TO (rawInt s.heap.objs.size)->IsPair h' TO x y->IsQI p h' i1 l1 (k1+1)->IsQI q h' i2 l2 (k2+1)->IsPair h' s.heap.objs.size x y->h'.objs.size=s.heap.objs.size+1->(∀c o,c≠z->c≠TO->c≠i1->c≠i2->s.heap.get? c=some o->h'.get? c=some o)->Q (.ref s.heap.objs.size) { s with heap:=h' }) :
 wpAny (model prog w) A (Builtin.«zip.__next__» ⟨[.ref z],[]⟩) (λfin s'=>∃v,fin = .done (.ret v)/\Q v s') E s:=by
 show wpAny _ _ (field (.ref z) 2 >>= λ_=>_) _ _ _;refine wpAny_bind (wpAny_field gz rfl (x:=.bool false) rfl ?_);show wpAny _ _ (field (.ref z) 3 >>= λ_=>_) _ _ _;refine wpAny_bind (wpAny_field gz rfl (x:=.ref TI) rfl (wpAny_bind (wpAny_seqItems gI rfl ?_)));show wpAny _ _ (Builtin.SmallTypes.ownedTupleIsFree (.ref z) >>= λ_=>_) _ _ _;unfold Builtin.SmallTypes.ownedTupleIsFree;refine wpAny_bind (wpAny_bind (wpAny_field gz rfl (x:=.none) rfl (wpAny_pure ?_)))
 simp only [if_true];refine wpAny_bind (wpAny_rule (wpAny_bind (wpAny_field gz rfl (x:=.ref TO) rfl (wpAny_bind (wpAny_setField_rec gz (by simp) λh₁ gz₁ s₁ => ?_)))));have gz₁:IsZip h₁ z TI TO .ellipsis:=gz₁;refine wpAny_bind ?_;simp only [List.zipIdx_cons,List.forIn_cons,List.zipIdx_nil,List.forIn_nil];refine wpAny_bind (wpAny_bind (wpAny_onRaise (wpAny_bind (m:=Builtin.SmallTypes.nextOf (.ref i1)) (Zau (u1.ext s₁.extBut D.i1z) (m1.ext s₁.extBut D.l1z) hx λh₂ u1₂ s₂=>wpAny_pure ?_))))
 have gO₂:IsPair h₂ TO a b:=s₂.extBut _ _ D.TOi1 (s₁.extBut _ _ D.TOz gO);refine wpAny_bind (wpAny_seqItems gO₂ rfl (wpAny_bind (wpAny_updateSeq_pair gO₂ λh₃ gO₃ s₃ => ?_)));have gO₃:IsPair h₃ TO x b:=gO₃;refine wpAny_bind (wpAny_letGo (wpAny_pure ?_));refine wpAny_bind (wpAny_bind (wpAny_onRaise (wpAny_bind (m:=Builtin.SmallTypes.nextOf (.ref i2)) (Zau (((u2.ext s₁.extBut D.i2z).ext s₂.extBut D.i12.symm).ext s₃.extBut D.TOi2.symm) (((m2.ext s₁.extBut D.l2z).ext s₂.extBut D.l2i1).ext s₃.extBut D.l2TO) hy λh₄ u2₄ s₄=>wpAny_pure ?_))))
 have gO₄:IsPair h₄ TO x b:=s₄.extBut _ _ D.TOi2 gO₃;refine wpAny_bind (wpAny_seqItems gO₄ rfl (wpAny_bind (wpAny_updateSeq_pair gO₄ λh₅ gO₅ s₅ => ?_)));have gO₅:IsPair h₅ TO x y:=gO₅;refine wpAny_bind (wpAny_letGo (wpAny_pure (wpAny_pure (wpAny_bind (wpAny_seqItems gO₅ rfl (wpAny_bind (wpAny_newTuple ?_)))))));have ez:h₅.objs.size=s.heap.objs.size:=by rw [s₅.1,s₄.1,s₃.1,s₂.1,s₁.1]
 have gz₅:IsZip h₅ z TI TO .ellipsis:=s₅.extBut _ _ D.TOz.symm (s₄.extBut _ _ D.i2z.symm (s₃.extBut _ _ D.TOz.symm (s₂.extBut _ _ D.i1z.symm gz₁)));have kp:∀c o,c≠z->c≠TO->c≠i1->c≠i2->s.heap.get? c=some o->h₅.get? c=some o:=λc o c1 c2 c3 c4 e=>s₅.extBut _ _ c2 (s₄.extBut _ _ c4 (s₃.extBut _ _ c2 (s₂.extBut _ _ c3 (s₁.extBut _ _ c1 e))))
 have u1₅:IsQI p h₅ i1 l1 (k1+1):=((u1₂.ext s₃.extBut D.TOi1.symm).ext s₄.extBut D.i12).ext s₅.extBut D.TOi1.symm;have u2₅:IsQI q h₅ i2 l2 (k2+1):=u2₄.ext s₅.extBut D.TOi2.symm;have lz:z<h₅.objs.size:=Heap.lt_size gz₅;show wpAny _ _ (Builtin.SmallTypes.ownedTupleHandOut (.ref z) (.ref h₅.objs.size) >>= λ_=>_) _ _ _;unfold Builtin.SmallTypes.ownedTupleHandOut;have gz₆:IsZip (h₅.push { cls := .type "tuple",data := .seq #[x,y] }) z TI TO .ellipsis:=Heap.get?_push_of_some _ gz₅
 refine wpAny_bind (wpAny_bind (wpAny_setField_rec gz₆ (by simp) λh₇ gz₇ s₇ => ?_));have gz₇:IsZip h₇ z TI TO (rawInt h₅.objs.size):=gz₇;refine wpAny_setField_rec gz₇ (by simp) λh₈ gz₈ s₈ => ?_
 have gz₈:IsZip h₈ z TI TO (rawInt h₅.objs.size):=gz₈;have up:∀c o,c≠z->h₅.get? c=some o->h₈.get? c=some o:=λc o c1 e=>s₈.extBut _ _ c1 (s₇.extBut _ _ c1 (Heap.get?_push_of_some _ e))
 have gT:IsPair h₈ h₅.objs.size x y:=s₈.extBut _ _ (Nat.ne_of_gt lz) (s₇.extBut _ _ (Nat.ne_of_gt lz) (Heap.get?_push_size _ rfl));have e8:h₈.objs.size=h₅.objs.size+1:=by rw [s₈.1,s₇.1,Heap.size_push]
 rw [ez]at gz₈ gT e8;refine wpAny_pure ⟨_,rfl,?_⟩;rw [ez];exact hQ h₈ gz₈ (up _ _ D.TOz gO₅) (u1₅.at λo e=>up _ o D.i1z e) (u2₅.at λo e=>up _ o D.i2z e) gT e8 λc o c1 c2 c3 c4 e=>up c o c1 (kp c o c1 c2 c3 c4 e)
theorem Zga {p q:Bool} {z TI TO i1 i2 l1 l2:Addr} {k1 k2:Nat} {xs ys:Array Value} {a b:Value} {Q:Fin->Shared->Prop} (hh:A.handled=none) (D:ZipApart z TI TO i1 i2 l1 l2)
 (gz:IsZip s.heap z TI TO .none) (gI:IsPair s.heap TI (.ref i1) (.ref i2)) (gO:IsPair s.heap TO a b) (u1:IsQI p s.heap i1 l1 k1) (u2:IsQI q s.heap i2 l2 k2) (m1:IsQ p s.heap l1 xs) (m2:IsQ q s.heap l2 ys) (hend:xs[k1]? = none\/ys[k2]? = none)
 (hE:∀h' e,(∀c o,c≠z->c≠TO->c≠i1->c≠i2->s.heap.get? c=some o->h'.get? c=some o)->(∃o,h'.get? e=some o/\o.cls = .type "StopIteration")->E (.ref e) { s with heap:=h' }) :
 wpAny (model prog w) A (Builtin.«zip.__next__» ⟨[.ref z],[]⟩) Q E s:=by
 show wpAny _ _ (field (.ref z) 2 >>= λ_=>_) _ _ _;refine wpAny_bind (wpAny_field gz rfl (x:=.bool false) rfl ?_);show wpAny _ _ (field (.ref z) 3 >>= λ_=>_) _ _ _;refine wpAny_bind (wpAny_field gz rfl (x:=.ref TI) rfl (wpAny_bind (wpAny_seqItems gI rfl ?_)));show wpAny _ _ (Builtin.SmallTypes.ownedTupleIsFree (.ref z) >>= λ_=>_) _ _ _;unfold Builtin.SmallTypes.ownedTupleIsFree;refine wpAny_bind (wpAny_bind (wpAny_field gz rfl (x:=.none) rfl (wpAny_pure ?_)))
 simp only [if_true];refine wpAny_bind (wpAny_rule (wpAny_bind (wpAny_field gz rfl (x:=.ref TO) rfl (wpAny_bind (wpAny_setField_rec gz (by simp) λh₁ gz₁ s₁ => ?_)))));have gz₁:IsZip h₁ z TI TO .ellipsis:=gz₁;refine wpAny_bind ?_;simp only [List.zipIdx_cons,List.forIn_cons,List.zipIdx_nil,List.forIn_nil];cases hx:xs[k1]? with
 |none=>
  refine wpAny_bind (wpAny_bind (wpAny_onRaise (wpAny_bind (m:=Builtin.SmallTypes.nextOf (.ref i1)) (Zb0 hh (u1.ext s₁.extBut D.i1z) (m1.ext s₁.extBut D.l1z) hx λh₂ e s₂ he => ?_))));obtain⟨oe,ge,ce⟩:=he;have gz₂:IsZip h₂ z TI TO .ellipsis:=s₂ _ _ D.i1z.symm gz₁;have nez:e≠z:=λv=>by rw [v,gz₂]at ge;cases ge;simp at ce
  exact wpAny_setField_rec gz₂ (by simp) λh₃ _ s₃=>hE h₃ e (λc o c1 _ c3 _ v=>s₃.extBut _ _ c1 (s₂ _ _ c3 (s₁.extBut _ _ c1 v))) ⟨oe,s₃.extBut _ _ nez ge,ce⟩
 |some x=>
  have hy:ys[k2]? = none:=hend.resolve_left (by rw [hx];exact λv=>by cases v);refine wpAny_bind (wpAny_bind (wpAny_onRaise (wpAny_bind (m:=Builtin.SmallTypes.nextOf (.ref i1)) (Zau (u1.ext s₁.extBut D.i1z) (m1.ext s₁.extBut D.l1z) hx λh₂ u1₂ s₂=>wpAny_pure ?_))));have gO₂:IsPair h₂ TO a b:=s₂.extBut _ _ D.TOi1 (s₁.extBut _ _ D.TOz gO);refine wpAny_bind (wpAny_seqItems gO₂ rfl (wpAny_bind (wpAny_updateSeq_pair gO₂ λh₃ gO₃ s₃=>wpAny_bind (wpAny_letGo (wpAny_pure ?_)))))
  refine wpAny_bind (wpAny_bind (wpAny_onRaise (wpAny_bind (m:=Builtin.SmallTypes.nextOf (.ref i2)) (Zb0 hh (((u2.ext s₁.extBut D.i2z).ext s₂.extBut D.i12.symm).ext s₃.extBut D.TOi2.symm) (((m2.ext s₁.extBut D.l2z).ext s₂.extBut D.l2i1).ext s₃.extBut D.l2TO) hy λh₄ e s₄ he => ?_))));obtain⟨oe,ge,ce⟩:=he;have gz₄:IsZip h₄ z TI TO .ellipsis:=s₄ _ _ D.i2z.symm (s₃.extBut _ _ D.TOz.symm (s₂.extBut _ _ D.i1z.symm gz₁))
  have nez:e≠z:=λv=>by rw [v,gz₄]at ge;cases ge;simp at ce
  exact wpAny_setField_rec gz₄ (by simp) λh₅ _ s₅=>hE h₅ e (λc o c1 c2 c3 c4 v=>s₅.extBut _ _ c1 (s₄ _ _ c4 (s₃.extBut _ _ c2 (s₂.extBut _ _ c3 (s₁.extBut _ _ c1 v))))) ⟨oe,s₅.extBut _ _ nez ge,ce⟩
theorem Zco {p q:Bool} {z TI TO i1 i2 l1 l2:Addr} {k1 k2:Nat} {xs ys:Array Value} {x y a b:Value} {Q:Option Value->Shared->Prop} (D:ZipApart z TI TO i1 i2 l1 l2)
 (gz:IsZip s.heap z TI TO .none) (gI:IsPair s.heap TI (.ref i1) (.ref i2)) (gO:IsPair s.heap TO a b) (u1:IsQI p s.heap i1 l1 k1) (u2:IsQI q s.heap i2 l2 k2) (m1:IsQ p s.heap l1 xs) (m2:IsQ q s.heap l2 ys) (hx:xs[k1]? = some x) (hy:ys[k2]? = some y)
 (hQ:∀h',IsZip h' z TI TO (rawInt s.heap.objs.size)->IsPair h' TO x y->IsQI p h' i1 l1 (k1+1)->IsQI q h' i2 l2 (k2+1)->IsPair h' s.heap.objs.size x y->h'.objs.size=s.heap.objs.size+1->(∀c o,c≠z->c≠TO->c≠i1->c≠i2->s.heap.get? c=some o->h'.get? c=some o)->Q (some (.ref s.heap.objs.size)) { s with heap:=h' }) :
 wpAny (model prog w) A (pyNext (.ref z)) Q E s:=by
 have tz:s.TypeIs (.ref z) "zip" := ⟨_,gz,rfl⟩
 unfold pyNext;exact wpAny_bind (wpAny_attempt (wpAny_callSpecial?_slot (name:=Str.ofString "__next__") tz F.slot_zip_next (wpAny_call_entry F.slot_zip_next tz F.entry_zip_next (Zfx D gz gI gO u1 u2 m1 m2 hx hy λh' a1 a2 a3 a4 a5 a6 a7=>wpAny_pure (hQ h' a1 a2 a3 a4 a5 a6 a7)) (F.args_zip_next_1 _))))
theorem ZcN {p q:Bool} {z TI TO i1 i2 l1 l2:Addr} {k1 k2:Nat} {xs ys:Array Value} {a b:Value} {Q:Option Value->Shared->Prop} (hh:A.handled=none) (D:ZipApart z TI TO i1 i2 l1 l2)
 (gz:IsZip s.heap z TI TO .none) (gI:IsPair s.heap TI (.ref i1) (.ref i2)) (gO:IsPair s.heap TO a b) (u1:IsQI p s.heap i1 l1 k1) (u2:IsQI q s.heap i2 l2 k2) (m1:IsQ p s.heap l1 xs) (m2:IsQ q s.heap l2 ys) (hend:xs[k1]? = none\/ys[k2]? = none)
 (hQ:∀h',(∀c o,c≠z->c≠TO->c≠i1->c≠i2->s.heap.get? c=some o->h'.get? c=some o)->Q none { s with heap:=h' }):wpAny (model prog w) A (pyNext (.ref z)) Q E s:=by
 have tz:s.TypeIs (.ref z) "zip" := ⟨_,gz,rfl⟩
 unfold pyNext;refine wpAny_bind (wpAny_attempt (wpAny_callSpecial?_slot (name:=Str.ofString "__next__") tz F.slot_zip_next (wpAny_call_entry F.slot_zip_next tz F.entry_zip_next (Zga hh D gz gI gO u1 u2 m1 m2 hend λh' e hk he => ?_) (F.args_zip_next_1 _))));obtain⟨o,go,co⟩:=he;exact wpAny_bind (wpAny_isInstance (T:="StopIteration") (b:=true) ⟨o,go,co⟩ isSubtype_stop (wpAny_pure (hQ _ hk)))
end
abbrev itO(k:Bool)(l:Addr):Obj:={ cls := .type (if k then "tuple_iterator" else "list_iterator"),data := .fields #[.ref l,.int 0 0] }
abbrev zq2(p q:Bool)(h:Heap)(l1 l2:Addr):Heap:=(h.push (itO p l1)).push (itO q l2)
abbrev zq3(p q:Bool)(h:Heap)(l1 l2:Addr):Heap:=(zq2 p q h l1 l2).push { cls := .type "tuple",data := .seq #[.ref h.objs.size,.ref (h.push (itO p l1)).objs.size] }
abbrev zq4(p q:Bool)(h:Heap)(l1 l2:Addr):Heap:=(zq3 p q h l1 l2).push { cls := .type "tuple",data := .seq #[.none,.none] }
abbrev zq5(p q:Bool)(h:Heap)(l1 l2:Addr):Heap:=(zq4 p q h l1 l2).push { cls := .type "zip",data := .fields #[.none,.bool false,.bool false,.ref (zq2 p q h l1 l2).objs.size,.ref (zq3 p q h l1 l2).objs.size] }
theorem ZdT(p q:Bool)(l1 l2:Addr)(xs ys:Array Value):Meets (Builtin.«zip.__new__» ⟨[.type "zip",.ref l1,.ref l2],[]⟩) (λ_ R s=>IsQ p s.heap l1 xs/\IsQ q s.heap l2 ys/\R (.ok (.ret (.ref (zq4 p q s.heap l1 l2).objs.size))) { s with heap:=zq5 p q s.heap l1 l2 }):=
 .of_wp λprog w A R s h=>by
  obtain⟨hp,g,d,tk,os⟩:=s;obtain⟨m1,m2,h⟩:=h;have hsub:=sub_zip;cases p<;>cases q
  · have e1:Heap.IsList (Shared.heap ⟨hp,g,d,tk,os⟩) l1 xs:=m1
    have e2:Heap.IsList (Shared.heap ⟨hp.push { cls := .type "list_iterator",data := .fields #[.ref l1,.int 0 0] },g,d,tk,os⟩) l2 ys:=Heap.IsList.push m2 _
    wp_walk using wpAny_pyIter_list e1,wpAny_pyIter_list e2
    exact⟨_,rfl,h⟩
  · have e1:Heap.IsList (Shared.heap ⟨hp,g,d,tk,os⟩) l1 xs:=m1
    have e2:Heap.IsTuple (Shared.heap ⟨hp.push { cls := .type "list_iterator",data := .fields #[.ref l1,.int 0 0] },g,d,tk,os⟩) l2 ys:=Heap.IsTuple.push m2 _
    wp_walk using wpAny_pyIter_list e1,wpAny_pyIter_tuple e2
    exact⟨_,rfl,h⟩
  · have e1:Heap.IsTuple (Shared.heap ⟨hp,g,d,tk,os⟩) l1 xs:=m1
    have e2:Heap.IsList (Shared.heap ⟨hp.push { cls := .type "tuple_iterator",data := .fields #[.ref l1,.int 0 0] },g,d,tk,os⟩) l2 ys:=Heap.IsList.push m2 _
    wp_walk using wpAny_pyIter_tuple e1,wpAny_pyIter_list e2
    exact⟨_,rfl,h⟩
  · have e1:Heap.IsTuple (Shared.heap ⟨hp,g,d,tk,os⟩) l1 xs:=m1
    have e2:Heap.IsTuple (Shared.heap ⟨hp.push { cls := .type "tuple_iterator",data := .fields #[.ref l1,.int 0 0] },g,d,tk,os⟩) l2 ys:=Heap.IsTuple.push m2 _
    wp_walk using wpAny_pyIter_tuple e1,wpAny_pyIter_tuple e2
    exact⟨_,rfl,h⟩
theorem ZgK(k:Bool){h:Heap}{a l:Addr}(e:h.get? a=some (itO k l)):IsQI k h a l 0:=by
 cases k with
 |true=>exact⟨_,e,rfl,rfl⟩
 |false=>exact⟨_,e,rfl,rfl⟩
section
variable{prog:Program}{w:World}{A:Around}{E:Value->Shared->Prop}{s:Shared}
theorem Zfy {p q:Bool} {l1 l2:Addr} {xs ys:Array Value} {Q:Value->Shared->Prop} (m1:IsQ p s.heap l1 xs) (m2:IsQ q s.heap l2 ys)
 (h:∀h',IsZip h' (s.heap.objs.size+4) (s.heap.objs.size+2) (s.heap.objs.size+3) .none->IsPair h' (s.heap.objs.size+2) (.ref s.heap.objs.size) (.ref (s.heap.objs.size+1))->IsPair h' (s.heap.objs.size+3) .none .none->IsQI p h' s.heap.objs.size l1 0->IsQI q h' (s.heap.objs.size+1) l2 0->(∀c o,s.heap.get? c=some o->h'.get? c=some o)->Q (.ref (s.heap.objs.size+4)) { s with heap:=h' }) :
 wpAny (model prog w) A (call (.type "zip") [.ref l1,.ref l2]) Q E s:=by
 refine callType_new F.called_zip (by decide) (F.typeCall_zip_2 _ _) (F.newCall_zip_2 _ _) (λobj=>F.args_object_init_3 obj _ _) F.entry_zip_new (ZdT p q l1 l2 xs ys) ⟨m1,m2,?_⟩;have z1:(s.heap.push (itO p l1)).objs.size=s.heap.objs.size+1:=Heap.size_push ..;have z2:(zq2 p q s.heap l1 l2).objs.size=s.heap.objs.size+2:=by rw [Heap.size_push,z1]
 have z3:(zq3 p q s.heap l1 l2).objs.size=s.heap.objs.size+3:=by rw [Heap.size_push,z2]
 have z4:(zq4 p q s.heap l1 l2).objs.size=s.heap.objs.size+4:=by rw [Heap.size_push,z3]
 have up:=λ(h:Heap) (o o':Obj) (a:Addr) (e:h.get? a=some o')=>Heap.get?_push_of_some (h:=h) o e
 have g5:(zq5 p q s.heap l1 l2).get? (zq4 p q s.heap l1 l2).objs.size=some _:=Heap.get?_push_size _ rfl;have g4:(zq5 p q s.heap l1 l2).get? (zq3 p q s.heap l1 l2).objs.size=some _:=up _ _ _ _ (Heap.get?_push_size _ rfl);have g3:(zq5 p q s.heap l1 l2).get? (zq2 p q s.heap l1 l2).objs.size=some _:=up _ _ _ _ (up _ _ _ _ (Heap.get?_push_size _ rfl));have g2:(zq5 p q s.heap l1 l2).get? (s.heap.push (itO p l1)).objs.size=some (itO q l2):=up _ _ _ _ (up _ _ _ _ (up _ _ _ _ (Heap.get?_push_size _ (by cases q<;>rfl))))
 have g1:(zq5 p q s.heap l1 l2).get? s.heap.objs.size=some (itO p l1):=up _ _ _ _ (up _ _ _ _ (up _ _ _ _ (up _ _ _ _ (Heap.get?_push_size _ (by cases p<;>rfl)))));show _/\_;rw [z2,z3,z4]at g5;rw [z1,z2]at g3;rw [z3]at g4;rw [z1]at g2;rw [z4];exact⟨⟨_,g5,rfl⟩,h _ g5 g3 g4 (ZgK p g1) (ZgK q g2) λc o e=>up _ _ _ _ (up _ _ _ _ (up _ _ _ _ (up _ _ _ _ (up _ _ _ _ e))))⟩
end
end PySem
namespace L2
open PySem PySem.Spec PyProof.Rows
def SqQ(k:Bool)(K:PySem.W.Frag)(H:Hp)(a:Addr)(xs:List V):Prop:=match k with
 |true=>SqT K H a xs
 |false=>SqL K H a xs
theorem Inv.seqQ{X:Cx}{pins:List (Addr×Obj)}{σ:St}{H:Hp}{s:Shared}{k:Bool}{a:Addr}{xs:List V}(I:Inv X pins σ H s)(h:SqQ k X.K H a xs):∃its:List Value,Vals xs its/\IsQ k s.heap a its.toArray/\xs.length<=sizeLine:=by
 cases k with
 |true=>exact I.tuple h
 |false=>
  obtain⟨its,r,p,z⟩:=I.list h;exact⟨its,r,p.isList,z⟩
theorem Inv.seqQ_inj{X:Cx}{pins:List (Addr×Obj)}{σ:St}{H:Hp}{s:Shared}{k:Bool}{a:Addr}{xs ys:List V}(I:Inv X pins σ H s)(h:SqQ k X.K H a xs)(h':SqQ k X.K H a ys):xs=ys:=by
 cases k with
 |true=>exact I.tuple_inj h h'
 |false=>exact Inv.list_inj I h h'
def Zk1(kp kq:Bool)(K:PySem.W.Frag)(l1 l2:Addr):It:=
 ⟨λi H=>∃xs ys x y,SqQ kp K H l1 xs/\SqQ kq K H l2 ys/\xs[i]? = some x/\ys[i]? = some y,
  λi H v H'=>∃x y p,(∀xs,SqQ kp K H l1 xs->xs[i]? = some x)/\(∀ys,SqQ kq K H l2 ys->ys[i]? = some y)/\H p=none/\v = .ref p/\H'=upd H p (.tup [x,y]),
  λi H=>∃xs ys,SqQ kp K H l1 xs/\SqQ kq K H l2 ys/\(xs.length<=i\/ys.length<=i)⟩
theorem Zfz{p q:Bool}{P:Program}{w:World}{K:PySem.W.Frag}{elts:List Expr}{x1:Nat}{tpos:Pos}(n l1 l2:Nat)(hl1:l1<n)(hl2:l2<n) :
 Turn P w K (.Tuple elts x1 tpos) (Zk1 p q K l1 l2) [n+4,n+2,n+3,n,n+1] (n+4) (λi h=>IsZip h (n+4) (n+2) (n+3) .none/\IsPair h (n+2) (.ref n) (.ref (n+1))/\(∃a b,IsPair h (n+3) a b)/\IsQI p h n l1 i/\IsQI q h (n+1) l2 i) where
 mem:=by simp
 obj:=λi h st b hb=>by
  obtain⟨hz,hTI,⟨a,b',hTO⟩,h1,h2⟩:=st;obtain⟨o1,ho1,hd1⟩:=h1.get;obtain⟨o2,ho2,hd2⟩:=h2.get;simp at hb;rcases hb with rfl|rfl|rfl|rfl|rfl
  · exact ⟨_, hz, fun v z => by
     have z':Data.fields _=Data.cell v:=z;cases z'⟩
  · exact ⟨_, hTI, fun v z => by
     have z':Data.seq _ _=Data.cell v:=z;cases z'⟩
  · exact ⟨_, hTO, fun v z => by
     have z':Data.seq _ _=Data.cell v:=z;cases z'⟩
  · exact⟨o1,ho1,λv z=>by rw [hd1]at z;cases z⟩
  · exact⟨o2,ho2,λv z=>by rw [hd2]at z;cases z⟩
 keep:=λi h h' st k=>by
  obtain⟨hz,hTI,⟨a,b',hTO⟩,h1,h2⟩:=st;exact⟨k _ (by simp) _ hz,k _ (by simp) _ hTI,⟨a,b',k _ (by simp) _ hTO⟩,h1.at λo q=>k n (by simp) o q,h2.at λo q=>k (n+1) (by simp) o q⟩
 item:=by
  intro X hP hw hK hc i pins s σ H E I hf st hg;subst hP hw hK;obtain⟨hz,hTI,⟨a,b',hTO⟩,h1,h2⟩:=st;obtain⟨xs,ys,x,y,hq1,hq2,hx,hy⟩:=hg;obtain⟨its1,rv1,p1,_⟩:=I.seqQ hq1;obtain⟨its2,rv2,p2,_⟩:=I.seqQ hq2;obtain⟨u,hu,ru⟩:=rv1.get hx;obtain⟨v,hv,rv⟩:=rv2.get hy;have D:ZipApart (n+4) (n+2) (n+3) n (n+1) l1 l2:=zipApart_new hl1 hl2;refine Zco D hz hTI hTO h1 h2 p1 p2 (x:=u) (y:=v) (by simpa using hu) (by simpa using hv) λh' a1 a2 a3 a4 a5 a6 hk => ?_
  refine⟨_,rfl,wpAny_letOwnedTupleGo_zip a1 λh2' hz2 hs2 => ?_⟩;have hs2:Heap.SameBut (n+4) h' h2':=hs2;have hzl:n+4<s.heap.objs.size:=Heap.lt_size hz;have hT2:h2'.get? s.heap.objs.size=some { cls := .type "tuple",data := .seq #[u,v] }:=(hs2.2 _ (Nat.ne_of_gt hzl)).trans a5;have k2:∀b o,b≠n+4->b≠n+3->b≠n->b≠n+1->s.heap.get? b=some o->h2'.get? b=some o:=λb o b1 b2 b3 b4 q=>(hs2.2 b b1).trans (hk b o b1 b2 b3 b4 q)
  have hTn:H s.heap.objs.size=none:=I.hok.fresh (Nat.le_refl _);have neT:∀b o,s.heap.get? b=some o->b≠s.heap.objs.size:=λb o q=>Nat.ne_of_lt (Heap.lt_size q)
  have hF:∀b,b=n+4\/b=n+3\/b=n\/b=n+1->Xg X pins H b:=λb hb=>hf b (by rcases hb with rfl|rfl|rfl|rfl<;>simp)
  have I2:Inv X pins σ (upd H s.heap.objs.size (.tup [x,y])) { s with heap:=h2' }:=by
   refine I.step (g':=s.gens) (d':=s.drawn) (t':=s.toks) (ch:=[n+4,n+3,n,n+1]) (λb hb => ?_) (λb o _ _ hcb q _ => ?_) (λb o _ _ hcb q _ => ?_) (λb o hcb q m => ?_) (λb o hcb q => ?_) (λb xs q => ?_) (λb o v q => ?_) (λb ps q => ?_) (λm hm => ?_) (λb o q => ?_) I.bare
   · obtain⟨e0,e1,e2,e3,e4,e5⟩:=hF b (by simpa using hb)
     exact⟨e3,e1,e4,e5⟩
   · simp at hcb
     exact k2 b o hcb.1 hcb.2.1 hcb.2.2.1 hcb.2.2.2 q
   · simp at hcb
     exact⟨o.slots,k2 b o hcb.1 hcb.2.1 hcb.2.2.1 hcb.2.2.2 q⟩
   · rw [ZI (neT b o q)]
     exact m
   · simp at hcb
     exact⟨o,k2 b o hcb.1 hcb.2.1 hcb.2.2.1 hcb.2.2.2 q⟩
   · rw [ZI (Xb q hTn)]
     exact q
   · rw [ZI (Xb q hTn)]
     exact q
   · exact⟨#[],by rw [ZI (Xb q hTn),q];simp⟩
   · obtain⟨o,es,ep,q,r⟩:=hm
     exact⟨o,es,ep,k2 _ o (Ne.symm (hF _ (.inl rfl)).2.1) (Ne.symm (hF _ (.inr (.inl rfl))).2.1) (Ne.symm (hF _ (.inr (.inr (.inl rfl)))).2.1) (Ne.symm (hF _ (.inr (.inr (.inr rfl)))).2.1) q,r⟩
   · by_cases hb:b=s.heap.objs.size
     · subst hb
       rw [Z2]at q;cases q;refine⟨by show 2<=sizeLine;decide,[u,v],.cons ru (.cons rv .nil),?_⟩;exact⟨_,hT2,rfl,⟨_,rfl⟩,rfl⟩
     · rw [ZI hb]at q
       have nn:∀(b:Addr)(o:HO),H b=some o->b≠n+4/\b≠n+3/\b≠n/\b≠n+1:=λb o q=>by
        refine⟨λz => ?_,λz => ?_,λz => ?_,λz => ?_⟩
        · rw [z,(hF _ (.inl rfl)).1]at q;cases q
        · rw [z,(hF _ (.inr (.inl rfl))).1]at q;cases q
        · rw [z,(hF _ (.inr (.inr (.inl rfl)))).1]at q;cases q
        · rw [z,(hF _ (.inr (.inr (.inr rfl)))).1]at q;cases q
       refine(I.hok b o q).stay (λd v hd q' => ?_) (λd q'=>by rw [ZI (Xb q' hTn)];exact q') λd xs q'=>by rw [ZI (Xb q' hTn)];exact q'
       rcases hd with rfl|hd
       · exact k2 d v (nn d o q).1 (nn d o q).2.1 (nn d o q).2.2.1 (nn d o q).2.2.2 q'
       · exact k2 d v (nn d _ hd).1 (nn d _ hd).2.1 (nn d _ hd).2.2.1 (nn d _ hd).2.2.2 q'
  refine⟨.ref s.heap.objs.size,_,I2,rfl,⟨x,y,s.heap.objs.size,λzs hz=>by rw [I.seqQ_inj hz hq1];exact hx,λzs hz=>by rw [I.seqQ_inj hz hq2];exact hy,hTn,rfl,rfl⟩,⟨hz2,?_,⟨u,v,?_⟩,?_,?_⟩,λb hb => ?_⟩
  · exact hs2.extBut _ _ D.TIz (hk _ _ D.TIz D.TITO D.TIi1 D.TIi2 hTI)
  · exact hs2.extBut _ _ D.TOz a2
  · exact a3.ext hs2.extBut D.i1z
  · exact a4.ext hs2.extBut D.i2z
  · have hb0:H b=none:=(hf b hb).1
    have hbl:b<s.heap.objs.size:=by
     simp at hb;have hzl':n+4<s.heap.objs.size:=hzl;rcases hb with rfl|rfl|rfl|rfl|rfl
     · exact hzl'
     · exact Nat.lt_of_le_of_lt (Nat.add_le_add_left (by decide) n) hzl'
     · exact Nat.lt_of_le_of_lt (Nat.add_le_add_left (by decide) n) hzl'
     · exact Nat.lt_of_le_of_lt (Nat.le_add_right b 4) hzl'
     · exact Nat.lt_of_le_of_lt (Nat.add_le_add_left (by decide) n) hzl'
    rw [ZI (Nat.ne_of_lt hbl)];exact hb0
 done:=by
  intro X hP hw hK hc i pins s σ H E I hf st hg;subst hP hw hK;obtain⟨hz,hTI,⟨a,b',hTO⟩,h1,h2⟩:=st;obtain⟨xs,ys,hq1,hq2,hx⟩:=hg;obtain⟨its1,rv1,p1,_⟩:=I.seqQ hq1;obtain⟨its2,rv2,p2,_⟩:=I.seqQ hq2;have e1:=rv1.length;have e2:=rv2.length;have D:ZipApart (n+4) (n+2) (n+3) n (n+1) l1 l2:=zipApart_new hl1 hl2;have hF:∀b,b=n+4\/b=n+3\/b=n\/b=n+1->Xg X pins H b:=λb hb=>hf b (by rcases hb with rfl|rfl|rfl|rfl<;>simp)
  refine ZcN (I.ok.hd hc) D hz hTI hTO h1 h2 p1 p2 (by
   rcases hx with hx|hx
   · exact .inl (by simp;omega)
   · exact .inr (by simp;omega)) λh' k2=>⟨rfl,?_⟩
  have nn:∀(b:Addr)(o:HO),H b=some o->b≠n+4/\b≠n+3/\b≠n/\b≠n+1:=λb o q=>by
   refine⟨λz => ?_,λz => ?_,λz => ?_,λz => ?_⟩
   · rw [z,(hF _ (.inl rfl)).1]at q;cases q
   · rw [z,(hF _ (.inr (.inl rfl))).1]at q;cases q
   · rw [z,(hF _ (.inr (.inr (.inl rfl)))).1]at q;cases q
   · rw [z,(hF _ (.inr (.inr (.inr rfl)))).1]at q;cases q
  refine I.step (g':=s.gens) (d':=s.drawn) (t':=s.toks) (ch:=[n+4,n+3,n,n+1]) (λb hb => ?_) (λb o _ _ hcb q _ => ?_) (λb o _ _ hcb q _ => ?_) (λ_ _ _ _ m=>m) (λb o hcb q => ?_) (λ_ _ e=>e) (λ_ _ _ e=>e) (λb ps e=>⟨#[],by rw [e];simp⟩) (λm hm => ?_) (λb o q => ?_) I.bare
  · obtain⟨e0,e1,e2,e3,e4,e5⟩:=hF b (by simpa using hb)
    exact⟨e3,e1,e4,e5⟩
  · simp at hcb
    exact k2 b o hcb.1 hcb.2.1 hcb.2.2.1 hcb.2.2.2 q
  · simp at hcb
    exact⟨o.slots,k2 b o hcb.1 hcb.2.1 hcb.2.2.1 hcb.2.2.2 q⟩
  · simp at hcb
    exact⟨o,k2 b o hcb.1 hcb.2.1 hcb.2.2.1 hcb.2.2.2 q⟩
  · obtain⟨o,es,ep,q,r⟩:=hm
    exact⟨o,es,ep,k2 _ o (Ne.symm (hF _ (.inl rfl)).2.1) (Ne.symm (hF _ (.inr (.inl rfl))).2.1) (Ne.symm (hF _ (.inr (.inr (.inl rfl)))).2.1) (Ne.symm (hF _ (.inr (.inr (.inr rfl)))).2.1) q,r⟩
  · refine(I.hok b o q).stay (λd v hd q' => ?_) (λ_ q=>q) λ_ _ q=>q
    rcases hd with rfl|hd
    · exact k2 d v (nn d o q).1 (nn d o q).2.1 (nn d o q).2.2.1 (nn d o q).2.2.2 q'
    · exact k2 d v (nn d _ hd).1 (nn d _ hd).2.1 (nn d _ hd).2.2.1 (nn d _ hd).2.2.2 q'
 self:=λ_ _ _ _ _ st h=>wpAny_pyIter_zip st.1 h
section
variable{X:Cx}{elts:List Expr}{x1:Nat}{tpos:Pos}
def ZiM(K:PySem.W.Frag)(ta:TA):TI:=λσ H R=>ta σ H λvs H1=>∃p q l1 l2 xs ys,vs=[.ref l1,.ref l2]/\SqQ p K H1 l1 xs/\SqQ q K H1 l2 ys/\R (Zk1 p q K l1 l2) H1
theorem ZhS {K:PySem.W.Frag} {a b:Expr} {ta tb:TE} {po pos:Pos} (hg:Gl X "zip") (hm:X.mg "zip" = none) (ha:PE X a ta) (hb:PE X b tb) (hs:starEach [a,b] X.env=(false,eval a X.env)::starEach [b] X.env:=by rfl) (hs2:starEach [b] X.env=[(false,eval b X.env)]:=by rfl) (hK:X.K=K:=by rfl) :
 PI X (.Tuple elts x1 tpos) (.Call (.Name "zip" po) [a,b] [] pos) (ZiM K (Y4 ta (Y4 tb tNil))):=by
 subst hK;intro pins s σ H R I h;refine Call_ (U0 I hg hm boot_zip (PyProof.Rows.callWith_type1 (thn ((Zf ha (Zf hb Zj hs2) hs) pos pins s σ H _ I h) λus s1 ⟨vs,H1,I1,r1,q1⟩ => ?_) (by rw [hs,hs2]) (by rw [hs2];rfl)));obtain⟨p,q0,l1,l2,xs,ys,e,hq1,hq2,q⟩:=q1;subst e;cases r1 with
 |cons r rr=>
  cases rr with
  |cons r' rr'=>
   cases rr';cases r;cases r';obtain⟨its1,rv1,p1,_⟩:=I1.seqQ hq1;obtain⟨its2,rv2,p2,_⟩:=I1.seqQ hq2;have lt1:l1<s1.heap.objs.size:=p1.lt;have lt2:l2<s1.heap.objs.size:=p2.lt;refine Zfy p1 p2 λh' hz hTI hTO h1 h2 k => ?_
   refine wpAny_pyIter_zip hz ?_;have I2:Inv X pins σ H1 { s1 with heap:=h' }:=I1.kept (t':=s1.toks) k;refine⟨s1.heap.objs.size+4,[s1.heap.objs.size+4,s1.heap.objs.size+2,s1.heap.objs.size+3,s1.heap.objs.size,s1.heap.objs.size+1],_,_,H1,rfl,I2,Zfz s1.heap.objs.size l1 l2 lt1 lt2,⟨hz,hTI,⟨_,_,hTO⟩,h1,h2⟩,λb hb => ?_,q⟩
   have hb':s1.heap.objs.size<=b:=by
    simp at hb;rcases hb with rfl|rfl|rfl|rfl|rfl
    · exact Nat.le_add_right _ _
    · exact Nat.le_add_right _ _
    · exact Nat.le_add_right _ _
    · exact Nat.le_refl _
    · exact Nat.le_add_right _ _
   exact I1.fpOk hb' (I1.hok.fresh hb')
end
end L2
namespace DL
open PySem PySem.Spec L2
section
variable{cA:Kn}{G:Cn}{ow:List Nat}
theorem Zdk{k:Bool}{K:PySem.W.Frag}{H H':Hp}{a:Addr}{xs:List V}(e:Same H H')(h:SqQ k K H a xs):SqQ k K H' a xs:=by
 cases k with
 |false=>exact Same.seq e h
 |true=>
  rcases h with(h|⟨o,h⟩)|h
  · exact .inl (.inl (e _ _ h))
  · exact .inl (.inr ⟨o,e _ _ h⟩)
  · exact .inr h
theorem ZdU{p0 q0:Bool}{iv:Addr->Prop}{H0:Hp}{a b:Addr}{vs ws:List V}{xs ys:List D}(rd:SqQ p0 cA.K H0 a vs)(l:RepL cA iv H0 xs vs)(rd2:SqQ q0 cA.K H0 b ws)(l2:RepL cA iv H0 ys ws):Qg cA iv (Zk1 p0 q0 cA.K a b) (Xp xs ys) H0:=λH s=>by
 have rd':SqQ p0 cA.K H a vs:=Zdk s rd;have rd2':SqQ q0 cA.K H b ws:=Zdk s rd2;refine⟨λi hi => ?_,λi x v H' hx y => ?_,λi hi=>⟨vs,ws,rd',rd2',?_⟩⟩
 · rw [Zae]at hi
   obtain⟨v,hv,_⟩:=l.get (List.getElem?_eq_getElem (show i<xs.length by omega));obtain⟨u,hu,_⟩:=l2.get (List.getElem?_eq_getElem (show i<ys.length by omega));exact⟨vs,ws,v,u,rd',rd2',hv,hu⟩
 · obtain⟨z1,z2,p,hz1,hz2,hp,rfl,rfl⟩:=y
   have hi:i<(Xp xs ys).length:=(List.getElem?_eq_some_iff.mp hx).1;rw [Zae]at hi;have e1:=List.getElem?_eq_getElem (show i<xs.length by omega);have e2:=List.getElem?_eq_getElem (show i<ys.length by omega);rw [Zdj xs ys i _ _ e1 e2]at hx;cases hx;obtain⟨v1,hv1,r1⟩:=l.get e1;obtain⟨v2,hv2,r2⟩:=l2.get e2;rw [hz1 vs rd']at hv1;rw [hz2 ws rd2']at hv2;cases hv1;cases hv2;refine⟨Ym hp,λav' h1 h2 => ?_⟩
   unfold Rep;exact⟨p,_,rfl,λz=>h1 p z hp,Z2,.cons (((r1.av h2).same s).same (Ym hp)) (.cons (((r2.av h2).same s).same (Ym hp)) .nil)⟩
 · rw [Zae]at hi
   rw [<-l.length,<-l2.length];omega
def Q9:D->Option (List D)
 | .lst xs=>some xs
 | .tup xs=>some xs
 |_=>none
def Qt(ε1 ε2:Env->Option D)(δ:Env):Option (List D):=match ε1 δ,ε2 δ with
 |some x,some y=>match Q9 x,Q9 y with
  |some xs,some ys=>some (Xp xs ys)
  |_,_=>none
 |_,_=>none
theorem Zb1{av:Addr->Prop}{A:Nat->Option Addr}{H:Hp}{d:D}{xs:List D}{v:V}(h:Q9 d=some xs)(r:Rep cA (AV av A) H d v):∃k a vs,v = .ref a/\SqQ k cA.K H a vs/\SqQ k cA.K (cut A H) a vs/\RepL cA (AV av A) H xs vs:=by
 cases d<;>first|(cases h;done)|skip
 · cases h
   obtain⟨a,vs,rfl,na,rd,l⟩:=r;exact⟨false,a,vs,rfl,rd,Zd7 na rd λb o n e=>by rw [Ue λ⟨i,z⟩=>n (.inr ⟨i,z⟩)];exact e,l⟩
 · cases h
   obtain⟨a,vs,rfl,na,rd,l⟩:=r;exact⟨true,a,vs,rfl,SqT.of rd,SqT.of (by rw [Ue λ⟨i,z⟩=>na (.inr ⟨i,z⟩)];exact rd),l⟩
theorem ZhT{ta tb:TE}{ε1 ε2:Env->Option D}(h1:VE G ow ta .cl ε1)(h2:VE G ow tb .cl ε2):VI G ow (ZiM G.1.K (Y4 ta (Y4 tb tNil))) (Qt ε1 ε2):=λH0 av A σ H δ E xs e R k=>by
 unfold Qt at e;cases he1:ε1 δ with
 |none=>rw [he1]at e;cases e
 |some d1=>
  cases he2:ε2 δ with
  |none=>rw [he1,he2]at e;cases e
  |some d2=>
   rw [he1,he2]at e;dsimp only at e;cases hs1:Q9 d1 with
   |none=>rw [hs1]at e;cases e
   |some x1=>
    cases hs2:Q9 d2 with
    |none=>rw [hs1,hs2]at e;cases e
    |some x2=>
     rw [hs1,hs2]at e;cases e;refine h1 H0 av A σ H δ E _ he1 _ λv H1 s1 r1 => ?_
     refine h2 H0 av A σ H1 δ (E.mono s1) _ he2 _ λv2 H2 s2 r2 => ?_
     obtain⟨p,a,vs,rfl,rd,rdc,l⟩:=Zb1 hs1 (RepT.r (r1.same s2));obtain⟨q,b,ws,rfl,rd2,rdc2,l2⟩:=Zb1 hs2 (RepT.r r2);exact⟨p,q,a,b,vs,ws,rfl,rd,rd2,k _ H2 (s1.trans s2) (ZdU rdc l.cut rdc2 l2.cut)⟩
end
end DL
namespace DL
open PySem PySem.Spec PyProof.Rows L2
def XY:List Int->Int
 | []=>0
 |n::ns=>ns.foldl min n
theorem Zak:∀(ns:List Int)(n:Int),(ns.foldl min n=n\/ns.foldl min n∈ns)/\ns.foldl min n<=n/\∀a∈ns,ns.foldl min n<=a
 | [],n=>⟨.inl rfl,Int.le_refl _,λ_ z=>nomatch z⟩
 |m::ns,n=>by
  obtain⟨h1,h2,h3⟩:=Zak ns (min n m);rw [List.foldl_cons];refine⟨?_,by omega,λa ha => ?_⟩
  · rcases h1 with h|h
    · by_cases hm:n<=m
      · exact .inl (by rw [h,Int.min_eq_left hm])
      · exact .inr (by rw [h,Int.min_eq_right (by omega)];exact List.mem_cons_self)
    · exact .inr (List.mem_cons_of_mem _ h)
  · rcases List.mem_cons.mp ha with rfl|ha
    · omega
    · exact h3 a ha
theorem ZfA{ns:List Int}(h:0<ns.length):XY ns∈ns/\∀a∈ns,XY ns<=a:=by
 cases ns with
 |nil=>cases h
 |cons n ns=>
  obtain⟨h1,h2,h3⟩:=Zak ns n;refine⟨?_,λa ha => ?_⟩
  · rcases h1 with h|h
    · show ns.foldl min n∈_
      rw [h];exact List.mem_cons_self
    · exact List.mem_cons_of_mem _ h
  · rcases List.mem_cons.mp ha with rfl|ha
    · exact h2
    · exact h3 a ha
theorem Zb2{ns:List Int}{M:Int}(h1:M∈ns)(h2:∀a∈ns,M<=a):M=XY ns:=by
 obtain⟨h3,h4⟩:=ZfA (List.length_pos_of_mem h1);exact Int.le_antisymm (h2 _ h3) (h4 M h1)
def Zhk(K:PySem.W.Frag):List V->Hp->VK->Prop:=λxs H Q=>∃(p:Addr) (ns:List Int),xs=[.ref p]/\SqL K H p (ns.map V.int)/\0<ns.length/\Q (.int (XY ns)) H
section
variable{X:Cx}{K:PySem.W.Frag}{cA:Kn}
theorem ZfB(hc:X.calm=true):YI X (.builtin "min") (Zhk X.K):=by
 intro pins s σ H xs us Q I rs h;obtain⟨p,ns,rfl,hq,hne,q⟩:=h;obtain⟨u,rfl,rx⟩:=XH rs;cases rx;obtain⟨its,rv,pl,hz⟩:=I.list hq;have hi:=Zbt ns its rv;obtain⟨ys,e⟩:=hi.allInts.items
 have hns:ns=ys.toList.map (·.1):=by
  rw [<-hi.numsOf,<-nums_intItems,<-e]
 have hsz:0<ys.size:=by
  have h3:=hne;rw [hns,List.length_map,Array.length_toList]at h3;exact h3
 have hl:=pl.isList;rw [e]at hl;refine min_intList (I.ok.hd hc) hl hsz λv h' tk hv hk => ?_
 obtain⟨t,rfl⟩:=intItems_at hv;obtain⟨h1,h2⟩:=argBest_lt (numAt ys) (ys.size-1)
 have hM:=Zb2 (ns:=ns) (M:=numAt ys (argBest (λi j=>decide (numAt ys i<numAt ys j)) (ys.size-1))) (by
  rw [hns,numAt_eq];exact getD_mem (by rw [List.length_map,Array.length_toList];omega)) (λa ha=>by
  rw [hns]at ha;obtain⟨j,hj,rfl⟩:=mem_getD ha;rw [List.length_map,Array.length_toList]at hj;rw [<-numAt_eq];exact h2 j (by omega))
 exact⟨.int (XY ns),H,I.kept hk,⟨t,by rw [hM]⟩,q⟩
def minLD:List D->Option D
 | [.lst xs]=>match Ui xs with
  |some ns=>if 0<ns.length then some (.int (XY ns))else none
  |none=>none
 |_=>none
theorem ZhU:UF cA (Zhk cA.K) minLD:=λi H ds vs d _ h e Q k=>by
 unfold minLD at e
 split at e
 · rename_i xs
   cases hb:Ui xs with
   |none=>rw [hb]at e;cases e
   |some bs=>
    rw [hb]at e;dsimp only at e
    by_cases hz:0<bs.length
    · rw [if_pos hz]at e
      cases e;obtain⟨v,t,rfl,a,ws,rfl,_,rd,l⟩:=il1 h;have ex:=Zbs hb;subst ex;have ev:=l.vals (by rw [List.all_map];exact List.all_eq_true.mpr λ_ _=>rfl);rw [List.map_map]at ev;subst ev;exact⟨a,bs,rfl,rd,hz,k _ H (Same.refl H) rfl⟩
    · rw [if_neg hz]at e;cases e
 · cases e
variable{G:Cn}{ow:List Nat}
open Classical in
end
end DL
namespace DL
open PySem PySem.Spec L2
section
variable{cA:Kn}{av:Addr->Prop}{H:Hp}
end
section
variable{G:Cn}{ow owN owB owC ow1:List Nat}{H0 H:Hp}{av:Addr->Prop}{A:Nat->Option Addr}{σ:L2.St}{δ:Env}
end
end DL
namespace L2
open PySem PySem.Spec PyProof.Rows
section
variable{X:Cx}
end
end L2
namespace DL
open PySem PySem.Spec L2
section
variable{G:Cn}{ow owN owB owC ow1:List Nat}
open Classical in
end
end DL
namespace L2
open PySem PySem.Spec PyProof.Rows
section
variable{X:Cx}
end
end L2
namespace DL
open PySem PySem.Spec L2
section
variable{G:Cn}{ow owN owB owC ow1:List Nat}
end
end DL
namespace DL
open PySem PySem.Spec L2
section
variable{cA:Kn}{G:Cn}{ow owN owB owC:List Nat}
end
end DL
namespace DL
open PySem PySem.Spec L2
section
variable{X:Cx}{cA:Kn}
open Classical in
end
end DL
namespace DL
open PySem PySem.Spec L2
section
variable{cA:Kn}{G:Cn}{ow owN owB owC ow1:List Nat}{i:Nat}{H0 H H':Hp}{av:Addr->Prop}{A:Nat->Option Addr}{σ:L2.St}{δ:Env}
open Classical in
end
end DL
namespace DL
open PySem PySem.Spec L2
section
variable{cA:Kn}{G:Cn}{ow owN owB owC ow1:List Nat}{i:Nat}{H0 H H':Hp}{av:Addr->Prop}{A A':Nat->Option Addr}{σ σ':L2.St}{δ δ1:Env}
end
end DL
namespace DL
open PySem PySem.Spec L2
section
variable{cA:Kn}{G:Cn}{ow owN owB owC ow1:List Nat}{i:Nat}
open Classical in
end
end DL
namespace DL
open PySem PySem.Spec L2
section
variable{G:Cn}{ow ow1:List Nat}
end
end DL
namespace L2
open PySem PySem.Spec PyProof.Rows
theorem Ja{x:Str}{c:Addr}:∀(names:List (Str×NameKind))(n:Nat)(acc:List (Str×Addr)),(cellsFrom n names acc).lookup x=some c->(n<=c/\(x,NameKind.cell)∈names)\/acc.lookup x=some c
 | [],n,acc,h => .inr h
 |(y,k)::r,n,acc,h=>by
  unfold cellsFrom at h
  by_cases hk:(k == .cell)=true
  · rw [if_pos hk]at h
    have hk':k = .cell:=by simpa using hk
    subst hk';rcases Ja r (n+1) _ h with⟨h1,h2⟩|h1
    · exact .inl ⟨by omega,List.mem_cons_of_mem _ h2⟩
    · rw [List.lookup_cons]at h1
      cases hx:x == y with
      |true=>
       rw [hx]at h1;have e:n=c:=Option.some.inj h1;have e2:x=y:=eq_of_beq hx;subst e2;exact .inl ⟨by omega,List.mem_cons_self⟩
      |false=>rw [hx]at h1;exact .inr h1
  · rw [if_neg hk]at h
    rcases Ja r n acc h with⟨h1,h2⟩|h1
    · exact .inl ⟨h1,List.mem_cons_of_mem _ h2⟩
    · exact .inr h1
theorem Zah{x:Str}{c:Addr}:∀(names:List (Str×NameKind))(n:Nat)(acc:List (Str×Addr)),(x,NameKind.cell)∈names->(cellsFrom n names acc).lookup x=some c->n<=c
 |(y,k)::r,n,acc,hm,h=>by
  unfold cellsFrom at h
  by_cases hk:(k == .cell)=true
  · rw [if_pos hk]at h
    rcases List.mem_cons.mp hm with e|e
    · cases e
      rcases Ja r (n+1) _ h with⟨h1,_⟩|h1
      · omega
      · rw [List.lookup_cons]at h1
        simp at h1;exact Nat.le_of_eq h1
    · have:=Zah r (n+1) _ e h
      omega
  · rw [if_neg hk]at h
    rcases List.mem_cons.mp hm with e|e
    · cases e
      exact absurd rfl hk
    · exact Zah r n acc e h
theorem cellsFrom_some{x:Str}:∀(names:List (Str×NameKind))(n:Nat)(acc:List (Str×Addr)),((x,NameKind.cell)∈names\/∃c,acc.lookup x=some c)->∃c,(cellsFrom n names acc).lookup x=some c
 | [],n,acc,h=>h.elim (λz=>nomatch z) id
 |(y,k)::r,n,acc,h=>by
  unfold cellsFrom
  by_cases hk:(k == .cell)=true
  · rw [if_pos hk]
    refine cellsFrom_some r (n+1) _ ?_;cases hx:x == y with
    |true=>exact .inr ⟨n,by rw [List.lookup_cons,hx]⟩
    |false=>
     rcases h with h|⟨c,h⟩
     · rcases List.mem_cons.mp h with e|e
       · cases e
         simp at hx
       · exact .inl e
     · exact .inr ⟨c,by rw [List.lookup_cons,hx];exact h⟩
  · rw [if_neg hk]
    refine cellsFrom_some r n acc ?_;rcases h with h|h
    · rcases List.mem_cons.mp h with e|e
      · cases e
        exact absurd rfl hk
      · exact .inl e
    · exact .inr h
theorem Zac{x:Str}:∀(names:List (Str×NameKind))(n:Nat)(acc:List (Str×Addr)),(x,NameKind.cell)∉names->(cellsFrom n names acc).lookup x=acc.lookup x
 | [],_,_,_=>rfl
 |(y,k)::r,n,acc,h=>by
  unfold cellsFrom;have hr:(x,NameKind.cell)∉r:=λz=>h (List.mem_cons_of_mem _ z)
  by_cases hk:(k == .cell)=true
  · rw [if_pos hk,Zac r (n+1) _ hr,List.lookup_cons]
    have hk':k = .cell:=by simpa using hk
    cases hx:x == y with
    |true=>
     have e2:x=y:=eq_of_beq hx;exact absurd (by rw [e2,hk'];exact List.mem_cons_self) h
    |false=>rfl
  · rw [if_neg hk]
    exact Zac r n acc hr
theorem Zai{x y:Str}{c:Nat}:∀(names:List (Str×NameKind))(n:Nat)(acc:List (Str×Addr)),(∀(z:Str)(d:Nat),acc.lookup z=some d->d<n)->n<=c->(cellsFrom n names acc).lookup x=some c->(cellsFrom n names acc).lookup y=some c->x=y
 | [],n,acc,ha,hn,h1,h2=>by
  have:=ha x c h1;omega
 |(z,k)::r,n,acc,ha,hn,h1,h2=>by
  unfold cellsFrom at h1 h2
  by_cases hk:(k == .cell)=true
  · rw [if_pos hk]at h1 h2
    by_cases hc:c=n
    · subst hc
      have one:∀{w:Str},(cellsFrom (c+1) r ((z,c)::acc)).lookup w=some c->w=z:=λ{w} hw=>by
       rcases Ja r (c+1) _ hw with⟨q,_⟩|q
       · omega
       · rw [List.lookup_cons]at q
         cases hx:w == z with
         |true=>exact eq_of_beq hx
         |false=>
          rw [hx]at q;have:=ha w c q;omega
      rw [one h1,one h2]
    · refine Zai r (n+1) _ (λw d hw => ?_) (by omega) h1 h2
      rw [List.lookup_cons]at hw;cases hx:w == z with
      |true=>rw [hx]at hw;have e:n=d:=Option.some.inj hw;exact Nat.lt_succ_of_le (Nat.le_of_eq e.symm)
      |false=>rw [hx]at hw;exact Nat.lt_succ_of_lt (ha w d hw)
  · rw [if_neg hk]at h1 h2
    exact Zai r n acc ha hn h1 h2
theorem Zad{lo:Nat}:∀(names:List (Str×NameKind))(h:Heap)(acc:List (Str×Addr)),(∀z d,acc.lookup z=some d->lo<=d->h.IsCell d none)->∀{x:Str}{c:Addr},(cellsFrom h.objs.size names acc).lookup x=some c->lo<=c->(pushCells h names).IsCell c none
 | [],h,acc,ha,x,c,h1,h2=>ha x c h1 h2
 |(z,k)::r,h,acc,ha,x,c,h1,h2=>by
  unfold cellsFrom at h1;unfold pushCells
  by_cases hk:(k == .cell)=true
  · rw [if_pos hk]at h1 ⊢
    have e:h.objs.size+1=(h.push { cls := .type "cell",data := .cell none }).objs.size:=(Heap.size_push ..).symm;rw [e]at h1;refine Zad r _ _ (λw d hw hd => ?_) h1 h2;rw [List.lookup_cons]at hw;cases hx:w == z with
    |true=>
     rw [hx]at hw;have q:h.objs.size=d:=Option.some.inj hw;rw [<-q];exact⟨_,Heap.get?_push_size _ rfl,rfl⟩
    |false=>
     rw [hx]at hw;exact(ha w d hw hd).keeps λb o e=>Heap.get?_push_of_some _ e
  · rw [if_neg hk]at h1 ⊢
    exact Zad r h acc ha h1 h2
theorem ZaB {M:Model} {A:Around} {E:Value->Shared->Prop} {s:Shared} {scope:Scope} {globals:Addr} {closure:List (Str×Addr)} {qual:Str} {func:Option Addr} {code:Value} {outer:Env} {builtins:Addr} {Q:Env->Shared->Prop}
 (hQ:Q (newEnv scope s.heap.objs.size globals (cellsFrom (s.heap.objs.size+1) scope.names closure) qual func code (some outer) builtins) { s with heap:=pushCells (s.heap.push { cls := .type "dict",data := .dict #[] }) scope.names }) :
 wpAny M A (newFunctionEnv scope globals closure [] qual func code (some outer) builtins) Q E s:=by
 simp only [newFunctionEnv,Option.isSome_some,if_true];refine wpAny_bind (wpAny_alloc ?_);refine wpAny_bind (wpAny_layCells _ (λname kind cells=>by cases hkc:kind == NameKind.cell<;>simp [hkc]) _ _ _ _ ?_);rw [show({ s with heap:=s.heap.push { cls := .type "dict",data := .dict #[] } }:Shared).heap.objs.size=s.heap.objs.size+1 from Heap.size_push ..];simp only [List.forIn_nil];exact wpAny_bind (wpAny_pure (wpAny_pure hQ))
structure CompSd(X:Cx)(scope:Scope)(tn cn:List Str)(js:List Nat):Prop where
 kind:scope.kind = .function
 own:∀y∈scope.names,y.2 = .cell->scope.names.lookup y.1=some .cell
 names:∀y∈scope.names,y.2 = .local->scope.names.lookup y.1=some .local
 free:∀y∈scope.names,y.2 = .free->X.env.kindOf y.1=some .cell\/X.env.kindOf y.1=some .free
 cap:∀(k:Nat)(x:Str),cn[k]? = some x->∃j,js[k]? = some j/\X.N[j]? = some x/\(X.env.kindOf x=some .cell\/X.env.kindOf x=some .free)/\scope.names.lookup x=some .free
 len:cn.length=js.length
def Zbh(onames:List (Str×NameKind))(oN:List Str)(names:List (Str×NameKind))(cn:List Str)(js:List Nat):Bool:=
 names.all (λy => !(y.2 == .cell)||(names.lookup y.1 == some .cell))&&names.all (λy => !(y.2 == .local)||(names.lookup y.1 == some .local)) &&
 names.all (λy => !(y.2 == .free)||(onames.lookup y.1 == some .cell||onames.lookup y.1 == some .free)) &&
 ((cn.zip js).all λp=>oN[p.2]? == some p.1&&(onames.lookup p.1 == some .cell||onames.lookup p.1 == some .free)&&names.lookup p.1 == some .free)&&(cn.length == js.length)
def UM(X:Cx)(scope:Scope)(C:Addr):List (Str×Addr):=cellsFrom (C+1) scope.names (Xh X.env.cells scope.names [])
def Qu(X:Cx)(scope:Scope)(N':List Str)(C:Addr)(s₂:Shared)(H₂:Hp)(fp:List Addr)(xe:Value->Shared->Prop):Cx:=
 { X with N:=N',s₀:=s₂,H₀:=H₂,env:=compEnvC scope (UM X scope C) C X.env,outer:=X.stack,ex:=fp,fn:=λx=>scope.names.lookup x == some .cell,pn:=[],xe:=xe }
section
variable{X:Cx}{pins:List (Addr×Obj)}{σ:St}{H₂:Hp}{s₂:Shared}{scope:Scope}{tn cn:List Str}{js:List Nat}
theorem CompSd.clos(S:CompSd X scope tn cn js)(ok:X.Ok):∀y∈scope.names,y.2 = .free->∃c,X.env.cells.lookup y.1=some c:=λy hy e=>ok.has y.1 (S.free y hy e)
theorem UN{C:Addr}(S:CompSd X scope tn cn js)(ok:X.Ok){x:Str}{c:Addr}(h:(UM X scope C).lookup x=some c):(C+1<=c/\(x,NameKind.cell)∈scope.names)\/X.env.cells.lookup x=some c:=by
 rcases Ja _ _ _ h with q|q
 · exact .inl q
 · exact .inr (QV _ [] (S.clos ok) (λ_ z=>by cases z) q)
theorem Zam{env:Env}:∀{names:List (Str×NameKind)}{x:Str}{k:NameKind},(names.map λ(n,k)=>if(k == NameKind.free&&env.scope.kind == .function&&env.kindOf n == some .cell)then(n,NameKind.cell)else(n,k)).lookup x=some k ->
 (k = .cell\/k = .free)->(x,NameKind.free)∈names\/(x,NameKind.cell)∈names
 | [],_,_,h,_=>by simp at h
 |(n,k0)::r,x,k,h,hk=>by
  have ih := @Zam env r x k;have more:((x,NameKind.free)∈r\/(x,NameKind.cell)∈r)->(x,NameKind.free)∈(n,k0)::r\/(x,NameKind.cell)∈(n,k0)::r:=λz=>z.elim (λz => .inl (List.mem_cons_of_mem _ z)) λz => .inr (List.mem_cons_of_mem _ z)
  have h:List.lookup x ((if(k0 == NameKind.free&&env.scope.kind == .function&&env.kindOf n == some .cell)=true then(n,NameKind.cell)else(n,k0))::_)=_:=h
  by_cases hb:(k0 == NameKind.free&&env.scope.kind == .function&&env.kindOf n == some .cell)=true
  · rw [if_pos hb,List.lookup_cons]at h
    have e0:k0 = .free:=by
     simp only [Bool.and_eq_true]at hb;simpa using hb.1.1
    cases hx:x == n with
    |true=>
     have e:x=n:=eq_of_beq hx;subst e;subst e0;exact .inl List.mem_cons_self
    |false=>
     rw [hx]at h;exact more (ih h hk)
  · rw [if_neg hb,List.lookup_cons]at h
    cases hx:x == n with
    |true=>
     rw [hx]at h;have e:x=n:=eq_of_beq hx;have e0:k0=k:=Option.some.inj h;subst e;subst e0;rcases hk with hk|hk
     · subst hk;exact .inr List.mem_cons_self
     · subst hk;exact .inl List.mem_cons_self
    |false=>
     rw [hx]at h;exact more (ih h hk)
theorem Zgb{C:Addr}{fp:List Addr}{xe:Value->Shared->Prop}(S:CompSd X scope tn cn js)(I:Inv X pins σ H₂ s₂)(hC:s₂.heap.objs.size<=C)(hf:∀b∈fp,Xg X pins H₂ b)(ho:∀b∈fp,∃o,s₂.heap.get? b=some o/\∀v,o.data ≠ .cell v) :
 (Qu X scope (tn++cn) C s₂ H₂ fp xe).Ok where
 mod:=I.ok.mod
 kind:=S.kind
 glob:=I.ok.glob
 blt:=I.ok.blt
 above:=hC
 inj:=λx y c h1 h2=>by
  have old:∀{x:Str}{c:Nat},X.env.cells.lookup x=some c->Nat.lt c C:=λ{x c} h=>by
   obtain⟨v,o,q,_⟩:=I.cell x c h;exact Nat.lt_of_lt_of_le (Heap.lt_size q) hC
  rcases UN S I.ok h1 with⟨q1,_⟩|q1
  · exact Zai scope.names (C+1) _ (λz d hz=>Nat.lt_succ_of_lt (old (QV _ [] (S.clos I.ok) (λ_ z=>by cases z) hz))) q1 h1 h2
  · rcases UN S I.ok h2 with⟨q2,_⟩|q2
    · exact absurd (Nat.lt_of_lt_of_le (Nat.lt_succ_of_lt (old q1)) q2) (Nat.lt_irrefl _)
    · exact I.ok.inj x y c q1 q2
 has:=λx hx=>by
  have hm:(x,NameKind.free)∈scope.names\/(x,NameKind.cell)∈scope.names:=by
   rcases hx with hx|hx
   · exact Zam (env:=X.env) (k:=.cell) hx (Or.inl (Eq.refl NameKind.cell))
   · exact Zam (env:=X.env) (k:=.free) hx (Or.inr (Eq.refl NameKind.free))
  refine cellsFrom_some _ _ _ ?_;rcases hm with hm|hm
  · exact .inr (ZaN _ _ (.inl hm))
  · exact .inl hm
 cab:=λx c h1 h2=>by
  have e:scope.names.lookup x=some .cell:=by
   have q:(scope.names.lookup x == some .cell)=true:=h1;simpa using q
  exact Nat.le_trans hC (Nat.le_of_succ_le (Zah _ _ _ (PySem.mem_of_lookup e) h2))
 hd:=I.ok.hd
 frames:=I.ok.frames
 stk := .inl rfl
 exf:=λb hb=>by
  obtain⟨o,e,_⟩:=ho b hb;obtain⟨_,_,_,_,f4,_⟩:=hf b hb;have hbC:b<C:=Nat.lt_of_lt_of_le (Heap.lt_size e) hC;refine⟨Nat.ne_of_lt hbC,λx c h => ?_⟩;rcases UN S I.ok h with⟨q,_⟩|q
  · exact Nat.ne_of_gt (Nat.lt_of_lt_of_le hbC (Nat.le_of_succ_le q))
  · exact f4 x c q
 bs:=I.bs
 bsz:=Nat.le_trans I.ok.bsz I.sz
 noex:=λb o e hb=>by
  obtain⟨_,_,_,f3,_,_⟩:=hf b hb;rcases f3 with z|z
  · exact I.ok.noex b o e z
  · exact absurd (Nat.lt_of_lt_of_le (Heap.lt_size (I.ok.bs b o e).1) z) (Nat.lt_irrefl _)
 exfs:=λb hb z=>by
  obtain⟨_,f1,f2,_,_,_⟩:=hf b hb;exact(List.mem_cons.mp (I.stkSub b z)).elim f1 f2
 funs:=I.stack
 frf:=I.stkFree
theorem Za8 {C:Addr} {fp:List Addr} {s:Shared} {H:Hp} {m:Str->Option Value} (S:CompSd X scope tn cn js) (I:Inv X pins σ H₂ s₂) (hf:∀b∈fp,Xg X pins H₂ b)
 (u:Un (frs X.stack) fp H₂ H s₂.heap s.heap) :
 ∀(i:Nat)(x:Str)(v:V),(tn++cn)[i]? = some x->(blk tn.length σ js)[i]? = some (some v)->∃z,RelV v z/\ZmD (compEnvC scope (UM X scope C) C X.env) s.heap m x z:=by
 intro i x v e1 e2;unfold blk at e2
 by_cases hi:i<tn.length
 · rw [List.getElem?_append_left (by simpa using hi),List.getElem?_replicate,if_pos hi]at e2
   cases e2
 · have hi':tn.length<=i:=by omega
   rw [List.getElem?_append_right hi']at e1;rw [List.getElem?_append_right (by simpa using hi'),List.length_replicate]at e2;obtain⟨j,hj,hN,hk,hm⟩:=S.cap _ _ e1;unfold U7 at e2;rw [List.getElem?_map,hj]at e2;have e3:(σ[j]?).getD none=some v:=Option.some.inj e2
   have e4:σ[j]? = some (some v):=by
    cases q:σ[j]? with
    |none=>rw [q]at e3;cases e3
    |some z=>rw [q]at e3;exact congrArg some e3
   obtain⟨m0,_,hl⟩:=I.loc
   have hv:Vis X.env.scope x:=by
    rcases hk with hk|hk
    · exact .inr (.inl hk)
    · exact .inr (.inr hk)
   obtain⟨z,rz,l⟩:=hl j x v hN e4 hv;refine⟨z,rz,?_⟩
   obtain⟨c,hc,ob,ho,hd⟩:∃c,X.env.cells.lookup x=some c/\s₂.heap.IsCell c (some z):=by
    rcases l with⟨k,_⟩|⟨_,c,hc,q⟩
    · rcases hk with hk|hk
      · rw [hk]at k;cases k
      · rw [hk]at k;cases k
    · exact⟨c,hc,q⟩
   have hnc:(x,NameKind.cell)∉scope.names:=λz=>by
    have q:=S.own _ z rfl;have q:scope.names.lookup x=some .cell:=q;rw [hm]at q;cases q
   obtain⟨c',hc'⟩:=ZaN (cells:=X.env.cells) (x:=x) scope.names [] (.inl (PySem.mem_of_lookup hm));have hcY:(UM X scope C).lookup x=some c':=(Zac _ _ _ hnc).trans hc'
   have ec:c'=c:=by
    have:=QV _ [] (S.clos I.ok) (λ_ z=>by cases z) hc';rw [hc]at this;exact(Option.some.inj this).symm
   subst ec;have nf:c'∉fp:=λhb=>(hf c' hb).2.2.2.2.1 x c' hc rfl
   obtain⟨sl,q⟩:=u.any ho (I.freeC x c' hc) nf;exact .inr ⟨Zaw hm,c',hcY,⟨_,q,hd⟩⟩
theorem Zdl(S:CompSd X scope tn cn js):(blk tn.length σ js).length=(tn++cn).length:=by
 unfold blk U7;rw [List.length_append,List.length_append,List.length_replicate,List.length_map,S.len]
theorem ZcO {C:Addr} {fp:List Addr} {xe:Value->Shared->Prop} {s:Shared} {H:Hp} {σ':St} {pins':List (Addr×Obj)} (S:CompSd X scope tn cn js) (I:Inv X pins σ H₂ s₂) (hf:∀b∈fp,Xg X pins H₂ b)
 (I':Inv (Qu X scope (tn++cn) C s₂ H₂ fp xe) pins' σ' H s):Inv (Qu X scope (tn++cn) C s₂ H₂ fp xe) pins' (blk tn.length σ js) H s:=by
 obtain⟨m,hn,_⟩:=id I'.loc;exact⟨I'.ok,I'.os,I'.bare,I'.base,⟨m,hn,λi x v e1 e2 _=>Za8 S I hf I'.base i x v e1 e2⟩,I'.cell,I'.free,I'.freeC,I'.pin,I'.hok,Zdl S⟩
theorem ZcP {C D:Addr} {fp:List Addr} {xe:Value->Shared->Prop} {h:Heap} {tk:Nat} {ob:Obj} {m:Str->Option Value} (S:CompSd X scope tn cn js) (I:Inv X pins σ H₂ s₂) (hC:s₂.heap.objs.size<=C) (hD:s₂.heap.objs.size<=D) (hDC:D≠C)
 (hf:∀b∈fp,Xg X pins H₂ b) (ho:∀b∈fp,∃o,s₂.heap.get? b=some o/\∀v,o.data ≠ .cell v) (k:∀b o,s₂.heap.get? b=some o->h.get? b=some o) (hn:h.Ns C m) (hob:h.get? D=some ob) (hcell:∀v,ob.data ≠ .cell v) (hcs:∀x c,(UM X scope C).lookup x=some c->C+1<=c->h.IsCell c none) :
 Inv (Qu X scope (tn++cn) C s₂ H₂ fp xe) [(D,ob)] (blk tn.length σ js) H₂ { s₂ with heap:=h,toks:=tk }:=by
 have ok:=Zgb (xe:=xe) S I hC hf ho;have u:Un (frs X.stack) fp H₂ H₂ s₂.heap h:=Un.kept k;refine⟨ok,rfl,I.bare,u,⟨m,hn,λi x v e1 e2 _=>Za8 (s:={ s₂ with heap:=h,toks:=tk }) S I hf u i x v e1 e2⟩,λx c e => ?_,I.hok.fresh hC,λx c e => ?_,λp hp => ?_,I.hok.kept k,Zdl S⟩
 · rcases UN S I.ok e with⟨z,_⟩|z
   · exact⟨none,hcs x c e z⟩
   · obtain⟨v,o,q,d⟩:=I.cell x c z
     exact⟨v,o,k c o q,d⟩
 · rcases UN S I.ok e with⟨z,_⟩|z
   · exact I.hok.fresh (Nat.le_trans hC (Nat.le_of_succ_le z))
   · exact I.freeC x c z
 · have e : p = (D, ob) := by
    have:p∈([]:List (Addr×Obj))++[(D,ob)]:=hp;simpa using this
   subst e;refine⟨hob,I.hok.fresh hD,hDC,λz => ?_,hcell⟩;have z:D∈frs X.stack:=z;rcases List.mem_cons.mp (I.stkSub D z)with e|e
   · exact absurd (Nat.lt_of_lt_of_le I.lt (by rw [<-e];exact hD)) (Nat.lt_irrefl _)
   · exact I.nofs hD e
theorem Zb3 {C D:Addr} {fp:List Addr} {xe:Value->Shared->Prop} {s:Shared} {H:Hp} {σ':St} {ys:List V} {its:List Value} {n:Nat} {h':Heap} (S:CompSd X scope tn cn js) (I:Inv X pins σ H₂ s₂) (hC:s₂.heap.objs.size<=C) (hD:s₂.heap.objs.size<=D) (hDC:D≠C)
 (hf:∀b∈fp,Xg X pins H₂ b) (I':Inv (Qu X scope (tn++cn) C s₂ H₂ fp xe) [(D,{ cls := .type "list",data := .seq its.toArray n })] σ' H s) (hv:Vals ys its) (hz:ys.length<=sizeLine) (hs:Heap.SameBut C s.heap h') :
 Inv X pins σ (upd H D (.lst ys)) { s with heap:=h' }:=by
 have pd:=I'.pin (D,{ cls := .type "list",data := .seq its.toArray n }) (List.mem_append_right _ List.mem_cons_self);have pd1:s.heap.get? D=some { cls := .type "list",data := .seq its.toArray n }:=pd.1;have pd2:H D=none:=pd.2.1;have hD':h'.get? D=some { cls := .type "list",data := .seq its.toArray n }:=(hs.2 D hDC).trans pd1;have hCf:H C=none:=I'.free;have old:∀b o,s₂.heap.get? b=some o->b≠C/\b≠D:=λb o e=>⟨Nat.ne_of_lt (Nat.lt_of_lt_of_le (Heap.lt_size e) hC),Nat.ne_of_lt (Nat.lt_of_lt_of_le (Heap.lt_size e) hD)⟩
 have u:=I'.base;have u:Un (frs X.stack) fp H₂ H s₂.heap s.heap:=u;refine I.call' (s':={ s with heap:=h' }) (ch:=fp) (H':=upd H D (.lst ys)) I'.os ⟨λb o e n hb hx => ?_,λb o e n hb hx => ?_,λb o e n hx => ?_,λb o e hx => ?_,λb xs e => ?_,λb o xs e => ?_,λb ps e => ?_⟩ (λb o e => ?_) I'.bare (λb hb => ?_)
 · exact(hs.2 b (old b o e).1).trans (u.keep b o e n hb hx)
 · obtain⟨sl,q⟩:=u.slot b o e n hb hx
   exact⟨sl,(hs.2 b (old b o e).1).trans q⟩
 · rw [ZI (old b o e).2]
   exact u.free b o e n hx
 · obtain⟨o',q⟩:=u.there b o e hx
   exact⟨o',(hs.2 b (old b o e).1).trans q⟩
 · have q:=u.tups b xs e
   rw [ZI (Xb q pd2)];exact q
 · have q:=u.frzs b o xs e
   rw [ZI (Xb q pd2)];exact q
 · obtain⟨more,q⟩:=u.tbls b ps e
   exact⟨more,by rw [ZI (Xb q pd2)];exact q⟩
 · by_cases hb:b=D
   · subst hb
     rw [Z2]at e;cases e;exact⟨hz,its,n,hv,hD'⟩
   · rw [ZI hb]at e
     refine(I'.hok b o e).stay (λc v hc q=>(hs.2 c ?_).trans q) (λc q=>by rw [ZI (Xb q pd2)];exact q) λc xs q=>by rw [ZI (Xb q pd2)];exact q
     rintro rfl
     rcases hc with rfl|hc
     · rw [hCf]at e;cases e
     · rw [hCf]at hc;cases hc
 · obtain⟨f0,f1,f2,f3,f4,f5⟩:=hf b hb
   exact⟨f3,f1,f4,f5⟩
end
section
variable{X:Cx}{tg iter elt:Expr}{ifs:List Expr}{scope:Scope}{pos:Pos}{wi:TI}{g:TG}{tt:TT}{te:TE}{tn cn:List Str}{js:List Nat}
abbrev XZ(X:Cx)(scope:Scope)(N':List Str)(C:Addr)(s₂:Shared)(H₂:Hp)(fp:List Addr):Cx:=Qu X scope N' C s₂ H₂ fp λ_ _=>False
theorem ZaZ {pins:List (Addr×Obj)} {σ:St} {H₂:Hp} {s₂:Shared} {it:Addr} {fp:List Addr} {tnx:Nat->Heap->Prop} {J:It} {E:Value->Shared->Prop} {RR:Value->Addr->Result->Shared->Prop} {W:Nat->Nat->List V->Hp->Prop} {m0:Nat}
 (hc:X.calm=true) (S:CompSd X scope tn cn js)
 (hg:∀C s₂ H₂ fp,PG (XZ X scope (tn++cn) C s₂ H₂ fp) tg g) (ht:∀C s₂ H₂ fp,PTs (XZ X scope (tn++cn) C s₂ H₂ fp) ifs tt) (he:∀C s₂ H₂ fp,PE (XZ X scope (tn++cn) C s₂ H₂ fp) elt te)
 (I2:Inv X pins σ H₂ s₂) (T:Turn X.prog X.w X.K tg J fp it tnx) (st2:tnx 0 s₂.heap) (f2:∀b∈fp,Xg X pins H₂ b) (w0:W 0 m0 [] H₂)
 (turn:∀i m ys H,W i m ys H->(J.stop i H/\∀C D s its n σ',s₂.heap.objs.size<=C->s₂.heap.objs.size<=D->D≠C->Vals ys its->ys.length<=sizeLine ->
   Inv (XZ X scope (tn++cn) C s₂ H₂ fp) [(D,{ cls := .type "list",data := .seq its.toArray n })] σ' H s->RR (.ref D) C (.ok .next) s) \/
   (J.go i H/\∀x H',J.yld i H x H'->g x (blk tn.length σ js) H' λσ2 H2=>tt σ2 H2 λb H3=>
     if b=true then te σ2 H3 λy H4=>ys.length<sizeLine/\∃m',m'<m/\W (i+1) m' (ys++[y]) H4 else ∃m',m'<m/\W (i+1) m' ys H3)) :
 wpAny (model X.prog X.w) X.A (newList []) (λacc s₃=>wpAny (model X.prog X.w) X.A (newFunctionEnv scope X.env.globals (Xh X.env.cells scope.names []) [] X.env.qual none .none (some X.env)) (λcenv s₄=>
  codeAny (model X.prog X.w) X.A (.compStart (.ListComp elt [⟨tg,iter,ifs,0⟩] scope pos) 0 (.ref it) acc { cenv with scope:=relabel scope X.env }) (RR acc cenv.locals) s₄) E s₃) E s₂:=by
 refine wpAny_newObj_type (ZaB ?_);dsimp only;generalize hH2:s₂.heap.push { cls := .type "list",dict:=none,data := .seq ([]:List Value).toArray }=HH;have hCs:HH.objs.size=s₂.heap.objs.size+1:=by rw [<-hH2,Heap.size_push]
 have hDC:s₂.heap.objs.size≠HH.objs.size:=by rw [hCs];exact Nat.ne_of_lt (Nat.lt_succ_self _)
 have hC:s₂.heap.objs.size<=HH.objs.size:=by rw [hCs];exact Nat.le_succ _
 have hD:s₂.heap.objs.size<=s₂.heap.objs.size:=Nat.le_refl _;have hHe:HH.objs.size+1=(HH.push { cls := .type "dict",data := .dict #[] }).objs.size:=(Heap.size_push ..).symm
 have hcs:∀x c,(UM X scope HH.objs.size).lookup x=some c->HH.objs.size+1<=c->(pushCells (HH.push { cls := .type "dict",data := .dict #[] }) scope.names).IsCell c none:=λx c hx hc=>by
  unfold UM at hx;rw [hHe]at hx;refine Zad (lo:=HH.objs.size+1) _ _ _ (λz d hz hd => ?_) hx hc;obtain⟨v,o,q,_⟩:=I2.cell z d (QV _ [] (S.clos I2.ok) (λ_ z=>by cases z) hz);exact absurd (Nat.lt_of_lt_of_le (Nat.lt_of_lt_of_le (Heap.lt_size q) hC) (Nat.le_of_succ_le hd)) (Nat.lt_irrefl _)
 have hns₁:(pushCells (HH.push { cls := .type "dict",data := .dict #[] }) scope.names).Ns HH.objs.size (λ_=>none):=(Heap.Ns.new HH (.type "dict")).keeps (pushCells_keeps _ _);generalize hh1:pushCells (HH.push { cls := .type "dict",data := .dict #[] }) scope.names=h₁ at hcs hns₁ ⊢
 have old:∀b o,s₂.heap.get? b=some o->h₁.get? b=some o:=λb o e=>by
  rw [<-hh1];exact pushCells_keeps _ _ b o (Heap.get?_push_of_some _ (hH2▸Heap.get?_push_of_some _ e))
 have hacc:h₁.get? s₂.heap.objs.size=some { cls := .type "list",dict:=none,data := .seq ([]:List Value).toArray }:=by
  rw [<-hh1];exact pushCells_keeps _ _ _ _ (Heap.get?_push_of_some _ (hH2▸Heap.get?_push_size _ rfl))
 have hob:=T.obj _ _ st2
 have I3:Inv (XZ X scope (tn++cn) HH.objs.size s₂ H₂ fp) [(s₂.heap.objs.size,{ cls := .type "list",dict:=none,data := .seq ([]:List Value).toArray })] (blk tn.length σ js) H₂ { s₂ with heap:=h₁ }:=
  ZcP (tk:=s₂.toks) S I2 hC hD hDC f2 hob old hns₁ hacc (λv z=>by cases z) hcs
 have st3:tnx 0 h₁:=T.keep _ _ _ st2 λb hb o e=>old b o e
 generalize hX':XZ X scope (tn++cn) HH.objs.size s₂ H₂ fp=X' at I3;generalize hs3:({ s₂ with heap:=h₁ }:Shared)=s3 at I3 ⊢;have st3':tnx 0 s3.heap:=by rw [<-hs3];exact st3
 have stat:∀{pins':List (Addr×Obj)}{H':Hp},(∀b∈fp,H' b=none)->(∀p∈pins',p.1=s₂.heap.objs.size)->∀b∈fp,Xg X' pins' H' b:=λ{pins' H'} hn hp b hb=>by
  subst hX';obtain⟨o,e,_⟩:=hob b hb;obtain⟨f0,f1,f2',f3,f4,f5⟩:=f2 b hb;refine⟨hn b hb,Nat.ne_of_lt (Nat.lt_of_lt_of_le (Heap.lt_size e) hC),λz=>(List.mem_cons.mp (I2.stkSub b z)).elim f1 f2',.inl hb,λx c h => ?_,λp hpp => ?_⟩
  · rcases UN S I2.ok h with⟨q,_⟩|q
    · exact Nat.ne_of_gt (Nat.lt_of_lt_of_le (Nat.lt_of_lt_of_le (Heap.lt_size e) hC) (Nat.le_of_succ_le q))
    · exact f4 x c q
  have:p∈pins':=by
   have q:p∈([]:List (Addr×Obj))++pins':=hpp;simpa using q
  rw [hp p this];exact Nat.ne_of_gt (Heap.lt_size e)
 have loop:codeAny (model X.prog X.w) X.A (.compLoop (.ListComp elt [⟨tg,iter,ifs,0⟩] scope pos) 0 (.ref it) (.ref s₂.heap.objs.size) X'.env) (RR (.ref s₂.heap.objs.size) HH.objs.size) s3:=by
  refine Zcm (λk s'=>∃i ys its n H',Inv X' [(s₂.heap.objs.size,{ cls := .type "list",data := .seq its n })] (blk tn.length σ js) H' s'/\Vals ys its.toList/\ys.length<=sizeLine/\tnx i s'.heap/\(∀b∈fp,H' b=none)/\W i k ys H') ?_ m0
   ⟨0,[],#[],0,H₂,I3,.nil,Nat.zero_le _,st3',λb hb=>(f2 b hb).1,w0⟩
  rintro k s4 ⟨i,ys,its,n,H4,I4,hv4,hz4,st4,fr4,w4⟩
  have eP:X'.prog=X.prog:=by rw [<-hX'];rfl
  have eW:X'.w=X.w:=by rw [<-hX'];rfl
  have eK:X'.K=X.K:=by rw [<-hX'];rfl
  have eA:X'.A=X.A:=by rw [<-hX'];rfl
  have eC:X'.calm=true:=by rw [<-hX'];exact hc
  have eE:X'.xe=λ_ _=>False:=by rw [<-hX'];rfl
  rcases turn i k ys H4 w4 with⟨stop,qn⟩|⟨go,step⟩
  · have z:=T.done X' eP eW eK eC i _ s4 (blk tn.length σ js) H4 (λ_ _=>False) I4 (stat fr4 (λp hp=>by simp at hp;rw [hp])) st4 stop
    rw [eA]at z;refine U8 (thn z λr s5 ⟨hr,I5⟩ => ?_);subst hr;subst hX';exact qn _ _ s5 its.toList n _ hC hD hDC hv4 hz4 (by simpa using I5)
  · have z:=T.item X' eP eW eK eC i _ s4 (blk tn.length σ js) H4 (λ_ _=>False) I4 (stat fr4 (λp hp=>by simp at hp;rw [hp])) st4 go
    rw [eA]at z;refine U8 (thn z λr s5 ⟨u,hr,h5⟩ => ?_);subst hr;refine U8 (thn h5 λ_ s6 ⟨x,H6,I6,r6,y6,st6,fr6⟩ => ?_);have I6':=I6.pinned (stat fr6 (λp hp=>by simp at hp;rw [hp])) (T.obj _ _ st6);have hg':PG X' tg g:=by rw [<-hX'];exact hg _ _ _ _
    have ht':PTs X' ifs tt:=by rw [<-hX'];exact ht _ _ _ _
    have he':PE X' elt te:=by rw [<-hX'];exact he _ _ _ _
    have z7:=hg' _ s6 _ H6 x u _ I6' r6 (step x H6 y6);rw [eP,eW,eA,eE]at z7;refine U8 (thn z7 λ_ s7 ⟨σ7,H7,I7,q7⟩ => ?_);have z8:=ht' _ s7 σ7 H7 _ I7 q7;rw [eP,eW,eA,eE]at z8;refine U8 (thn z8 λok s8 ⟨H8,I8,q8⟩ => ?_)
    have key:∀{σ9:St}{H9:Hp}{s9:Shared}{its':Array Value}{n':Nat},Inv X' ([(s₂.heap.objs.size,{ cls := .type "list",data := .seq its' n' })]++Vj fp s6.heap) σ9 H9 s9 ->
     Inv X' [(s₂.heap.objs.size,{ cls := .type "list",data := .seq its' n' })] (blk tn.length σ js) H9 s9/\tnx (i+1) s9.heap/\∀b∈fp,H9 b=none:=λ{σ9 H9 s9 its' n'} I9=>by
     refine⟨?_,T.keep _ _ _ st6 λb hb o e=>(I9.pin (b,o) (List.mem_append_right _ (List.mem_append_right _ (JR hb e)))).1,λb hb => ?_⟩
     · have I9':=I9.unpinned
       subst hX';exact ZcO S I2 f2 I9'
     · obtain⟨o,e,d⟩:=T.obj _ _ st6 b hb
       exact(I9.pin (b,o) (List.mem_append_right _ (List.mem_append_right _ (JR hb e)))).2.1
    cases ok with
    |false=>
     rw [if_neg Bool.false_ne_true]at q8 ⊢;obtain⟨m',hm,w8⟩:=q8;obtain⟨I9,st9,fr9⟩:=key I8;exact⟨m',hm,i+1,ys,its,n,H8,I9,hv4,hz4,st9,fr9,w8⟩
    |true=>
     rw [if_pos rfl]at q8 ⊢;have z9:=he' _ s8 σ7 H8 _ I8 q8;rw [eP,eW,eA,eE]at z9;refine U8 (thn z9 λv s9 ⟨y,H9,I9,r9,hl9,m',hm,w9⟩ => ?_);have pd:=I9.pin (s₂.heap.objs.size,{ cls := .type "list",data := .seq its n }) (List.mem_append_right _ (List.mem_append_left _ List.mem_cons_self));have hpl:s9.heap.PlainList s₂.heap.objs.size its:=⟨n,pd.1⟩
     have hlen:its.size=ys.length:=by rw [hv4.length];simp
     refine wpAny_list_append_plain (hsz:=by omega) hpl λh10 hl10 hs10 => ?_
     obtain⟨n10,e10⟩:=hl10;have I10:Inv X' (Vj fp s6.heap) σ7 H9 s9:=I9.pins_of λp hp=>I9.pin p (List.mem_append_right _ (List.mem_append_right _ hp))
     have nD:∀b∈fp,b≠s₂.heap.objs.size:=λb hb=>by
      obtain⟨o,e,_⟩:=hob b hb;exact Nat.ne_of_lt (Heap.lt_size e)
     have I11:Inv X' (Vj fp s6.heap) σ7 H9 { s9 with heap:=h10 }:=by
      refine I10.turned (t':=s9.toks) (it:=s₂.heap.objs.size) (λb o hb e=>(hs10.2 b hb).trans e) pd.2.1 pd.2.2.1 ?_ ?_ ?_
      · subst hX';exact .inr (Nat.le_refl _)
      · subst hX'
        intro x c h;rcases UN S I2.ok h with⟨z,_⟩|z
        · exact Nat.ne_of_gt (Nat.lt_of_lt_of_le (Nat.lt_of_lt_of_le (Nat.lt_succ_self _) (Nat.le_of_eq hCs.symm)) (Nat.le_of_succ_le z))
        · obtain⟨v',o',q,_⟩:=I2.cell x c z
          exact Nat.ne_of_lt (Heap.lt_size q)
      · intro p hp
        have hp':p∈Vj fp s6.heap:=by
         subst hX';have q:p∈([]:List (Addr×Obj))++Vj fp s6.heap:=hp;simpa using q
        exact nD _ (ZbJ hp').1
     have I12:Inv X' ([(s₂.heap.objs.size,{ cls := .type "list",data := .seq (its.push v) n10 })]++Vj fp s6.heap) σ7 H9 { s9 with heap:=h10 }:=I11.pins_of λp hp=>by
      rcases List.mem_append.mp hp with q|q
      · have e:p=(s₂.heap.objs.size,{ cls := .type "list",data := .seq (its.push v) n10 }):=by simpa using q
        subst e;exact⟨e10,pd.2.1,pd.2.2.1,pd.2.2.2.1,λv z=>by cases z⟩
      · exact I11.pin p (List.mem_append_right _ q)
     obtain⟨J1,J2,J3⟩:=key I12;refine⟨m',hm,i+1,ys++[y],its.push v,n10,H9,J1,?_,?_,J2,J3,w9⟩
     · have:(its.push v).toList=its.toList++[v]:=by simp
       rw [this];exact hv4.append (.cons r9 .nil)
     · rw [List.length_append,List.length_singleton]
       omega
 have eEnv:({ newEnv scope HH.objs.size X.env.globals (cellsFrom (HH.objs.size+1) scope.names (Xh X.env.cells scope.names [])) X.env.qual none .none (some X.env) builtinsNs with scope:=relabel scope X.env }:Env)=X'.env:=by rw [<-hX'];rfl
 have loop2:=loop;rw [<-eEnv]at loop loop2;exact codeAny_compStart_list loop (T.self X.A 0 s3 _ _ st3' loop2)
theorem VY (hc:X.calm=true) (S:CompSd X scope tn cn js) (hi:PI X tg iter wi)
 (hg:∀C s₂ H₂ fp,PG (XZ X scope (tn++cn) C s₂ H₂ fp) tg g) (ht:∀C s₂ H₂ fp,PTs (XZ X scope (tn++cn) C s₂ H₂ fp) ifs tt) (he:∀C s₂ H₂ fp,PE (XZ X scope (tn++cn) C s₂ H₂ fp) elt te)
 (hs:∀x,foldedSetIterable iter X.env x=pure x:=by intro _;rfl) :
 PE X (.ListComp elt [⟨tg,iter,ifs,0⟩] scope pos) (Zha wi g tt te tn.length js):=by
 intro pins s σ H Q I h;rw [eval_ListComp];refine wpAny_comprehension_free (use:=none) (cl:=Xh X.env.cells scope.names []) rfl hs (Zap (S.clos I.ok)) S.kind S.names (thn (hi pins s σ H _ I h) λv s1 h1=>thn h1 λitv s2 h2 => ?_);obtain⟨it,fp,tnx,J,H2,e,I2,T,st2,f2,W,⟨m0,w0⟩,turn⟩:=h2;subst e;refine ZaZ (RR:=λacc C=>compPost (model X.prog X.w) X.A X.xe none (EP X pins σ Q) acc C) (W:=W) (m0:=m0) hc S hg ht he I2 T st2 f2 w0 λi m ys H w => ?_
 rcases turn i m ys H w with⟨stop,qn⟩|r
 · refine .inl ⟨stop,λC D s its n σ' hC hD hDC hv hz I' => ?_⟩
   obtain⟨m',hn,_⟩:=id I'.loc;refine⟨m',hn,λh' hs' => ?_⟩;have pd:=I'.pin (D,{ cls := .type "list",data := .seq its.toArray n }) (List.mem_append_right _ List.mem_cons_self);exact⟨.ref D,_,Zb3 S I2 hC hD hDC f2 I' hv hz hs',rfl,qn D pd.2.1⟩
 · exact .inr r
end
end L2
namespace L2
open PySem PySem.Spec PyProof.Rows
section
variable{X:Cx}{scope:Scope}{tn cn:List Str}{js:List Nat}{tg iter elt:Expr}{ifs:List Expr}{pos spos pos':Pos}{wi:TI}{g:TG}{tt:TT}{te:TE}
theorem Zcz {i:Nat} {x:Str} (hN:X.N.Nodup) (hi:X.N[i]? = some x) (hx:X.env.scope.names.lookup x=some .local) (hc:X.calm=true) (S:CompSd X scope tn cn js) (hI:PI X tg iter wi)
 (hg:∀C s₂ H₂ fp,PG (XZ X scope (tn++cn) C s₂ H₂ fp) tg g) (ht:∀C s₂ H₂ fp,PTs (XZ X scope (tn++cn) C s₂ H₂ fp) ifs tt) (he:∀C s₂ H₂ fp,PE (XZ X scope (tn++cn) C s₂ H₂ fp) elt te)
 (hsw:swapsWith (.ListComp elt [⟨tg,iter,ifs,0⟩] scope pos) (some (.Name x pos')) spos.line X.env=pure true:=by rfl)
 (hs:∀x,foldedSetIterable iter X.env x=pure x:=by intro _;rfl) :
 PS X (.Assign [.Name x pos'] (.ListComp elt [⟨tg,iter,ifs,0⟩] scope pos) spos) (UA (Zha wi g tt te tn.length js) (VL i)):=by
 intro pins s σ H D I h;rw [exec_Assign_Name_used _ _ _ _ hsw];refine wpAny_bind (wpAny_standAt (wpAny_bind ?_));show wpAny _ X.A (do let _ <-comprehension (.ListComp elt [⟨tg,iter,ifs,0⟩] scope pos) scope X.env _ (newList []) false (eval iter X.env) (some (assign (.Name x pos') X.env))) _ _ s
 refine wpAny_bind (wpAny_mono (wpAny_comprehension_free (use:=some (assign (.Name x pos') X.env)) (Q:=λ_ s'=>SP X pins D .next s') (cl:=Xh X.env.cells scope.names []) rfl hs (Zap (S.clos I.ok)) S.kind S.names
  (thn (hI pins s σ H _ I h) λv s1 h1=>thn h1 λitv s2 h2 => ?_)) (λ_ s' hq=>wpAny_pure (wpAny_pure hq)) λ_ _ e=>e)
 obtain⟨it,fp,tnx,J,H2,e,I2,T,st2,f2,W,⟨m0,w0⟩,turn⟩:=h2;subst e;refine ZaZ (RR:=λacc C=>compPost (model X.prog X.w) X.A X.xe (some (assign (.Name x pos') X.env)) (λ_ s'=>SP X pins D .next s') acc C) (W:=W) (m0:=m0) hc S hg ht he I2 T st2 f2 w0 λi' m ys H w => ?_
 rcases turn i' m ys H w with⟨stop,qn⟩|r
 · refine .inl ⟨stop,λC D' s its n σ' hC hD hDC hv hz I' => ?_⟩
   obtain⟨m',hn,_⟩:=id I'.loc;have pd:=I'.pin (D',{ cls := .type "list",data := .seq its.toArray n }) (List.mem_append_right _ List.mem_cons_self);have hCf:H C=none:=I'.free;have I1:Inv X pins σ (upd H D' (.lst ys)) { s with heap:=s.heap }:=Zb3 S I2 hC hD hDC f2 I' hv hz (Heap.SameBut.refl _ _);show wpAny _ X.A (assign (.Name x pos') X.env (.ref D')) _ _ _;have hlC:X.env.locals≠C:=λz=>absurd (z▸I2.lt) (Nat.not_lt.mpr hC)
   have hcC:∀y c,X.env.cells.lookup y=some c->c≠C:=λy c e z=>by
    obtain⟨v',o',q,_⟩:=I2.cell y c e;exact absurd (Heap.lt_size q) (Nat.not_lt.mpr (z▸hC))
   refine wpAny_assign_Name (ZbI I1 hN hi (.inl hx) (v:=.ref D') rfl (λs3 I3 ⟨a,hsb,ha⟩ => ?_) (.inr hx))
   have hCa:C≠a:=by
    rcases ha with rfl|ha
    · exact Ne.symm hlC
    · exact Ne.symm (hcC _ _ ha)
   refine⟨m',hn.sameBut hsb hCa,λh' hs' => ?_⟩;have hCn:upd H D' (.lst ys) C=none:=by rw [ZI (Ne.symm hDC)];exact hCf
   have I4:Inv X pins (σ.set i (some (.ref D'))) (upd H D' (.lst ys)) { s3 with heap:=h',toks:=s3.toks }:=I3.turned (it:=C) (λb o hb e=>(hs'.2 b hb).trans e) hCn (Ne.symm hlC) (.inr (Nat.le_trans (Nat.le_trans I2.ok.above (Nat.le_of_lt I2.lt)) hC)) (λy c e=>hcC y c e) λp hp z=>by
    have:=(I2.pin p hp).1;exact absurd (Heap.lt_size this) (Nat.not_lt.mpr (z▸hC))
   exact⟨_,_,I4,qn D' pd.2.1⟩
 · exact .inr r
theorem CompSd.mkG{on:List (Str×NameKind)}(hk:scope.kind = .function)(ho:∀y,on.lookup y=some .cell\/on.lookup y=some .free->X.env.kindOf y=some .cell\/X.env.kindOf y=some .free)(h:Zbh on X.N scope.names cn js=true):CompSd X scope tn cn js:=by
 unfold Zbh at h;simp only [Bool.and_eq_true,List.all_eq_true]at h;obtain⟨⟨⟨⟨h1,h2⟩,h3⟩,h4⟩,h5⟩:=h;have hlen:cn.length=js.length:=by simpa using h5
 refine⟨hk,λy hy e=>by simpa [e]using h1 y hy,λy hy e=>by simpa [e]using h2 y hy,λy hy e=>ho _ (by simpa [e]using h3 y hy),λk x e => ?_,hlen⟩;have hkj:k<js.length:=hlen▸(List.getElem?_eq_some_iff.mp e).1;have:=h4 (x,js[k]) (List.mem_of_getElem? (i:=k) (List.getElem?_zip_eq_some.mpr ⟨e,by simp [hkj]⟩));simp only [Bool.and_eq_true,Bool.or_eq_true,beq_iff_eq]at this
 exact⟨js[k],by simp [hkj],this.1.1,ho _ this.1.2,this.2⟩
theorem CompSd.mk1{osc:Scope}{oN:List Str}(hk:scope.kind = .function)(ho:X.env.scope=osc)(hN:X.N=oN)(h:Zbh osc.names oN scope.names cn js=true):CompSd X scope tn cn js:=CompSd.mkG (on:=osc.names) hk (λy e=>by unfold Env.kindOf;rw [ho];exact e) (hN▸h)
theorem CompSd.mk3(hk:scope.kind = .function)(h:Zbh [] [] scope.names [] []=true):CompSd X scope tn [] []:=CompSd.mkG (on:=[]) hk (λ_ e=>by simp at e) h
end
end L2
namespace L2
open PySem PySem.Spec
theorem fsm {N P:List Str} {sc:Scope} (a:sc.kind = .function:=by rfl) (b:sc.isCoroutine=false:=by rfl) (c:sc.isGenerator=false:=by rfl) (d:N.Nodup:=by decide +kernel) (e:N.take P.length=P:=by rfl)
 (f:∀x∈P,sc.names.lookup x=some .local\/sc.names.lookup x=some .cell:=by decide +kernel) (g:∀y∈sc.names,y.2 ≠ .free:=by decide +kernel):FnScope N P sc:=⟨a,b,c,d,e,f,g⟩
structure Df(K:PySem.W.Frag)(x q:Str)(st:Stmt)(a:Addr)(fd:FuncData)(ps:List Str):Prop where
 f:FunX K x q st a fd
 b:Binds K fd ps []
 k:PySem.W.keepIn K (.ref a)=true
structure Dg(K:PySem.W.Frag)(mg:Str->Option Value)(x:Str)(st:Stmt)(a:Addr)(fd:FuncData)(ps:List Str):Prop extends Df K x x st a fd ps where
 g:mg x=some (.ref a)
structure Fg(K:PySem.W.Frag)(x:Str)(st:Stmt)(f:Addr)(fd:FuncData):Prop where
 a:nsIn K mainGlobals x=some (some (.ref f))
 l:Fun K x x st f fd
variable{K:PySem.W.Frag}{h:Heap}{mg:Str->Option Value}{x q:Str}{st:Stmt}{f:Addr}{fd:FuncData}{ps:List Str}
theorem Fun.df (F:Fun K x q st f fd) (b:∀(kV doc pm:Value)(an:Option Addr)(cdv ct:Value)(us:List Value),us.length=ps.length->bindArgs (fnOf x q (defArgs st) (defBody st) (defScope st) .none kV doc pm an cdv ct) ⟨us,[]⟩=pure (ps.zip us):=by
 intro _ _ _ _ _ _ us hl;rcases us with _|⟨_,_|⟨_,_|⟨_,_|⟨_,_|⟨_,_|⟨_,_|⟨_,_⟩⟩⟩⟩⟩⟩⟩<;>first|(exfalso;simp at hl;done)|rfl):Df K x q st f fd ps:=⟨F.x,F.binds b,F.kp⟩
theorem Fg.dg(F:Fg K x st f fd)(X:K.In h)(G:h.Ns mainGlobals mg)(D:Df K x x st f fd ps):Dg K mg x st f fd ps:=⟨D,mg_of X G F.a⟩
theorem Fg.of {oc:Value} {od an:Option Addr} {osl:Array (Option Value)} {kV doc pm cdv ct:Value} (a:nsIn K mainGlobals x=some (some (.ref f))) (l:K.lookup f=some ⟨oc,od,.func (fnOf x x (defArgs st) (defBody st) (defScope st) .none kV doc pm an cdv ct),osl⟩)
 (c:codeIn K cdv x=true) (k:PySem.W.keepIn K (.ref f)=true):Fg K x st f (fnOf x x (defArgs st) (defBody st) (defScope st) .none kV doc pm an cdv ct):=⟨a,fun_mk l c k⟩
end L2
namespace PySem
abbrev Zjs(h:Heap)(z TI TO:Addr)(f0 f1:Value):Prop:=
 h.get? z=some { cls := .type "zip",dict:=none,data := .fields #[f0,f1,.bool false,.ref TI,.ref TO],slots := #[] }
section
variable{prog:Program}{w:World}{A:Around}{E:Value->Shared->Prop}{s:Shared}
structure ZipSt(h:Heap)(z TI TO i1 i2 l1 l2:Addr)(i:Nat):Prop where
 zip:∃f0 b,Zjs h z TI TO f0 (.bool b)/\((f0 = .none/\b=false)\/∃T o,f0=rawInt (T:Nat)/\h.get? T=some o)
 TI:IsPair h TI (.ref i1) (.ref i2)
 TO:∃a b,IsPair h TO a b
 it1:h.IsListIter i1 l1 i
 it2:h.IsListIter i2 l2 i
end
end PySem
namespace L2
open PySem PySem.Spec PyProof.Rows
end L2
namespace L2
open PySem PySem.Spec PyProof.Rows
section
variable{X:Cx}
open Classical in
end
end L2
namespace DL
open PySem PySem.Spec L2
section
variable{cA:Kn}{G:Cn}{ow:List Nat}
end
end DL
namespace L2
open PySem PySem.Spec PyProof.Rows
end L2
namespace DL
open PySem PySem.Spec L2
end DL
namespace DL
open PySem PySem.Spec L2
section
variable{cA:Kn}{G:Cn}{ow owN owB owC:List Nat}{H0 H H':Hp}{av:Addr->Prop}{A:Nat->Option Addr}{σ:L2.St}{δ:Env}
end
end DL
namespace DL
open PySem PySem.Spec PyProof.Rows L2
section
variable{prog:Program}{w:World}{A:Around}{E:Value->Shared->Prop}{s:Shared}{l:Addr}{xs:Array (Int×Tok)}
theorem ZcQ {Q:Value->Shared->Prop} (hl:s.heap.IsTuple l (intItems xs))
 (h:∀s₂:Shared,s₂={ s with heap:=s.heap.push { cls := .type "tuple_iterator",data := .fields #[.ref l,.int 0 0] } } ->
   (s₂.heap.IsTupleIter s.heap.objs.size l 0/\s₂.heap.IsTuple l (intItems xs))->(∀b∈[s.heap.objs.size,l],b<s₂.heap.objs.size)->l≠s.heap.objs.size->Q (.ref s.heap.objs.size) s₂) :
 wpAny (model prog w) A (pyIter (.ref l)) Q E s:=by
 have hlt:l<s.heap.objs.size:=by obtain⟨_,e,_⟩:=hl;exact Heap.lt_size e
 refine wpAny_pyIter_tuple hl (h _ rfl ⟨⟨_,Heap.get?_push_size _ rfl,rfl,rfl⟩,hl.push _⟩ (λb hb => ?_) (Nat.ne_of_lt hlt));show b<(s.heap.push _).objs.size;rw [Heap.size_push];rcases List.mem_cons.mp hb with rfl|hb
 · exact Nat.lt_succ_self _
 · rcases List.mem_cons.mp hb with rfl|hb
   · exact Nat.lt_succ_of_lt hlt
   · cases hb
theorem ZfC {h':Heap} (hk:∀b o,b∉[s.heap.objs.size]->(s.heap.push { cls := .type "tuple_iterator",data := .fields #[.ref l,.int 0 0] }).get? b=some o->h'.get? b=some o) :
 ∀b o,s.heap.get? b=some o->h'.get? b=some o:=λb o e=>by
 refine hk b o (λhm => ?_) (Heap.get?_push_of_some _ e);rcases List.mem_cons.mp hm with e1|hm
 · exact absurd (e1▸Heap.lt_size e) (Nat.lt_irrefl _)
 · cases hm
theorem ZdV {Q:Value->Shared->Prop} (hh:A.handled=none) (hl:s.heap.IsTuple l (intItems xs)) (hne:0<xs.size)
 (h:∀v h' tk,(intItems xs)[argBest (λi j=>decide (numAt xs i<numAt xs j)) (xs.size-1)]? = some v->(∀b o,s.heap.get? b=some o->h'.get? b=some o)->Q v { s with heap:=h',toks:=tk }) :
 wpAny (model prog w) A (call (.builtin "min") [.ref l]) Q E s:=by
 refine call_min_walk (ZcQ hl λs₂ e st hfp hlI => ?_);subst e;refine⟨_,_,_,_,_,_,_,rfl,Walks.tuple (A:=A.in1) hh _ l hlI (intItems xs),st,hfp,by simpa [intItems]using hne,CmpOf.ints_lt (numAt xs) (λ_ _=>intItems_at),λv h' tk hP hk => ?_⟩;exact h v h' tk (by simpa [intItems]using hP) (ZfC hk)
end
def ZiN(K:PySem.W.Frag):List V->Hp->VK->Prop:=λxs H Q=>∃(p:Addr) (ns:List Int),xs=[.ref p]/\SqT K H p (ns.map V.int)/\0<ns.length/\Q (.int (XY ns)) H
def ZiO(K:PySem.W.Frag):List V->Hp->VK->Prop:=λxs H Q=>Zhk K xs H Q\/ZiN K xs H Q
section
variable{X:Cx}{K:PySem.W.Frag}{cA:Kn}
theorem ZfD(hc:X.calm=true):YI X (.builtin "min") (ZiN X.K):=by
 intro pins s σ H xs us Q I rs h;obtain⟨p,ns,rfl,hq,hne,q⟩:=h;obtain⟨u,rfl,rx⟩:=XH rs;cases rx;obtain⟨its,rv,hl,hz⟩:=I.tuple hq;have hi:=Zbt ns its rv;obtain⟨ys,e⟩:=hi.allInts.items
 have hns:ns=ys.toList.map (·.1):=by
  rw [<-hi.numsOf,<-nums_intItems,<-e]
 have hsz:0<ys.size:=by
  have h3:=hne;rw [hns,List.length_map,Array.length_toList]at h3;exact h3
 rw [e]at hl;refine ZdV (I.ok.hd hc) hl hsz λv h' tk hv hk => ?_
 obtain⟨t,rfl⟩:=intItems_at hv;obtain⟨h1,h2⟩:=argBest_lt (numAt ys) (ys.size-1)
 have hM:=Zb2 (ns:=ns) (M:=numAt ys (argBest (λi j=>decide (numAt ys i<numAt ys j)) (ys.size-1))) (by
  rw [hns,numAt_eq];exact getD_mem (by rw [List.length_map,Array.length_toList];omega)) (λa ha=>by
  rw [hns]at ha;obtain⟨j,hj,rfl⟩:=mem_getD ha;rw [List.length_map,Array.length_toList]at hj;rw [<-numAt_eq];exact h2 j (by omega))
 exact⟨.int (XY ns),H,I.kept hk,⟨t,by rw [hM]⟩,q⟩
theorem Zjt(hc:X.calm=true:=by rfl)(hK:X.K=K:=by rfl):YI X (.builtin "min") (ZiO K):=hK▸λpins s σ H xs us Q I rs h=>h.elim (ZfB hc pins s σ H xs us Q I rs) (ZfD hc pins s σ H xs us Q I rs)
def minQD:List D->Option D
 | [.tup xs]=>match Ui xs with
  |some ns=>if 0<ns.length then some (.int (XY ns))else none
  |none=>none
 |ds=>minLD ds
theorem ZhV:UF cA (ZiO cA.K) minQD:=λi H ds vs d ha h e Q k=>by
 unfold minQD at e
 split at e
 · rename_i xs
   cases hb:Ui xs with
   |none=>rw [hb]at e;cases e
   |some bs=>
    rw [hb]at e;dsimp only at e
    by_cases hz:0<bs.length
    · rw [if_pos hz]at e
      cases e;obtain⟨v,t,rfl,a,ws,rfl,_,rd,l⟩:=il1 h;have ex:=Zbs hb;subst ex;have ev:=l.vals (by rw [List.all_map];exact List.all_eq_true.mpr λ_ _=>rfl);rw [List.map_map]at ev;subst ev;exact .inr ⟨a,bs,rfl,SqT.of rd,hz,k _ H (Same.refl H) rfl⟩
    · rw [if_neg hz]at e;cases e
 · exact .inl (ZhU i H _ vs d ha h e Q k)
end
end DL
namespace DL
open PySem PySem.Spec L2
section
variable{cA:Kn}{G:Cn}{ow:List Nat}
def NewL(H0 H:Hp)(vs:List V):Prop:=∀v∈vs,∃b ws,v = .ref b/\H b=some (.lst ws)/\H0 b=none
theorem NewL.same{H0 H H':Hp}{vs:List V}(h:NewL H0 H vs)(s:Same H H'):NewL H0 H' vs:=λv hv=>let⟨b,ws,e,r,f⟩:=h v hv;⟨b,ws,e,s _ _ r,f⟩
mutual
theorem Rep.kind{av:Addr->Prop}{H H':Hp}:∀{d:D}{v:V},frz d=true->(∀b o,H b=some o->(∀vs,o ≠ .lst vs)->H' b=some o)->Rep cA av H d v->Rep cA av H' d v
 | .non,_,_,_,h=>h
 | .bl _,_,_,_,h=>h
 | .int _,_,_,_,h=>h
 | .str _,_,_,_,h=>h
 | .lst xs,v,hf,k,h=>by cases hf
 | .tup xs,v,hf,k,h=>by
  unfold DL.frz at hf;unfold Rep at h ⊢;obtain⟨a,vs,e,n,r,l⟩:=h;exact⟨a,vs,e,n,k _ _ r (λ_ z=>by cases z),RepL.kind hf k l⟩
 | .obj c ks xs,v,hf,k,h=>by
  unfold DL.frz at hf;unfold Rep at h ⊢;obtain⟨a,dx,vs,e,n,r,z,l⟩:=h;exact⟨a,dx,vs,e,n,k _ _ r (λ_ z=>by cases z),z,RepL.kind hf k l⟩
 | .dct ks xs,v,hf,k,h=>by cases hf
 | .dtt ks xs,v,hf,k,h=>by cases hf
theorem RepL.kind{av:Addr->Prop}{H H':Hp}:∀{xs:List D}{vs:List V},frzL xs=true->(∀b o,H b=some o->(∀vs,o ≠ .lst vs)->H' b=some o)->RepL cA av H xs vs->RepL cA av H' xs vs
 | [],_,_,_,h=>h
 |x::xs,vs,hf,k,h=>by
  unfold DL.frzL at hf;rw [Bool.and_eq_true]at hf;unfold RepL at h ⊢;obtain⟨v,r,e,h1,h2⟩:=h;exact⟨v,r,e,Rep.kind hf.1 k h1,RepL.kind hf.2 k h2⟩
end
structure Turned(H0 H H':Hp)(S:Addr->Prop):Prop where
 else_:∀b,¬S b->H' b=H b
 lst:∀b,S b->∃ws,H' b=some (.lst ws)
 old:∀b,S b->∃ws,H b=some (.lst ws)
 new:∀b,S b->H0 b=none
theorem Turned.kind{H0 H H':Hp}{S:Addr->Prop}(T:Turned H0 H H' S):∀b o,H b=some o->(∀vs,o ≠ .lst vs)->H' b=some o:=λb o e n=>by
 have hs:¬S b:=λz=>by
  obtain⟨ws,w⟩:=T.old b z;rw [w]at e;cases e;exact n ws rfl
 rw [T.else_ b hs];exact e
theorem Turned.same{H0 H H':Hp}{S:Addr->Prop}(T:Turned H0 H H' S)(s:Same H0 H):Same H0 H':=λb o e=>by
 have hs:¬S b:=λz=>by rw [T.new b z]at e;cases e
 rw [T.else_ b hs];exact s b o e
end
end DL
namespace DL
open PySem PySem.Spec L2
section
variable{cA:Kn}{G:Cn}{owN owB owC:List Nat}
theorem Turned.more{H0 H H':Hp}{S S':Addr->Prop}(T:Turned H0 H H' S)(hs:∀b,S b->S' b)(h1:∀b,S' b->∃ws,H b=some (.lst ws))(h2:∀b,S' b->H0 b=none):Turned H0 H H' S':=
 ⟨λb hb=>T.else_ b λz=>hb (hs b z),λb hb=>by
   by_cases z:S b
   · exact T.lst b z
   · rw [T.else_ b z];exact h1 b hb,h1,h2⟩
end
end DL
namespace PySem
open Sem (wp)
open AutoSeq1 (wpAny_loadPart')
section
variable{prog:Program}{w:World}{A:Around}{E:Value->Shared->Prop}{s:Shared}
end
end PySem
namespace L2
open PySem PySem.Spec PyProof.Rows
section
variable{X:Cx}{elts:List Expr}{x1:Nat}{tpos:Pos}
end
end L2
namespace DL
open PySem PySem.Spec L2
section
variable{cA:Kn}{G:Cn}{ow:List Nat}
end
end DL
namespace DL
open PySem PySem.Spec L2
section
variable{cA:Kn}{G:Cn}{ow owB owC:List Nat}
def Xa:D->D->Option D
 | .lst a,.lst b=>addX (.lst a) (.lst b)
 |_,_=>none
theorem Uo{ta tb:TE}{a b:Env->Option D}(ha:VE G ow ta .cl a)(hb:VE G ow tb .cl b):VF G ow (tOp (Q7 G.1.K) ta tb) (eOp Xa a b):=λH0 av A σ H δ E d e Q k=>by
 obtain⟨x,y,ex,ey,ed⟩:=J7 e;unfold Xa at ed
 split at ed
 · rename_i xs ys
   dsimp only [addX]at ed
   by_cases hz:xs.length+ys.length<=sizeLine
   · rw [if_pos hz]at ed
     cases ed;refine ha H0 av A σ H δ E _ ex _ λv H1 s1 r1=>hb H0 av A σ H1 δ (E.mono s1) _ ey _ λw H2 s2 r2 => ?_
     obtain⟨a1,vs1,rfl,na,rd,l1⟩:=r1;obtain⟨a2,vs2,rfl,nb,rd2,l2⟩:=r2;refine .inr (.inr ⟨a1,a2,vs1,vs2,rfl,rfl,s2.seq rd,rd2,by rw [<-l1.length,<-l2.length];exact hz,λp hp=>k p _ _ H2 (s1.trans s2) hp ((l1.same s2).append l2) rfl⟩)
   · rw [if_neg hz]at ed;cases ed
 · cases ed
end
end DL
namespace DL
open PySem PySem.Spec L2 PyProof.Rows
section
variable{X:Cx}{cA:Kn}
open Classical in
end
section
variable{prog:Program}{w:World}{A:Around}{E:Value->Shared->Prop}{s:Shared}{l:Addr}{xs:Array (Int×Tok)}
end
section
variable{X:Cx}{K:PySem.W.Frag}{cA:Kn}
end
end DL
namespace L2
open PySem PySem.Spec PyProof.Rows Builtin Builtin.Str
def Up(a:List Nat):List Nat:=(Txt.strip (tx a)).cps.toList
section
variable{X:Cx}
theorem Zgc:MtR X "str.strip" (λx xs H Q=>∃a,x=S a/\xs=[]/\a.length<=sizeLine/\Q (S (Up a)) H):=by
 intro pins s σ H x xs v us Q I rx rs h;obtain⟨a,rfl,rfl,hz,q⟩:=h;obtain⟨t,rfl⟩:=rx;cases rs;refine SC.strip (λt' k => ?_) (by show(tx a).length<=sizeLine;rw [YD];exact hz);exact⟨S (Up a),H,I.tok _,⟨t',by rw [show tx (Up a)=Txt.strip (tx a)from Zbq _]⟩,q⟩
end
end L2
namespace DL
open PySem PySem.Spec L2
variable{cA:Kn}
def stripD(a:List Nat):List D->Option D
 | []=>if a.length<=sizeLine then some (.str (Up a))else none
 |_=>none
theorem Zgd:Q2 cA (λx xs H Q=>∃a,x=S a/\xs=[]/\a.length<=sizeLine/\Q (S (Up a)) H) stripD:=λi H a ds vs d hi h e Q k=>by
 unfold stripD at e
 split at e
 · by_cases hz:a.length<=sizeLine
   · rw [if_pos hz]at e
     cases e;cases h;exact⟨a,rfl,rfl,hz,k _ H (Same.refl H) rfl⟩
   · rw [if_neg hz]at e;cases e
 · cases e
theorem Zju{G:Cn}{ow:List Nat}{K:PySem.W.Frag}{r:V->List V->Hp->VK->Prop}{f:List Nat->List D->Option D}{to:TE}{q0:Ql}{a:Env->Option D}(hr:Q2 G.1 r f)(ha:VE G ow to q0 a):VE G ow (ZkU K "str" r to) .cl (eBM f a eNil):=
 (show VE G ow (tBM K "str" r to tNil) .cl (eBM f a eNil)from XA (q:=.cl) hr ha Zh)
end DL
namespace DL
open PySem PySem.Spec L2
section
variable{cA:Kn}{G:Cn}{ow owN owB owC:List Nat}
inductive NewD(H0 H:Hp):List D->List V->Prop
 |nil:NewD H0 H [] []
 |cons {xs ds:List D} {vs ws:List V} {b:Addr} (h:H b=some (.lst ws)) (h0:H0 b=none) (hl:ws.length=ds.length) (r:NewD H0 H xs vs):NewD H0 H (.lst ds::xs) (.ref b::vs)
theorem NewD.same{H0 H H':Hp}(s:Same H H'):∀{xs:List D}{vs:List V},NewD H0 H xs vs->NewD H0 H' xs vs
 |_,_,.nil => .nil
 |_,_,.cons h h0 hl r => .cons (s _ _ h) h0 hl (NewD.same s r)
structure Hd(H HE H':Hp)(p0 p1 b0:Addr)(r1:List V):Prop where
 same:Same H H'
 kind:∀b o,HE b=some o->(∀vs,o ≠ .lst vs)->H' b=some o
 l0:∃v ws,H' p0=some (.lst (v::ws))
 l1:∃v ws,H' b0=some (.lst (v::ws))
 lp:H' p1=some (.lst (.ref b0::r1))
end
end DL
namespace DL
open PySem PySem.Spec L2
theorem Uq(i j:Int):eqD (.int i) (.int j)=some (.bl (decide (i=j))):=by
 show(if(ZW (.int i)&&ZW (.int j)&&Vl (V.int i) (V.int j))=true then some (D.bl (decide (V.int i=V.int j)))else _)=_;rw [if_pos (by rfl)];simp
theorem VZ(a b:List Nat):eqD (.str a) (.str b)=some (.bl (decide (a=b))):=by
 show(if(ZW (.str a)&&ZW (.str b)&&Vl (S a) (S b))=true then some (D.bl (decide (S a=S b)))else _)=_;rw [if_pos (by rfl)];simp only [Zlo]
theorem ZeM(a b:Bool):eqD (.bl a) (.bl b)=some (.bl (decide (a=b))):=by
 show(if(ZW (.bl a)&&ZW (.bl b)&&Vl (V.bl a) (V.bl b))=true then some (D.bl (decide (V.bl a=V.bl b)))else _)=_;rw [if_pos (by rfl)];simp
theorem Zeb:eqD .non .non=some (.bl true):=rfl
theorem Zec(i:Int):eqD .non (.int i)=some (.bl false):=by
 show(if(ZW .non&&ZW (.int i)&&Vl V.non (V.int i))=true then some (D.bl (decide (V.non=V.int i)))else _)=_;rw [if_pos (by rfl)];simp
theorem Zed(i:Int):eqD (.int i) .non=some (.bl false):=by
 show(if(ZW (.int i)&&ZW .non&&Vl (V.int i) V.non)=true then some (D.bl (decide (V.int i=V.non)))else _)=_;rw [if_pos (by rfl)];simp
theorem Qv(i j:Int):neD (.int i) (.int j)=some (.bl (!decide (i=j))):=by unfold neD;rw [Uq]
theorem Qw(i j:List Nat):neD (.str i) (.str j)=some (.bl (!decide (i=j))):=by unfold neD;rw [VZ]
theorem ZgL:neD .non .non=some (.bl false):=by unfold neD;rw [Zeb];rfl
theorem ZgM(i:Int):neD .non (.int i)=some (.bl true):=by unfold neD;rw [Zec];rfl
theorem ZgN(i:Int):neD (.int i) .non=some (.bl true):=by unfold neD;rw [Zed];rfl
theorem Jb{γ:D->Env->Option Env}{φ:Env->Option Out}(I:Nat->Env->Prop):∀(xs:List D)(k:Nat)(δ:Env),I k δ ->
 (∀(j:Nat)x δ,xs[j]? = some x->I (k+j) δ->∃δ1,γ x δ=some δ1/\∃δ2,φ δ1=some (.nx δ2)/\I (k+j+1) δ2)->∃δ',Yn γ φ xs δ=some (.nx δ')/\I (k+xs.length) δ'
 | [],k,δ,h,_=>⟨δ,rfl,h⟩
 |x::xs,k,δ,h,step=>by
  obtain⟨δ1,h1,δ2,h2,h3⟩:=step 0 x δ rfl h
  obtain⟨δ',h4,h5⟩:=Jb I xs (k+1) δ2 h3 λj y δ hy hI=>by
   have:=step (j+1) y δ (by simpa using hy) (by rwa [show k+(j+1)=k+1+j by omega])
   rwa [show k+(j+1)+1=k+1+j+1 by omega]at this
  refine⟨δ',?_,by rwa [List.length_cons,show k+(xs.length+1)=k+1+xs.length by omega]⟩;unfold Yn;rw [h1];dsimp only;rw [h2];exact h4
end DL
namespace DL
open PySem PySem.Spec L2
end DL
namespace DL
open PySem PySem.Spec L2
theorem ZhW{cs:List Nat}{i:Int}{c:Nat}(h:cs.length<=sizeLine)(hz:atI cs i=some c):ixD (.str cs) (.int i)=some (.str [c]):=by
 show(if cs.length<=sizeLine then(atI cs i).map λc=>D.str [c]else none)=_;rw [if_pos h,hz];rfl
end DL
namespace DL
open PySem PySem.Spec L2
theorem Zt{a b:Env->Option Out}{δ δ':Env}(h:a δ=some (.nx δ')):Zg a b δ=b δ':=by
 unfold Zg;rw [h]
theorem Yc{a b:Env->Option Out}{δ:Env}{d:D}(h:a δ=some (.rt d)):Zg a b δ=some (.rt d):=by
 unfold Zg;rw [h]
theorem Z1{i:Nat}{e:Env->Option D}{δ:Env}{d:D}(h:e δ=some d):Zq i e δ=some (.nx (δ.set i (some d))):=by
 unfold Zq;rw [h]
theorem Yr{e:Env->Option D}{δ:Env}{d:D}(h:e δ=some d):Zp e δ=some (.rt d):=by
 unfold Zp;rw [h]
theorem Yj{t:Env->Option Bool}{a b:Env->Option Out}{δ:Env}(h:t δ=some true):sIf t a b δ=a δ:=by
 unfold sIf;rw [h]
theorem Ys{t:Env->Option Bool}{a b:Env->Option Out}{δ:Env}(h:t δ=some false):sIf t a b δ=b δ:=by
 unfold sIf;rw [h]
theorem ZA{e:Env->Option D}{δ:Env}{b:Bool}(h:e δ=some (.bl b)):xB e δ=some b:=by
 unfold xB;rw [h];rfl
theorem Zbi{t:Env->Option Bool}{δ:Env}{b:Bool}(h:t δ=some b):Xd t δ=some (!b):=by
 unfold Xd;rw [h]
theorem Zee{a b:Env->Option Bool}{δ:Env}{x:Bool}(h1:a δ=some false)(h2:b δ=some x):xOr a b δ=some x:=by
 unfold xOr;rw [h1];exact h2
theorem Qx{a b:Env->Option Bool}{δ:Env}(h1:a δ=some true):xOr a b δ=some true:=by
 unfold xOr;rw [h1]
theorem Zbv{a b:Env->Option Bool}{δ:Env}{x:Bool}(h1:a δ=some true)(h2:b δ=some x):YL a b δ=some x:=by
 unfold YL;rw [h1];exact h2
theorem ZcA{a b:Env->Option Bool}{δ:Env}(h1:a δ=some false):YL a b δ=some false:=by
 unfold YL;rw [h1]
theorem ZT{n:Nat}{m:List D->Option D}{α:Env->Option (List D)}{δ:Env}{ds:List D}(h:α δ=some ds)(hn:ds.length=n):Zl n m [] α δ=m ds:=by
 unfold Zl;rw [h];dsimp only;rw [List.append_nil,if_pos hn]
theorem Zk{a:Env->Option D}{b:Env->Option (List D)}{δ:Env}{x:D}{xs:List D}(h1:a δ=some x)(h2:b δ=some xs):Zb a b δ=some (x::xs):=by
 unfold Zb;rw [h1,h2]
theorem Zn{f:D->D->Option D}{a b:Env->Option D}{δ:Env}{x y:D}(h1:a δ=some x)(h2:b δ=some y):eOp f a b δ=f x y:=by
 unfold eOp;rw [h1,h2]
theorem Zef{α:Env->Option (List D)}{δ:Env}{ds:List D}(h:α δ=some ds)(hl:ds.length<=1000):XQ α δ=(some (.tup ds):Option D):=by
 unfold XQ;rw [h];exact if_pos (Nat.le_trans hl (by decide))
theorem Vq{α:Env->Option (List D)}{δ:Env}{ds:List D}(h:α δ=some ds)(hl:ds.length<=1000):ZH α δ=(some (.lst ds):Option D):=by
 unfold ZH;rw [h];exact if_pos (Nat.le_trans hl (by decide))
theorem ZeN{lo c:Int}{n:Nat}{x:D}(h:x∈Yl lo c n):∃k:Nat,k<n/\x = .int (lo+(k:Nat)*c):=by
 unfold Yl at h;obtain⟨k,hk,rfl⟩:=List.mem_map.mp h;exact⟨k,List.mem_range.mp hk,rfl⟩
theorem ZfH{i:Int}(h:i.natAbs<=10 ^ 1000):Wd i:=Nat.lt_of_le_of_lt h (by decide +kernel)
theorem ZaI{i j:Int}(h1:j≠0)(h2:Wd j):fdivW (.int i) (.int j)=some (.int (i.fdiv j)):=if_pos ⟨h1,h2⟩
theorem ZeO{i j:Int}(h1:j≠0):modW (.int i) (.int j)=some (.int (i.fmod j)):=if_pos h1
theorem ZhX{a b:Int}(h:0<b):0<=a.fmod b/\a.fmod b<b:=by
 rw [Int.fmod_eq_emod_of_nonneg a (by omega)];exact⟨Int.emod_nonneg a (by omega),Int.emod_lt_of_pos a h⟩
end DL
namespace DL
open PySem PySem.Spec L2
theorem Jc{α:Env->Option (List D)}{δ:Env}{j:Int}(h:α δ=some [.int j])(h1 : -1000000<=j)(h2:j<=1000000):Z5 α δ=some (Yl 0 1 j.toNat):=by
 unfold Z5;rw [h];dsimp only;rw [if_pos ⟨by omega,by omega⟩]
theorem Zeg{α:Env->Option (List D)}{δ:Env}{i j:Int}(h:α δ=some [.int i,.int j])(h1 : -1000000<=j)(h2:j<=1000000)(h3 : -1000000<=i)(h4:i<=1000000):Z5 α δ=some (Yl i 1 (j-i).toNat):=by
 unfold Z5;rw [h];dsimp only;rw [if_pos ⟨by omega,by omega,by omega,by omega⟩]
theorem Vr{i:Nat}{ε:Env->Option D}{δ:Env}{xs:List D}{d:D}(h1:Za i δ=some (.lst xs))(h2:ε δ=some d)(hl:xs.length<=1000000):Z3 i ε δ=some (.nx (δ.set i (some (.lst (xs++[d]))))):=by
 unfold Z3;rw [h1];dsimp only;rw [h2];dsimp only;rw [if_pos (by rw [PySem.sizeLine_eq];omega)]
theorem ZcB{n j:Nat}{x:D}(h:(Yl 0 1 n)[j]? = some x):j<n/\x = .int (j:Nat):=by
 have hj:j<n:=by have:=(List.getElem?_eq_some_iff.mp h).1;simpa [Yl]using this
 refine⟨hj,?_⟩;unfold Yl at h;rw [List.getElem?_map,List.getElem?_range hj]at h;have:=Option.some.inj h;rw [<-this];show D.int (0+(j:Int)*1)=_;rw [show(0+(j:Int)*1)=j by omega]
theorem UO(lo c:Int)(n:Nat):(Yl lo c n).length=n:=by simp [Yl]
theorem Xq{ι:Env->Option (List D)}{γ:D->Env->Option Env}{φ:Env->Option Out}{δ:Env}{xs:List D}{o:Out}(h1:ι δ=some xs)(h2:Yn γ φ xs δ=some o):Yo ι γ φ δ=some o:=by
 unfold Yo;rw [h1];exact h2
theorem Vs{ι:Env->Option (List D)}{γ:D->Env->Option Env}{τ:Env->Option Bool}{ε:Env->Option D}{n:Nat}{js:List Nat}{δ δ0:Env}{xs ys:List D}(h1:ι δ=some xs)(hb:Vc n δ js=δ0)(h2:YJ γ τ ε δ0 xs=some ys)(hl:ys.length<=1000000):Yp ι γ τ ε n js δ=some (.lst ys):=by
 unfold Yp;rw [h1];dsimp only;rw [hb,h2];dsimp only;rw [if_pos (by rw [PySem.sizeLine_eq];omega)]
theorem V0{f:List Nat->List D->Option D}{a:Env->Option D}{α:Env->Option (List D)}{δ:Env}{s:List Nat}{ds:List D}(h1:a δ=some (.str s))(h2:α δ=some ds):eBM f a α δ=f s ds:=by
 unfold eBM;rw [h1,h2]
theorem Yd{f:List D->Option D}{α:Env->Option (List D)}{δ:Env}{ds:List D}(h:α δ=some ds):eCB f α δ=f ds:=by
 unfold eCB;rw [h]
theorem Yt{n:Nat}{f:Env->Option Out}{vs:List D}{δ:Env}{d:D}(h1:(vs.map some++List.replicate (n-vs.length) none)=δ)(h2:f δ=some (.rt d)):DL.run n f vs=some d:=by
 unfold DL.run;rw [h1,h2]
theorem nil_of{δ:Env}:eNil δ=some []:=rfl
end DL
namespace DL
open PySem PySem.Spec L2
end DL
namespace DL
open PySem PySem.Spec L2
theorem add_int(i j:Int):addX (.int i) (.int j)=some (.int (i+j)):=rfl
theorem add_str{a b:List Nat}(h:a.length+b.length<=100000):addX (.str a) (.str b)=some (.str (a++b)):=by
 show(if a.length+b.length<=PySem.sizeLine then some (D.str (a++b))else none)=_;rw [if_pos (by rw [PySem.sizeLine_eq];omega)]
theorem ZcC{a b:List D}(h:a.length+b.length<=100000):addX (.lst a) (.lst b)=some (.lst (a++b)):=by
 show(if a.length+b.length<=PySem.sizeLine then some (D.lst (a++b))else none)=_;rw [if_pos (by rw [PySem.sizeLine_eq];omega)]
theorem Zb4{i j:Int}(h1 : -1000<=j)(h2:j<=1000):mulX (.int i) (.int j)=some (.int (i*j)):=if_pos (.inr (.inr ⟨by omega,by omega⟩))
theorem Z0{xs:List D}{a:Nat}{x:D}(h:xs[a]? = some x):ixD (.lst xs) (.int (a:Int))=some x:=JV h
theorem ix_tup{xs:List D}{a:Nat}{x:D}(h:xs[a]? = some x):ixD (.tup xs) (.int (a:Int))=some x:=JV h
theorem ix_str{cs:List Nat}{a:Nat}{c:Nat}(h:cs[a]? = some c)(hl:cs.length<=100000):ixD (.str cs) (.int (a:Int))=some (.str [c]):=ZhW (by rw [PySem.sizeLine_eq];omega) (JV h)
theorem Zjv{i:Int}(h:0<=i):∃a:Nat,i=(a:Int):=⟨i.toNat,(Int.toNat_of_nonneg h).symm⟩
theorem len_str{cs:List Nat}(h:cs.length<=100000):lenD [.str cs]=some (.int (cs.length:Int)):=if_pos (by rw [PySem.sizeLine_eq];omega)
theorem len_lst{xs:List D}:lenD [.lst xs]=some (.int (xs.length:Int)):=rfl
theorem ZhY{xs:List D}:lenD [.tup xs]=some (.int (xs.length:Int)):=rfl
theorem ZhZ{c:String}{n:Nat}{m:List D->Option D}{α:Env->Option (List D)}{δ:Env}{ds:List D}(h:α δ=some ds)(hn:ds.length+1=n):Uh c n m [] α δ=m (.obj c [] []::ds):=by
 unfold Uh;rw [h];dsimp only;rw [List.append_nil,if_pos (by rw [List.length_cons];exact hn)]
end DL
namespace K50
open PySem PySem.Spec L2 DL
def cs_MARK_SIGNS:List Nat:=[97,98,99,100,101,102,103,104,105,106,107,108,109,110,111,112,113,114,115,116,117,118,119,120,121,122,48,49,50,51,52,53,54,55,56,57]
def cs_FIGURES:List Nat:=[48,49,50,51,52,53,54,55,56,57]
def UP:List String:=["Table"]
def UQ:List String:=["Table"]
def Vt:List String:=["Table"]
def Vu:List String:=["Table"]
def ZgO:List String:=[]
def Vv:List String:=["Table"]
def ZcD:List (String×Bool):=[("NoneType",false),("bool",true),("int",false),("str",false),("list",false),("tuple",false),("Table",false)]
def Zeh:List (String×Bool):=[("NoneType",false),("bool",true),("int",true),("str",false),("list",false),("tuple",false),("Table",false)]
def ie_BadTable:List (String×Bool):=[("BadTable",true)]
def ie_ValueError:List (String×Bool):=[("BadTable",true)]
def ie_BadRow:List (String×Bool):=[("BadTable",false)]
def ie_Unread:List (String×Bool):=[("BadTable",false)]
noncomputable def ZjW:DL.Env->Option Out:=
 (Zg (sIf (xOr (xB (eOp (ZJ λi j=>decide (i<j)) (eCB lenD (Zb (Za 0) eNil)) (eC (.int 1)))) (xB (eOp (ZJ λi j=>decide (j<i)) (eCB lenD (Zb (Za 0) eNil)) (Za 1)))) (Zp (eC .non)) sNext)
 (Zg (sIf (Xd (xB (eCB (UG λbs=>bs.all id) (Zb (Yp (Z4 (Za 0)) (Zx 0) (λ_=>some true) (eOp (inD false) (Za 0) (eC (.str cs_FIGURES))) 1 []) eNil)))) (Zp (eC .non)) sNext)
 (Zg (sIf (YL (xB (eOp (ZJ λi j=>decide (j<i)) (eCB lenD (Zb (Za 0) eNil)) (eC (.int 1)))) (xB (eOp eqD (eOp ixD (Za 0) (eC (.int 0))) (eC (.str [48]))))) (Zp (eC .non)) sNext)
 (Zp (eCB intD (Zb (Za 0) eNil))))))
noncomputable def UR:List D->Option D:=run 2 ZjW
noncomputable def Jd:DL.Env->Option Out:=
 (Zg (Xj 0 Vu "lead" (Za 1))
 (Zg (Xj 0 UQ "first" (Za 2))
 (Zg (Xj 0 UP "ahead" (Za 3))
 (Zg (Xj 0 Vt "homes" (eCB Xy (Zb (Za 4) eNil)))
 (Xj 0 Vv "ways" (eCB Xy (Zb (Yp (Z4 (Za 5)) (Zx 0) (λ_=>some true) (eCB Xy (Zb (Yp (Z4 (Za 0)) (Zx 0) (λ_=>some true) (eCB Xy (Zb (Za 0) eNil)) 1 []) eNil)) 1 []) eNil)))))))
noncomputable def ZjX:List D->Option D:=runI 6 Jd
noncomputable def Zk2:DL.Env->Option Out:=
 (Zp (eCB lenD (Zb (eOp ixD (Yb Vv "ways" (Za 0)) (eC (.int 0))) eNil)))
noncomputable def Zk3:List D->Option D:=run 1 Zk2
noncomputable def Zk4:DL.Env->Option Out:=
 (Zp (eCB lenD (Zb (eOp ixD (eOp ixD (eOp ixD (Yb Vv "ways" (Za 0)) (eC (.int 0))) (eC (.int 0))) (eC (.int 0))) eNil)))
noncomputable def Zk5:List D->Option D:=run 1 Zk4
noncomputable def ZjY:DL.Env->Option Out:=
 (Zp (eOp Xa (ZH (Zb (VW [(eC (.str [112,108,97,99,101,32])),(XD Xm (Za 0))]) eNil)) (Yp (Z4 (Za 1)) (Xz 2 (YH 0 (YH 1 gsNil))) (λ_=>some true) (VW [(eC (.str [119,97,121,32])),(XD Xm (Za 0)),(eC (.str [32])),(XD Xm (Za 1))]) 2 [])))
noncomputable def US:List D->Option D:=Q8 2 ZjY
noncomputable def Zaa:MTab:=[("Table",1,Zk5)]
noncomputable def Zao:MTab:=[("Table",1,Zk3)]
noncomputable def ZjZ:DL.Env->Option Out:=
 (Zg (Zq 1 (ZH (Zb (XX "signs" Zao (Za 0) eNil) (Zb (XX "block_length" Zaa (Za 0) eNil) (Zb (Yb UP "ahead" (Za 0)) (Zb (eCB lenD (Zb (Yb Vt "homes" (Za 0)) eNil)) eNil))))))
 (Zg (Zq 2 (ZH (Zb (eOp addX (eC (.str [116,97,98,108,101,32])) (eBM joinD (eC (.str [32])) (Zb (Yp (Z4 (Za 1)) (Zx 0) (λ_=>some true) (eCB strD (Zb (Za 0) eNil)) 1 []) eNil))) eNil)))
 (Zg (Z3 2 (eIf (xB (eOp eqD (Yb Vu "lead" (Za 0)) (eC (.str [])))) (eC (.str [108,101,97,100])) (eOp addX (eC (.str [108,101,97,100,32])) (Yb Vu "lead" (Za 0)))))
 (Zg (Z3 2 (eOp addX (eC (.str [102,105,114,115,116,32])) (eCB strD (Zb (Yb UQ "first" (Za 0)) eNil))))
 (Zg (Yo (Qt (Yb Vt "homes" (Za 0)) (Yb Vv "ways" (Za 0))) (Xz 2 (YH 3 (YH 4 gsNil))) (UL 2 (Zl 2 US [] (Zb (Za 3) (Zb (Za 4) eNil)))))
 (Zp (eBM joinD (eC (.str [10])) (Zb (Za 2) eNil))))))))
noncomputable def Zj0:List D->Option D:=run 5 ZjZ
noncomputable def Zj1:DL.Env->Option Out:=
 (Zg (Zq 3 (eBM splitD (Za 0) (Zb (eC (.str [32])) eNil)))
 (Zg (sIf (xOr (xB (eOp neD (eOp ixD (Za 3) (eC (.int 0))) (Za 1))) (xB (eOp neD (eCB lenD (Zb (Za 3) eNil)) (eOp addX (Za 2) (eC (.int 1)))))) (Zp (eC .non)) sNext)
 (Zp (eSl (Za 3) (xP (eC (.int 1))) xNoP))))
noncomputable def Vw:List D->Option D:=run 4 Zj1
noncomputable def Zk6:DL.Env->Option Out:=
 (Zp (Y6 (eOp (ZJ λi j=>decide (j<i)) (eCB lenD (Zb (Za 0) eNil)) (eC (.int 0))) (eCB (UG λbs=>bs.all id) (Zb (Yp (Z4 (Za 0)) (Zx 0) (λ_=>some true) (eOp (inD false) (Za 0) (eC (.str cs_MARK_SIGNS))) 1 []) eNil))))
noncomputable def UT:List D->Option D:=run 1 Zk6
noncomputable def Zk7:DL.Env->Option Out:=
 (Zg (Zq 2 (Zl 2 UR [] (Zb (Za 0) (Zb (eC (.int 6)) eNil))))
 (Zp (eIf (YL (xB (Vb (Za 2))) (xB (eOp (ZJ λi j=>decide (i<j)) (Za 2) (Za 1)))) (Za 2) (eC .non))))
noncomputable def Je:List D->Option D:=run 3 Zk7
noncomputable def Zj2:DL.Env->Option Out:=
 (Zg (Zq 1 (Zl 3 Vw [] (Zb (Za 0) (Zb (eC (.str [116,97,98,108,101])) (Zb (eC (.int 4)) eNil)))))
 (Zg (sIf (xB (Yu (Za 1))) (Zp (eC .non)) sNext)
 (Zg (Zq 2 (Yp (Z4 (Za 1)) (Zx 0) (λ_=>some true) (Zl 2 UR [] (Zb (Za 0) (Zb (eC (.int 6)) eNil))) 1 []))
 (Zg (sIf (xOr (xB (eOp (inD false) (eC .non) (Za 2))) (xB (eOp (inD false) (eC (.int 0)) (XQ (Zb (eOp ixD (Za 2) (eC (.int 0))) (Zb (eOp ixD (Za 2) (eC (.int 1))) (Zb (eOp ixD (Za 2) (eC (.int 3))) eNil))))))) (Zp (eC .non)) sNext)
 (Zp (Za 2))))))
noncomputable def Qy:List D->Option D:=run 3 Zj2
noncomputable def Zj3:DL.Env->Option Out:=
 (Zg (sIf (xB (eOp eqD (Za 0) (eC (.str [108,101,97,100])))) (Zp (eC (.str []))) sNext)
 (Zg (Zq 1 (Zl 3 Vw [] (Zb (Za 0) (Zb (eC (.str [108,101,97,100])) (Zb (eC (.int 1)) eNil)))))
 (Zp (eIf (YL (xB (Vb (Za 1))) (xB (Zl 1 UT [] (Zb (eOp ixD (Za 1) (eC (.int 0))) eNil)))) (eOp ixD (Za 1) (eC (.int 0))) (eC .non)))))
noncomputable def Qz:List D->Option D:=run 2 Zj3
noncomputable def Zk8:DL.Env->Option Out:=
 (Zg (Zq 2 (Zl 3 Vw [] (Zb (Za 0) (Zb (eC (.str [102,105,114,115,116])) (Zb (eC (.int 1)) eNil)))))
 (Zp (eIf (xB (Yu (Za 2))) (eC .non) (Zl 2 Je [] (Zb (eOp ixD (Za 2) (eC (.int 0))) (Zb (Za 1) eNil))))))
noncomputable def QA:List D->Option D:=run 3 Zk8
noncomputable def Zk9:DL.Env->Option Out:=
 (Zg (Zq 1 (Zl 3 Vw [] (Zb (Za 0) (Zb (eC (.str [112,108,97,99,101])) (Zb (eC (.int 1)) eNil)))))
 (Zp (eIf (xB (Yu (Za 1))) (eC .non) (Zl 2 UR [] (Zb (eOp ixD (Za 1) (eC (.int 0))) (Zb (eC (.int 6)) eNil))))))
noncomputable def Ur:List D->Option D:=run 2 Zk9
noncomputable def Zj4:DL.Env->Option Out:=
 (Zg (Zq 3 (Zl 3 Vw [] (Zb (Za 0) (Zb (eC (.str [119,97,121])) (Zb (eC (.int 2)) eNil)))))
 (Zg (sIf (xOr (xB (Yu (Za 3))) (xOr (xB (eOp neD (eCB lenD (Zb (eOp ixD (Za 3) (eC (.int 0))) eNil)) (Za 1))) (Xd (xB (Zl 1 UT [] (Zb (eOp ixD (Za 3) (eC (.int 0))) eNil)))))) (Zp (eC .non)) sNext)
 (Zg (Zq 4 (Zl 2 Je [] (Zb (eOp ixD (Za 3) (eC (.int 1))) (Zb (Za 2) eNil))))
 (Zp (eIf (xB (Yu (Za 4))) (eC .non) (XQ (Zb (eOp ixD (Za 3) (eC (.int 0))) (Zb (Za 4) eNil))))))))
noncomputable def UU:List D->Option D:=run 5 Zj4
noncomputable def Zla:DL.Env->Option Out:=
 (Zp (eIf (xB (eOp (ZJ λi j=>decide (i<=j)) (Za 1) (eCB lenD (Zb (Za 0) eNil)))) (eOp ixD (Za 0) (eOp subD (Za 1) (eC (.int 1)))) (eC (.str []))))
noncomputable def YM:List D->Option D:=run 2 Zla
noncomputable def Zlb:DL.Env->Option Out:=
 (Zg (sIf (xB (Yu (Za 1))) sNever sNext)
 (Zp (Za 1)))
noncomputable def Zlc:DL.Env->Option XC:=
 (ZX (xIf (xB (Yu (Za 1))) (Uk "BadTable" (Zb (Za 0) eNil)) xNever) (sIf (xB (Yu (Za 1))) sNever sNext)
 xNever)
noncomputable def Y8:List D->Option XC:=ZjU 2 Zlc
noncomputable def YK:List D->Option D:=run 2 Zlb
noncomputable def Zj5:DL.Env->Option Out:=
 (Zg (Zq 3 (ZH eNil))
 (Zg (Yo (Z5 (Zb (Za 1) (Zb (eOp addX (Za 1) (eOp ixD (Za 2) (eC (.int 0)))) eNil))) (Zx 4) (Z3 3 (Zl 2 YK [] (Zb (Za 4) (Zb (Zl 3 UU [] (Zb (Zl 2 YM [] (Zb (Za 0) (Zb (Za 4) eNil))) (Zb (eOp ixD (Za 2) (eC (.int 1))) (Zb (eOp ixD (Za 2) (eC (.int 3))) eNil)))) eNil)))))
 (Zp (Za 3))))
noncomputable def Jf:DL.Env->Option XC:=
 (ZX xNever (Zq 3 (ZH eNil))
 (ZX (Um (Z5 (Zb (Za 1) (Zb (eOp addX (Za 1) (eOp ixD (Za 2) (eC (.int 0)))) eNil))) (Zx 4) (Z3 3 (Zl 2 YK [] (Zb (Za 4) (Zb (Zl 3 UU [] (Zb (Zl 2 YM [] (Zb (Za 0) (Zb (Za 4) eNil))) (Zb (eOp ixD (Za 2) (eC (.int 1))) (Zb (eOp ixD (Za 2) (eC (.int 3))) eNil)))) eNil)))) (XF 3 (YB 2 Y8 [] (Zb (Za 4) (Zb (Zl 3 UU [] (Zb (Zl 2 YM [] (Zb (Za 0) (Zb (Za 4) eNil))) (Zb (eOp ixD (Za 2) (eC (.int 1))) (Zb (eOp ixD (Za 2) (eC (.int 3))) eNil)))) eNil))))) (Yo (Z5 (Zb (Za 1) (Zb (eOp addX (Za 1) (eOp ixD (Za 2) (eC (.int 0)))) eNil))) (Zx 4) (Z3 3 (Zl 2 YK [] (Zb (Za 4) (Zb (Zl 3 UU [] (Zb (Zl 2 YM [] (Zb (Za 0) (Zb (Za 4) eNil))) (Zb (eOp ixD (Za 2) (eC (.int 1))) (Zb (eOp ixD (Za 2) (eC (.int 3))) eNil)))) eNil)))))
 xNever))
noncomputable def Vf:List D->Option XC:=ZjU 5 Jf
noncomputable def Us:List D->Option D:=run 5 Zj5
noncomputable def Jg:DL.Env->Option Out:=
 (Zg (Zq 1 (eBM splitD (Za 0) (Zb (eC (.str [10])) eNil)))
 (Zg (Zq 2 (Zl 2 YK [] (Zb (eC (.int 1)) (Zb (Zl 1 Qy [] (Zb (eOp ixD (Za 1) (eC (.int 0))) eNil)) eNil))))
 (Zg (Zq 3 (Zl 2 YK [] (Zb (eC (.int 2)) (Zb (Zl 1 Qz [] (Zb (Zl 2 YM [] (Zb (Za 1) (Zb (eC (.int 2)) eNil))) eNil)) eNil))))
 (Zg (Zq 4 (Zl 2 YK [] (Zb (eC (.int 3)) (Zb (Zl 2 QA [] (Zb (Zl 2 YM [] (Zb (Za 1) (Zb (eC (.int 3)) eNil))) (Zb (eOp ixD (Za 2) (eC (.int 3))) eNil))) eNil))))
 (Zg (Zq 5 (ZH eNil))
 (Zg (Zq 6 (ZH eNil))
 (Zg (Zq 7 (eC (.int 4)))
 (Zg (Yo (Z5 (Zb (eOp ixD (Za 2) (eC (.int 3))) eNil)) (Zx 8) (Zg (Z3 5 (Zl 2 YK [] (Zb (Za 7) (Zb (Zl 1 Ur [] (Zb (Zl 2 YM [] (Zb (Za 1) (Zb (Za 7) eNil))) eNil)) eNil))))
 (Zg (Z3 6 (Zl 3 Us [] (Zb (Za 1) (Zb (eOp addX (Za 7) (eC (.int 1))) (Zb (Za 2) eNil)))))
 (Zq 7 (eOp addX (eOp addX (Za 7) (eC (.int 1))) (eOp ixD (Za 2) (eC (.int 0))))))))
 (Zg (sIf (xB (eOp (ZJ λi j=>decide (j<=i)) (eCB lenD (Zb (Za 1) eNil)) (Za 7))) sNever sNext)
 (Zp (Uh "Table" 6 ZjX [] (Zb (Za 3) (Zb (Za 4) (Zb (eOp ixD (Za 2) (eC (.int 2))) (Zb (Za 5) (Zb (Za 6) eNil))))))))))))))))
noncomputable def Jh:DL.Env->Option XC:=
 (ZX xNever (Zq 1 (eBM splitD (Za 0) (Zb (eC (.str [10])) eNil)))
 (ZX (YB 2 Y8 [] (Zb (eC (.int 1)) (Zb (Zl 1 Qy [] (Zb (eOp ixD (Za 1) (eC (.int 0))) eNil)) eNil))) (Zq 2 (Zl 2 YK [] (Zb (eC (.int 1)) (Zb (Zl 1 Qy [] (Zb (eOp ixD (Za 1) (eC (.int 0))) eNil)) eNil))))
 (ZX (YB 2 Y8 [] (Zb (eC (.int 2)) (Zb (Zl 1 Qz [] (Zb (Zl 2 YM [] (Zb (Za 1) (Zb (eC (.int 2)) eNil))) eNil)) eNil))) (Zq 3 (Zl 2 YK [] (Zb (eC (.int 2)) (Zb (Zl 1 Qz [] (Zb (Zl 2 YM [] (Zb (Za 1) (Zb (eC (.int 2)) eNil))) eNil)) eNil))))
 (ZX (YB 2 Y8 [] (Zb (eC (.int 3)) (Zb (Zl 2 QA [] (Zb (Zl 2 YM [] (Zb (Za 1) (Zb (eC (.int 3)) eNil))) (Zb (eOp ixD (Za 2) (eC (.int 3))) eNil))) eNil))) (Zq 4 (Zl 2 YK [] (Zb (eC (.int 3)) (Zb (Zl 2 QA [] (Zb (Zl 2 YM [] (Zb (Za 1) (Zb (eC (.int 3)) eNil))) (Zb (eOp ixD (Za 2) (eC (.int 3))) eNil))) eNil))))
 (ZX xNever (Zq 5 (ZH eNil))
 (ZX xNever (Zq 6 (ZH eNil))
 (ZX xNever (Zq 7 (eC (.int 4)))
 (ZX (Um (Z5 (Zb (eOp ixD (Za 2) (eC (.int 3))) eNil)) (Zx 8) (Zg (Z3 5 (Zl 2 YK [] (Zb (Za 7) (Zb (Zl 1 Ur [] (Zb (Zl 2 YM [] (Zb (Za 1) (Zb (Za 7) eNil))) eNil)) eNil))))
 (Zg (Z3 6 (Zl 3 Us [] (Zb (Za 1) (Zb (eOp addX (Za 7) (eC (.int 1))) (Zb (Za 2) eNil)))))
 (Zq 7 (eOp addX (eOp addX (Za 7) (eC (.int 1))) (eOp ixD (Za 2) (eC (.int 0))))))) (ZX (XF 5 (YB 2 Y8 [] (Zb (Za 7) (Zb (Zl 1 Ur [] (Zb (Zl 2 YM [] (Zb (Za 1) (Zb (Za 7) eNil))) eNil)) eNil)))) (Z3 5 (Zl 2 YK [] (Zb (Za 7) (Zb (Zl 1 Ur [] (Zb (Zl 2 YM [] (Zb (Za 1) (Zb (Za 7) eNil))) eNil)) eNil))))
 (ZX (XF 6 (YB 3 Vf [] (Zb (Za 1) (Zb (eOp addX (Za 7) (eC (.int 1))) (Zb (Za 2) eNil))))) (Z3 6 (Zl 3 Us [] (Zb (Za 1) (Zb (eOp addX (Za 7) (eC (.int 1))) (Zb (Za 2) eNil)))))
 xNever))) (Yo (Z5 (Zb (eOp ixD (Za 2) (eC (.int 3))) eNil)) (Zx 8) (Zg (Z3 5 (Zl 2 YK [] (Zb (Za 7) (Zb (Zl 1 Ur [] (Zb (Zl 2 YM [] (Zb (Za 1) (Zb (Za 7) eNil))) eNil)) eNil))))
 (Zg (Z3 6 (Zl 3 Us [] (Zb (Za 1) (Zb (eOp addX (Za 7) (eC (.int 1))) (Zb (Za 2) eNil)))))
 (Zq 7 (eOp addX (eOp addX (Za 7) (eC (.int 1))) (eOp ixD (Za 2) (eC (.int 0))))))))
 (ZX (xIf (xB (eOp (ZJ λi j=>decide (j<=i)) (eCB lenD (Zb (Za 1) eNil)) (Za 7))) (Uk "BadTable" (Zb (Za 7) eNil)) xNever) (sIf (xB (eOp (ZJ λi j=>decide (j<=i)) (eCB lenD (Zb (Za 1) eNil)) (Za 7))) sNever sNext)
 xNever)))))))))
noncomputable def Vg:List D->Option XC:=ZjU 9 Jh
noncomputable def V1:List D->Option D:=run 9 Jg
noncomputable def Ji:DL.Env->Option Out:=
 (Zg (sIf (xB (eOp (ZJ λi j=>decide (i<j)) (Za 1) (eCB lenD (Zb (Za 0) eNil)))) (Zp (eOp ixD (Za 0) (Za 1))) sNext)
 (Zp (eC (.int 0))))
noncomputable def YZ:List D->Option D:=run 2 Ji
noncomputable def Zld:DL.Env->Option Out:=
 (Zp (Y6 (Qh Zeh (Za 0)) (QY (Qh ZcD (Za 0)))))
noncomputable def Zj6:List D->Option D:=run 1 Zld
noncomputable def Zj7:DL.Env->Option Out:=
 (Zg (Zq 5 (ZH (Zb (eCB lenD (Zb (eOp ixD (Za 4) (eC (.int 0))) eNil)) (Zb (eCB lenD (Zb (eOp ixD (eOp ixD (eOp ixD (Za 4) (eC (.int 0))) (eC (.int 0))) (eC (.int 0))) eNil)) (Zb (Za 2) (Zb (eCB lenD (Zb (Za 3) eNil)) eNil))))))
 (Zg (Zq 6 (ZH (Zb (eOp addX (eC (.str [116,97,98,108,101,32])) (eBM joinD (eC (.str [32])) (Zb (Yp (Z4 (Za 5)) (Zx 0) (λ_=>some true) (eCB strD (Zb (Za 0) eNil)) 1 []) eNil))) eNil)))
 (Zg (Z3 6 (eBM stripD (eOp addX (eC (.str [108,101,97,100,32])) (Za 0)) eNil))
 (Zg (Z3 6 (eOp addX (eC (.str [102,105,114,115,116,32])) (eCB strD (Zb (Za 1) eNil))))
 (Zg (Yo (Z5 (Zb (eCB lenD (Zb (Za 3) eNil)) eNil)) (Zx 7) (Zg (Z3 6 (eOp addX (eC (.str [112,108,97,99,101,32])) (eCB strD (Zb (eOp ixD (Za 3) (Za 7)) eNil))))
 (Yo (Z4 (eOp ixD (Za 4) (Za 7))) (Xz 2 (YH 8 (YH 9 gsNil))) (Z3 6 (eOp addX (eOp addX (eOp addX (eC (.str [119,97,121,32])) (Za 8)) (eC (.str [32]))) (eCB strD (Zb (Za 9) eNil)))))))
 (Zp (eBM joinD (eC (.str [10])) (Zb (Za 6) eNil))))))))
noncomputable def Zj8:List D->Option D:=run 10 Zj7
noncomputable def Zj9:DL.Env->Option Out:=
 (Zg (Zq 1 (eOp addX (eC (.int 1)) (eOp modW (Zl 2 YZ [] (Zb (Za 0) (Zb (eC (.int 0)) eNil))) (eC (.int 3)))))
 (Zg (Zq 2 (eOp addX (eC (.int 1)) (eOp modW (Zl 2 YZ [] (Zb (Za 0) (Zb (eC (.int 1)) eNil))) (eC (.int 3)))))
 (Zg (Zq 3 (eOp addX (eC (.int 1)) (eOp modW (Zl 2 YZ [] (Zb (Za 0) (Zb (eC (.int 2)) eNil))) (eC (.int 3)))))
 (Zg (Zq 4 (ZH eNil))
 (Zg (Yo (Z5 (Zb (Za 1) eNil)) (Zx 5) (Zg (Zq 6 (ZH eNil))
 (Zg (Yo (Z5 (Zb (Za 2) eNil)) (Zx 7) (Zg (Zq 8 (Zl 2 YZ [] (Zb (Za 0) (Zb (eOp addX (eOp addX (eC (.int 12)) (eOp mulX (Za 5) (Za 2))) (Za 7)) eNil))))
 (Z3 6 (XQ (Zb (eBM joinD (eC (.str [])) (Zb (Yp (Z5 (Zb (Za 3) eNil)) (Zx 0) (λ_=>some true) (eOp ixD (eC (.str [97,98,55])) (eOp modW (eOp fdivW (Za 1) (eOp ixD (ZH (Zb (eC (.int 3)) (Zb (eC (.int 9)) (Zb (eC (.int 27)) eNil)))) (Za 0))) (eC (.int 3)))) 1 [8]) eNil)) (Zb (eOp modW (eOp fdivW (Za 8) (eC (.int 81))) (Za 1)) eNil))))))
 (Z3 4 (Za 6)))))
 (Zg (Zq 9 (Yp (Z5 (Zb (Za 1) eNil)) (Zx 0) (λ_=>some true) (eOp modW (Zl 2 YZ [] (Zb (Za 1) (Zb (eOp addX (eC (.int 9)) (Za 0)) eNil))) (eC (.int 100))) 1 [0]))
 (Zg (Zq 10 (eSl (eC (.str [97,98,55])) xNoP (xP (eOp modW (Zl 2 YZ [] (Zb (Za 0) (Zb (eC (.int 3)) eNil))) (eC (.int 4))))))
 (Zp (eBM splitD (Zl 5 Zj8 [] (Zb (Za 10) (Zb (eOp modW (Zl 2 YZ [] (Zb (Za 0) (Zb (eC (.int 4)) eNil))) (Za 1)) (Zb (eOp modW (Zl 2 YZ [] (Zb (Za 0) (Zb (eC (.int 5)) eNil))) (eC (.int 20))) (Zb (Za 9) (Zb (Za 4) eNil)))))) (Zb (eC (.str [10])) eNil))))))))))
noncomputable def Zka:List D->Option D:=run 11 Zj9
noncomputable def Zkb:DL.Env->Option Out:=
 (Zg (Zq 1 (ZH (Zb (eC (.str [])) (Zb (eC (.str [116,97,98,108,101,32,49,32,49,32,48,32,49])) (Zb (eC (.str [116,97,98,108,101,32,50,32,49,32,48,32,50])) (Zb (eC (.str [116,97,98,108,101,32,48,32,49,32,48,32,49])) (Zb (eC (.str [116,97,98,108,101,32,49,32,49,32,48])) (Zb (eC (.str [108,101,97,100])) (Zb (eC (.str [108,101,97,100,32])) (Zb (eC (.str [108,101,97,100,32,97,32,98])) (Zb (eC (.str [108,101,97,100,32,65])) eNil)))))))))))
 (Zg (Zq 1 (eOp Xa (Za 1) (ZH (Zb (eC (.str [102,105,114,115,116,32,48])) (Zb (eC (.str [102,105,114,115,116,32,50])) (Zb (eC (.str [102,105,114,115,116,32,48,48])) (Zb (eC (.str [102,105,114,115,116])) (Zb (eC (.str [102,105,114,115,116,32,45,49])) (Zb (eC (.str [112,108,97,99,101,32,48])) (Zb (eC (.str [112,108,97,99,101,32,49,48,48,48,48,48,48])) (Zb (eC (.str [112,108,97,99,101,32,57,57,57,57,57,57])) eNil)))))))))))
 (Zg (Zq 1 (eOp Xa (Za 1) (ZH (Zb (eC (.str [112,108,97,99,101])) (Zb (eC (.str [112,108,97,99,101,32,49,32,49])) (Zb (eC (.str [119,97,121,32,97,32,48])) (Zb (eC (.str [119,97,121,32,97,98,32,48])) (Zb (eC (.str [119,97,121,32,97,98,99,32,48])) (Zb (eC (.str [119,97,121,32,97,32,51])) (Zb (eC (.str [119,97,121,32,55,32,43,48])) (Zb (eC (.str [119,97,121,32,32,97,32,48])) (Zb (eC (.str [119,97,121,32,97])) eNil))))))))))))
 (Zg (Zq 1 (eOp Xa (Za 1) (ZH (Zb (eC (.str [32,119,97,121,32,97,32,48])) (Zb (eC (.str [87,97,121,32,97,32,48])) (Zb (eC (.str [119,97,121,32,65,32,48])) (Zb (eC (.str [119,97,121,32,45,32,48])) (Zb (eC (.str [119,97,121,32,97,95,32,48])) (Zb (eC (.str [119,97,121,32,32,48])) (Zb (eC (.str [108,101,97,100,32,97,45])) eNil))))))))))
 (Zp (eOp ixD (Za 1) (eOp modW (Za 0) (eCB lenD (Zb (Za 1) eNil)))))))))
noncomputable def QB:List D->Option D:=run 2 Zkb
noncomputable def Zkc:DL.Env->Option Out:=
 (Zg (Zq 2 (eOp modW (eOp fdivW (Za 1) (eC (.int 7))) (eCB lenD (Zb (Za 0) eNil))))
 (Zg (Zq 3 (eOp modW (Za 1) (eC (.int 7))))
 (Zg (sIf (xB (eOp eqD (Za 3) (eC (.int 1)))) (Zp (eOp addX (eOp addX (eSl (Za 0) xNoP (xP (Za 2))) (eSl (Za 0) (xP (eOp addX (Za 2) (eC (.int 1)))) xNoP)) (eSl (ZH (Zb (eC (.str [])) eNil)) xNoP (xP (eCB intD (Zb (eOp eqD (eCB lenD (Zb (Za 0) eNil)) (eC (.int 1))) eNil)))))) sNext)
 (Zg (sIf (xB (eOp eqD (Za 3) (eC (.int 2)))) (Zp (eOp addX (eOp Xa (eSl (Za 0) xNoP (xP (Za 2))) (ZH (Zb (eOp ixD (Za 0) (Za 2)) eNil))) (eSl (Za 0) (xP (Za 2)) xNoP))) sNext)
 (Zg (sIf (xB (eOp eqD (Za 3) (eC (.int 3)))) (Zp (eOp addX (eOp Xa (eSl (Za 0) xNoP (xP (Za 2))) (ZH (Zb (Zl 1 QB [] (Zb (eOp fdivW (Za 1) (eC (.int 700))) eNil)) eNil))) (eSl (Za 0) (xP (eOp addX (Za 2) (eC (.int 1)))) xNoP))) sNext)
 (Zg (sIf (xB (eOp eqD (Za 3) (eC (.int 4)))) (Zp (eOp addX (eOp Xa (eSl (Za 0) xNoP (xP (Za 2))) (ZH (Zb (Zl 1 QB [] (Zb (eOp fdivW (Za 1) (eC (.int 700))) eNil)) eNil))) (eSl (Za 0) (xP (Za 2)) xNoP))) sNext)
 (Zg (sIf (xB (eOp eqD (Za 3) (eC (.int 5)))) (Zp (eOp Xa (Za 0) (ZH (Zb (Zl 1 QB [] (Zb (eOp fdivW (Za 1) (eC (.int 700))) eNil)) eNil)))) sNext)
 (Zp (Za 0)))))))))
noncomputable def Jj:List D->Option D:=run 4 Zkc
noncomputable def Zkd:DL.Env->Option Out:=
 (Zg (sIf (xOr (xB (eOp (ZJ λi j=>decide (i<j)) (eCB lenD (Zb (Za 0) eNil)) (eC (.int 1)))) (xOr (xB (eOp (ZJ λi j=>decide (j<i)) (eCB lenD (Zb (Za 0) eNil)) (eC (.int 6)))) (YL (xB (eOp eqD (eOp ixD (Za 0) (eC (.int 0))) (eC (.str [48])))) (xB (eOp (ZJ λi j=>decide (j<i)) (eCB lenD (Zb (Za 0) eNil)) (eC (.int 1))))))) (Zp (eUn Vn (eC (.int 1)))) sNext)
 (Zg (Yo (Z4 (Za 0)) (Zx 1) (sIf (xB (eOp (inD true) (Za 1) (eC (.str [48,49,50,51,52,53,54,55,56,57])))) (Zp (eUn Vn (eC (.int 1)))) sNext))
 (Zp (eCB intD (Zb (Za 0) eNil)))))
noncomputable def V2:List D->Option D:=run 2 Zkd
noncomputable def Zke:DL.Env->Option Out:=
 (Zg (Zq 1 (eC (.str [97,98,99,100,101,102,103,104,105,106,107,108,109,110,111,112,113,114,115,116,117,118,119,120,121,122,48,49,50,51,52,53,54,55,56,57])))
 (Zp (Y6 (eOp neD (Za 0) (eC (.str []))) (eOp eqD (eCB lenD (Zb (Yp (Z4 (Za 0)) (Zx 0) (xB (eOp (inD true) (Za 0) (Za 1))) (Za 0) 1 [1]) eNil)) (eC (.int 0))))))
noncomputable def UV:List D->Option D:=run 2 Zke
noncomputable def Zkf:DL.Env->Option Out:=
 (Zg (Zq 1 (eBM splitD (Za 0) (Zb (eC (.str [32])) eNil)))
 (Zg (sIf (xOr (xB (eOp neD (eCB lenD (Zb (Za 1) eNil)) (eC (.int 5)))) (xB (eOp neD (eOp ixD (Za 1) (eC (.int 0))) (eC (.str [116,97,98,108,101]))))) (Zp (eC .non)) sNext)
 (Zg (Zq 2 (Yp (Z4 (eSl (Za 1) (xP (eC (.int 1))) xNoP)) (Zx 0) (λ_=>some true) (Zl 1 V2 [] (Zb (Za 0) eNil)) 1 []))
 (Zg (sIf (xOr (xB (eOp (ZJ λi j=>decide (i<j)) (eCB minQD (Zb (Za 2) eNil)) (eC (.int 0)))) (xOr (xB (eOp eqD (eOp ixD (Za 2) (eC (.int 0))) (eC (.int 0)))) (xOr (xB (eOp eqD (eOp ixD (Za 2) (eC (.int 1))) (eC (.int 0)))) (xB (eOp eqD (eOp ixD (Za 2) (eC (.int 3))) (eC (.int 0))))))) (Zp (eC .non)) sNext)
 (Zp (Za 2))))))
noncomputable def Zkg:List D->Option D:=run 3 Zkf
noncomputable def Zkh:DL.Env->Option Out:=
 (Zg (Zq 3 (eBM splitD (Za 0) (Zb (eC (.str [32])) eNil)))
 (Zg (sIf (YL (xB (eOp eqD (Za 1) (eC (.int 1)))) (xB (eOp eqD (Za 0) (eC (.str [108,101,97,100]))))) (Zp (eC (.bl true))) sNext)
 (Zg (sIf (xB (eOp eqD (Za 1) (eC (.int 1)))) (Zp (Y6 (eOp eqD (eCB lenD (Zb (Za 3) eNil)) (eC (.int 2))) (Y6 (eOp eqD (eOp ixD (Za 3) (eC (.int 0))) (eC (.str [108,101,97,100]))) (Zl 1 UV [] (Zb (eOp ixD (Za 3) (eC (.int 1))) eNil))))) sNext)
 (Zg (sIf (xB (eOp eqD (Za 1) (eC (.int 2)))) (Zg (sIf (xOr (xB (eOp neD (eCB lenD (Zb (Za 3) eNil)) (eC (.int 2)))) (xB (eOp neD (eOp ixD (Za 3) (eC (.int 0))) (eC (.str [102,105,114,115,116]))))) (Zp (eC (.bl false))) sNext)
 (Zp (Uc (ZJ λi j=>decide (i<=j)) (ZJ λi j=>decide (i<j)) (eC (.int 0)) (Zl 1 V2 [] (Zb (eOp ixD (Za 3) (eC (.int 1))) eNil)) (eOp ixD (Za 2) (eC (.int 3)))))) sNext)
 (Zg (sIf (xB (eOp eqD (eOp modW (eOp subD (Za 1) (eC (.int 3))) (eOp addX (eOp ixD (Za 2) (eC (.int 0))) (eC (.int 1)))) (eC (.int 0)))) (Zp (Y6 (eOp eqD (eCB lenD (Zb (Za 3) eNil)) (eC (.int 2))) (Y6 (eOp eqD (eOp ixD (Za 3) (eC (.int 0))) (eC (.str [112,108,97,99,101]))) (eOp (ZJ λi j=>decide (j<=i)) (Zl 1 V2 [] (Zb (eOp ixD (Za 3) (eC (.int 1))) eNil)) (eC (.int 0)))))) sNext)
 (Zg (sIf (xOr (xB (eOp neD (eCB lenD (Zb (Za 3) eNil)) (eC (.int 3)))) (xB (eOp neD (eOp ixD (Za 3) (eC (.int 0))) (eC (.str [119,97,121]))))) (Zp (eC (.bl false))) sNext)
 (Zg (sIf (xOr (Xd (xB (Zl 1 UV [] (Zb (eOp ixD (Za 3) (eC (.int 1))) eNil)))) (xB (eOp neD (eCB lenD (Zb (eOp ixD (Za 3) (eC (.int 1))) eNil)) (eOp ixD (Za 2) (eC (.int 1)))))) (Zp (eC (.bl false))) sNext)
 (Zp (Uc (ZJ λi j=>decide (i<=j)) (ZJ λi j=>decide (i<j)) (eC (.int 0)) (Zl 1 V2 [] (Zb (eOp ixD (Za 3) (eC (.int 2))) eNil)) (eOp ixD (Za 2) (eC (.int 3))))))))))))
noncomputable def Zki:List D->Option D:=run 4 Zkh
noncomputable def Zkj:DL.Env->Option Out:=
 (Zg (Zq 1 (Zl 1 Zkg [] (Zb (eOp ixD (Za 0) (eC (.int 0))) eNil)))
 (Zg (sIf (xB (Yu (Za 1))) (Zp (eC (.int 1))) sNext)
 (Zg (Zq 2 (eOp addX (eC (.int 3)) (eOp mulX (eOp ixD (Za 1) (eC (.int 3))) (eOp addX (eOp ixD (Za 1) (eC (.int 0))) (eC (.int 1))))))
 (Zg (Yo (Z5 (Zb (eC (.int 1)) (Zb (eCB lenD (Zb (Za 0) eNil)) eNil))) (Zx 3) (sIf (xOr (xB (eOp (ZJ λi j=>decide (j<=i)) (Za 3) (Za 2))) (Xd (xB (Zl 3 Zki [] (Zb (eOp ixD (Za 0) (Za 3)) (Zb (Za 3) (Zb (Za 1) eNil))))))) (Zp (eOp addX (Za 3) (eC (.int 1)))) sNext))
 (Zg (sIf (xB (eOp (ZJ λi j=>decide (i<j)) (eCB lenD (Zb (Za 0) eNil)) (Za 2))) (Zp (eOp addX (eCB lenD (Zb (Za 0) eNil)) (eC (.int 1)))) sNext)
 (Zp (eC (.int 0))))))))
noncomputable def UW:List D->Option D:=run 4 Zkj
noncomputable def Zle:DL.Env->Option Out:=
 (Zg (Zq 1 (eC (.int 0)))
 (Zg (Qs (UH (Zl 1 V1 [] (Zb (Za 0) eNil))) (YB 1 Vg [] (Zb (Za 0) eNil)) "BadTable" 2 1)
 (Zp (Za 1))))
noncomputable def Zkk:List D->Option D:=run 3 Zle
noncomputable def Zkl:DL.Env->Option Out:=
 (Zg (Zq 1 (Zl 1 Zka [] (Zb (Za 0) eNil)))
 (Zg (Yo (Z5 (Zb (eC (.int 6)) (Zb (eC (.int 9)) eNil))) (Zx 2) (Zq 1 (Zl 2 Jj [] (Zb (Za 1) (Zb (Zl 2 YZ [] (Zb (Za 0) (Zb (Za 2) eNil))) eNil)))))
 (Zg (Zq 3 (eBM joinD (eC (.str [10])) (Zb (Za 1) eNil)))
 (Zg (Zq 4 (Zl 1 UW [] (Zb (Za 1) eNil)))
 (Zg (sIf (xB (eOp eqD (Za 4) (eC (.int 0)))) (Zp (eOp eqD (Zl 1 Zj0 [] (Zb (Zl 1 V1 [] (Zb (Za 3) eNil)) eNil)) (Za 3))) sNext)
 (Zg (Zq 5 (Zl 1 Zkk [] (Zb (Za 3) eNil)))
 (Zp (Y6 (Zl 1 Zj6 [] (Zb (Za 5) eNil)) (eOp eqD (Za 5) (Za 4))))))))))
noncomputable def Zkm:List D->Option D:=run 6 Zkl
end K50
namespace K50
open PySem PySem.Spec L2 DL
def top(i:Nat):Stmt:=PySem.Challenge.pw_grooveway_k50_tables_refused.main.body.getD i (.Pass ⟨0,0,0,0⟩)
abbrev Zkn:Stmt:=JW (top 4) 0
abbrev Jk:Stmt:=top 8
abbrev Jl:Stmt:=JW (top 10) 0
abbrev Zko:Stmt:=JW (top 10) 1
abbrev Zkp:Stmt:=JW (top 10) 2
abbrev Jm:Stmt:=top 12
abbrev Jn:Stmt:=top 13
abbrev Zkq:Stmt:=top 14
abbrev Jo:Stmt:=top 15
abbrev Zkr:Stmt:=top 16
abbrev Jp:Stmt:=top 17
abbrev Zks:Stmt:=top 18
abbrev Zkt:Stmt:=top 19
abbrev Zku:Stmt:=top 20
abbrev Zkv:Stmt:=top 21
abbrev Zkw:Stmt:=top 22
abbrev Zkx:Stmt:=top 23
abbrev Zky:Stmt:=top 24
abbrev Zkz:Stmt:=top 25
abbrev ZkA:Stmt:=top 27
abbrev ZkB:Stmt:=top 28
abbrev Jq:Stmt:=top 29
abbrev QC:Stmt:=top 30
abbrev ZkC:Stmt:=top 31
abbrev ZkD:Stmt:=top 32
abbrev ZkE:Stmt:=top 33
abbrev Jr:Stmt:=top 34
abbrev Js:Stmt:=top 35
abbrev ZkF:Stmt:=top 36
abbrev ZkG:Stmt:=top 37
abbrev ZkH:Stmt:=top 38
abbrev ZkI:Stmt:=top 39
theorem Zlw:FnScope ["self", "row"] ["self", "row"] (defScope Zkn):=fsm
theorem Zlx:FnScope ["word", "figures"] ["word", "figures"] (defScope Jk):=fsm
theorem Zly:FnScope ["self", "lead", "first", "ahead", "homes", "ways"] ["self", "lead", "first", "ahead", "homes", "ways"] (defScope Jl):=fsm
theorem Zlz:FnScope ["self"] ["self"] (defScope Zko):=fsm
theorem ZlA:FnScope ["self"] ["self"] (defScope Zkp):=fsm
theorem ZlB:FnScope ["home", "ways"] ["home", "ways"] (defScope Jm):=fsm
theorem ZlC:FnScope ["table", "numbers", "rows", "home", "ways"] ["table"] (defScope Jn):=fsm
theorem ZlD:FnScope ["row", "name", "many", "words"] ["row", "name", "many"] (defScope Zkq):=fsm
theorem ZlE:FnScope ["word"] ["word"] (defScope Jo):=fsm
theorem ZlF:FnScope ["word", "places", "number"] ["word", "places"] (defScope Zkr):=fsm
theorem ZlG:FnScope ["row", "words", "numbers"] ["row"] (defScope Jp):=fsm
theorem ZlH:FnScope ["row", "words"] ["row"] (defScope Zks):=fsm
theorem ZlI:FnScope ["row", "places", "words"] ["row", "places"] (defScope Zkt):=fsm
theorem ZlJ:FnScope ["row", "words"] ["row"] (defScope Zku):=fsm
theorem ZlK:FnScope ["row", "length", "places", "words", "place"] ["row", "length", "places"] (defScope Zkv):=fsm
theorem ZlL:FnScope ["rows", "number"] ["rows", "number"] (defScope Zkw):=fsm
theorem ZlM:FnScope ["number", "said"] ["number", "said"] (defScope Zkx):=fsm
theorem ZlN:FnScope ["rows", "number", "head", "ways", "place"] ["rows", "number", "head"] (defScope Zky):=fsm
theorem ZlO:FnScope ["text", "rows", "head", "lead", "first", "homes", "ways", "number", "place"] ["text"] (defScope Zkz):=fsm
theorem ZlP:FnScope ["script", "k"] ["script", "k"] (defScope ZkA):=fsm
theorem ZlQ:FnScope ["found"] ["found"] (defScope ZkB):=fsm
theorem ZlR:FnScope ["lead", "first", "ahead", "homes", "ways", "head", "rows", "place", "block", "there"] ["lead", "first", "ahead", "homes", "ways"] (defScope Jq):=fsm
theorem ZlS:FnScope ["script", "many", "n", "q", "ways", "place", "row", "sign", "cell", "homes", "lead"] ["script"] (defScope QC):=fsm
theorem ZlT:FnScope ["cell", "odd"] ["cell"] (defScope ZkC):=fsm
theorem ZlU:FnScope ["rows", "cell", "at", "way"] ["rows", "cell"] (defScope ZkD):=fsm
theorem ZlV:FnScope ["word", "sign"] ["word"] (defScope ZkE):=fsm
theorem ZlW:FnScope ["word", "some"] ["word"] (defScope Jr):=fsm
theorem ZlX:FnScope ["row", "words", "found"] ["row"] (defScope Js):=fsm
theorem ZlY:FnScope ["row", "k", "head", "words"] ["row", "k", "head"] (defScope ZkF):=fsm
theorem ZlZ:FnScope ["rows", "head", "many", "k"] ["rows"] (defScope ZkG):=fsm
theorem Zl0:FnScope ["text", "told", "e"] ["text"] (defScope ZkH):=fsm
theorem Zl1:FnScope ["script", "rows", "k", "text", "due", "told"] ["script"] (defScope ZkI):=fsm
structure Adr where
 (a_QB a_QT a_QL a_QJ a_QA a_QP a_QM a_QE a_Q4 a_QU a_Q1 a_QZ a_QW a_Q0 a_Q3 a_QG a_Q2 a_QY a_QN a_QF a_QC a_QR a_QS a_QX a_QH a_QK a_QO a_QQ a_QI a_QV a_QD a_Q5 c_GrooveError c_Unread c_BadRow c_BadTable c_Table:Addr)
 (d_QB d_QT d_QL d_QJ d_QA d_QP d_QM d_QE d_Q4 d_QU d_Q1 d_QZ d_QW d_Q0 d_Q3 d_QG d_Q2 d_QY d_QN d_QF d_QC d_QR d_QS d_QX d_QH d_QK d_QO d_QQ d_QI d_QV d_QD d_Q5:FuncData)
 (u_MARK_SIGNS u_FIGURES:Value)
def Adr.c(t:Adr):String->Addr:=λc=>if c = "Table" then t.c_Table else if c = "BadRow" then t.c_BadRow else if c = "BadTable" then t.c_BadTable else if c = "GrooveError" then t.c_GrooveError else if c = "Unread" then t.c_Unread else 0
structure Txt(K:PySem.W.Frag)(mg:Str->Option Value)(t:Adr):Prop where
 p_QB:Df K "__init__" "BadTable.__init__" Zkn t.a_QB t.d_QB ["self", "row"]
 p_QT:Dg K mg "whole_in" Jk t.a_QT t.d_QT ["word", "figures"]
 p_QL:Df K "__init__" "Table.__init__" Jl t.a_QL t.d_QL ["self", "lead", "first", "ahead", "homes", "ways"]
 p_QJ:Df K "signs" "Table.signs" Zko t.a_QJ t.d_QJ ["self"]
 p_QA:Df K "block_length" "Table.block_length" Zkp t.a_QA t.d_QA ["self"]
 p_QP:Dg K mg "place_rows" Jm t.a_QP t.d_QP ["home", "ways"]
 p_QM:Dg K mg "table_text" Jn t.a_QM t.d_QM ["table"]
 p_QE:Dg K mg "words_behind" Zkq t.a_QE t.d_QE ["row", "name", "many"]
 p_Q4:Dg K mg "is_row" Jo t.a_Q4 t.d_Q4 ["word"]
 p_QU:Dg K mg "place_in" Zkr t.a_QU t.d_QU ["word", "places"]
 p_Q1:Dg K mg "head_in" Jp t.a_Q1 t.d_Q1 ["row"]
 p_QZ:Dg K mg "lead_in" Zks t.a_QZ t.d_QZ ["row"]
 p_QW:Dg K mg "first_in" Zkt t.a_QW t.d_QW ["row", "places"]
 p_Q0:Dg K mg "home_in" Zku t.a_Q0 t.d_Q0 ["row"]
 p_Q3:Dg K mg "way_in" Zkv t.a_Q3 t.d_Q3 ["row", "length", "places"]
 p_QG:Dg K mg "row_numbered" Zkw t.a_QG t.d_QG ["rows", "number"]
 p_Q2:Dg K mg "stands" Zkx t.a_Q2 t.d_Q2 ["number", "said"]
 p_QY:Dg K mg "ways_in" Zky t.a_QY t.d_QY ["rows", "number", "head"]
 p_QN:Dg K mg "read_table" Zkz t.a_QN t.d_QN ["text"]
 p_QF:Dg K mg "_law_cell_at" ZkA t.a_QF t.d_QF ["script", "k"]
 p_QC:Dg K mg "_law_is_whole" ZkB t.a_QC t.d_QC ["found"]
 p_QR:Dg K mg "_law_text" Jq t.a_QR t.d_QR ["lead", "first", "ahead", "homes", "ways"]
 p_QS:Dg K mg "_law_rows" QC t.a_QS t.d_QS ["script"]
 p_QX:Dg K mg "_law_odd" ZkC t.a_QX t.d_QX ["cell"]
 p_QH:Dg K mg "_law_changed" ZkD t.a_QH t.d_QH ["rows", "cell"]
 p_QK:Dg K mg "_law_number" ZkE t.a_QK t.d_QK ["word"]
 p_QO:Dg K mg "_law_plain" Jr t.a_QO t.d_QO ["word"]
 p_QQ:Dg K mg "_law_head" Js t.a_QQ t.d_QQ ["row"]
 p_QI:Dg K mg "_law_stands" ZkF t.a_QI t.d_QI ["row", "k", "head"]
 p_QV:Dg K mg "_law_due" ZkG t.a_QV t.d_QV ["rows"]
 p_QD:Dg K mg "_law_refused" ZkH t.a_QD t.d_QD ["text"]
 p_Q5:Dg K mg "law" ZkI t.a_Q5 t.d_Q5 ["script"]
 n_ValueError:mg "ValueError" = none
 n_all:mg "all" = none
 n_bool:mg "bool" = none
 n_int:mg "int" = none
 n_isinstance:mg "isinstance" = none
 n_len:mg "len" = none
 n_min:mg "min" = none
 n_range:mg "range" = none
 n_str:mg "str" = none
 n_tuple:mg "tuple" = none
 n_zip:mg "zip" = none
 g_MARK_SIGNS:mg "MARK_SIGNS" = some t.u_MARK_SIGNS
 r_MARK_SIGNS:RelV (S cs_MARK_SIGNS) t.u_MARK_SIGNS
 g_FIGURES:mg "FIGURES" = some t.u_FIGURES
 r_FIGURES:RelV (S cs_FIGURES) t.u_FIGURES
 g_Table:mg "Table" = some (.ref t.c_Table)
 cl_Table:Cls K t.c_Table
 ci_Table:ClsI K t.c_Table
 mk_Table:Mk K t.c_Table t.a_QL
 fl_ahead:Ug K ⟨t.c,K⟩ UP "ahead"
 fl_first:Ug K ⟨t.c,K⟩ UQ "first"
 fl_homes:Ug K ⟨t.c,K⟩ Vt "homes"
 fl_lead:Ug K ⟨t.c,K⟩ Vu "lead"
 fl_row:Ug K ⟨t.c,K⟩ ZgO "row"
 fl_ways:Ug K ⟨t.c,K⟩ Vv "ways"
 g_BadRow:mg "BadRow" = some (.ref t.c_BadRow)
 g_BadTable:mg "BadTable" = some (.ref t.c_BadTable)
 ex_BadTable:ExCls K t.c_BadTable
 g_GrooveError:mg "GrooveError" = some (.ref t.c_GrooveError)
 g_Unread:mg "Unread" = some (.ref t.c_Unread)
 xi_BadTable:ExIn K t.c_BadTable t.a_QB (Str.ofString "row")
 bs_GrooveError:BsIn K t.c_GrooveError
 xm_BadTable_GrooveError:PySem.W.exmOne K (.ref t.c_BadTable) (.ref t.c_GrooveError)=some true
 ie_BadTable:Ul K ⟨t.c,K⟩ (.ref (t.c "BadTable")) ie_BadTable
 ie_ValueError:Ul K ⟨t.c,K⟩ (.ty "ValueError") ie_ValueError
 ie_BadRow:Ul K ⟨t.c,K⟩ (.ref (t.c "BadRow")) ie_BadRow
 ie_Unread:Ul K ⟨t.c,K⟩ (.ref (t.c "Unread")) ie_Unread
 me_Table_block_length:Meth K t.c_Table (Str.ofString "block_length") t.a_QA
 me_Table_signs:Meth K t.c_Table (Str.ofString "signs") t.a_QJ
 isi_bool:IsiOk K ⟨t.c,K⟩ (.type "bool") ZcD
 isi_int:IsiOk K ⟨t.c,K⟩ (.type "int") Zeh
end K50
namespace K50
open PySem PySem.W L2 HT
def kP:Params->PySem.W.Frag:=λP=>
 (nat_lit 2,dO .none [] 0) ::
 (nat_lit 3,dO (.type "dict") [de P "__name__" 165 (.str "law_grooveway_k50_tables_refused" 455),de P "__doc__" 166 .none,de P "__package__" 167 .none,de P "__loader__" 168 (.builtin "__main__.__loader__#opaque"),de P "__spec__" 169 .none,de P "__annotations__" 170 (.ref 6),de P "__builtins__" 171 (.ref 4),de P "__file__" 173 (.str "/claim/cut.py" 172),de P "__cached__" 174 .none,de P "GrooveError" 206 (.ref 24),de P "Unread" 222 (.ref 37),de P "BadRow" 247 (.ref 56),de P "BadTable" 272 (.ref 75),de P "MARK_SIGNS" 274 (.str "abcdefghijklmnopqrstuvwxyz0123456789" 273),de P "FIGURES" 278 (.str "0123456789" 277),de P "whole_in" 284 (.ref 82),de P "Table" 331 (.ref 111),de P "place_rows" 339 (.ref 120),de P "table_text" 345 (.ref 125),de P "words_behind" 355 (.ref 132),de P "is_row" 361 (.ref 137),de P "place_in" 370 (.ref 144),de P "head_in" 376 (.ref 149),de P "lead_in" 384 (.ref 156),de P "first_in" 393 (.ref 163),de P "home_in" 401 (.ref 170),de P "way_in" 412 (.ref 177),de P "row_numbered" 420 (.ref 184),de P "stands" 428 (.ref 191),de P "ways_in" 439 (.ref 198),de P "read_table" 454 (.ref 205),de P "_law_cell_at" 464 (.ref 212),de P "_law_is_whole" 471 (.ref 219),de P "_law_text" 477 (.ref 224),de P "_law_rows" 483 (.ref 229),de P "_law_odd" 491 (.ref 236),de P "_law_changed" 501 (.ref 243),de P "_law_number" 509 (.ref 250),de P "_law_plain" 515 (.ref 255),de P "_law_head" 521 (.ref 260),de P "_law_stands" 531 (.ref 267),de P "_law_due" 541 (.ref 274),de P "_law_refused" 550 (.ref 281),de P "law" 562 (.ref 288)] 44) ::
 (nat_lit 23,dO (.type "dict") [de P "__module__" 196 (.str "grooveway.errors" 187),de P "__firstlineno__" 200 (.int 2 199),de P "__static_attributes__" 201 (.ref 22),de P "__weakref__" 203 (.ref 25),de P "__doc__" 204 .none] 3) ::
 (nat_lit 24,⟨(.type "type"),none,.cls ⟨"GrooveError",[(.type "ValueError")],[(.ref 24),(.type "ValueError"),(.type "Exception"),(.type "BaseException"),(.type "object")],23, "GrooveError",true,[],[(.ref 37),(.ref 56),(.ref 75)],false,none,false⟩,#[some (.ref 15),none,some (.str "GrooveError" 189),some (.str "GrooveError" 197),some (.builtin "ValueError.__new__"),some (.bool true)]⟩) ::
 (nat_lit 25,⟨(.type "getset_descriptor"),none,.fields #[(.str "__weakref__" 202),(.ref 24),(.builtin "ExceptionGroup.__weakref__"),.none],#[]⟩) ::
 (nat_lit 36,x3 P "grooveway.errors" 187 214 218 4 217 219 35 220 2) ::
 (nat_lit 37,k3 "Unread" 37 24 36 28 207 215) ::
 (nat_lit 52,c3 "__init__" "BadRow.__init__" 235 8 2 3 47 48 (.ref 49) (.ref 50) 51 240 241) ::
 (nat_lit 55,dO (.type "dict") [de P "__module__" 230 (.str "grooveway.errors" 187),de P "__firstlineno__" 234 (.int 6 233),de P "__init__" 242 (.ref 53),de P "__static_attributes__" 244 (.ref 54),de P "__doc__" 245 .none] 2) ::
 (nat_lit 56,k3 "BadRow" 56 24 55 40 223 231) ::
 (nat_lit 71,c3 "__init__" "BadTable.__init__" 260 13 2 3 66 67 (.ref 68) (.ref 69) 70 265 266) ::
 (nat_lit 72,f3 "__init__" "BadTable.__init__" Zkn "grooveway.errors" 187 71) ::
 (nat_lit 74,dO (.type "dict") [de P "__module__" 255 (.str "grooveway.errors" 187),de P "__firstlineno__" 259 (.int 11 258),de P "__init__" 267 (.ref 72),de P "__static_attributes__" 269 (.ref 73),de P "__doc__" 270 .none] 2) ::
 (nat_lit 75,k3 "BadTable" 75 24 74 59 248 256) ::
 (nat_lit 81,c3 "whole_in" "whole_in" 279 19 2 3 78 79 .none .none 80 282 283) ::
 (nat_lit 82,f3 "whole_in" "whole_in" Jk "grooveway.pages" 275 81) ::
 (nat_lit 93,c3 "__init__" "Table.__init__" 299 30 6 3 90 91 .none .none 92 302 303) ::
 (nat_lit 94,f3 "__init__" "Table.__init__" Jl "grooveway.table" 285 93) ::
 (nat_lit 100,c3 "signs" "Table.signs" 305 37 1 3 95 96 (.ref 97) (.ref 98) 99 309 310) ::
 (nat_lit 101,f3 "signs" "Table.signs" Zko "grooveway.table" 285 100) ::
 (nat_lit 107,c3 "block_length" "Table.block_length" 312 40 1 3 102 103 (.ref 104) (.ref 105) 106 316 317) ::
 (nat_lit 108,f3 "block_length" "Table.block_length" Zkp "grooveway.table" 285 107) ::
 (nat_lit 110,dO (.type "dict") [de P "__module__" 294 (.str "grooveway.table" 285),de P "__firstlineno__" 298 (.int 28 297),de P "__init__" 304 (.ref 94),de P "signs" 311 (.ref 101),de P "block_length" 318 (.ref 108),de P "__static_attributes__" 324 (.ref 109),de P "__dict__" 326 (.ref 112),de P "__weakref__" 328 (.ref 113),de P "__doc__" 329 .none] 4) ::
 (nat_lit 111,⟨(.type "type"),none,.cls ⟨"Table",[(.type "object")],[(.ref 111),(.type "object")],110, "Table",true,[],[],false,none,false⟩,#[none,none,some (.str "Table" 287),some (.str "Table" 295),some (.builtin "object.__new__"),some (.bool true)]⟩) ::
 (nat_lit 112,⟨(.type "getset_descriptor"),none,.fields #[(.str "__dict__" 325),(.ref 111),(.builtin "function.__dict__"),(.builtin "function.__dict__#set")],#[]⟩) ::
 (nat_lit 113,⟨(.type "getset_descriptor"),none,.fields #[(.str "__weakref__" 327),(.ref 111),(.builtin "ExceptionGroup.__weakref__"),.none],#[]⟩) ::
 (nat_lit 119,c3 "place_rows" "place_rows" 334 43 2 3 116 117 .none .none 118 337 338) ::
 (nat_lit 120,f3 "place_rows" "place_rows" Jm "grooveway.tables" 332 119) ::
 (nat_lit 124,c3 "table_text" "table_text" 340 45 1 3 121 122 .none .none 123 343 344) ::
 (nat_lit 125,f3 "table_text" "table_text" Jn "grooveway.tables" 332 124) ::
 (nat_lit 131,c3 "words_behind" "words_behind" 346 53 3 3 126 127 (.ref 128) (.ref 129) 130 353 354) ::
 (nat_lit 132,f3 "words_behind" "words_behind" Zkq "grooveway.tables" 332 131) ::
 (nat_lit 136,c3 "is_row" "is_row" 356 58 1 3 133 134 .none .none 135 359 360) ::
 (nat_lit 137,f3 "is_row" "is_row" Jo "grooveway.tables" 332 136) ::
 (nat_lit 143,c3 "place_in" "place_in" 362 60 2 3 138 139 (.ref 140) (.ref 141) 142 368 369) ::
 (nat_lit 144,f3 "place_in" "place_in" Zkr "grooveway.tables" 332 143) ::
 (nat_lit 148,c3 "head_in" "head_in" 371 63 1 3 145 146 .none .none 147 374 375) ::
 (nat_lit 149,f3 "head_in" "head_in" Jp "grooveway.tables" 332 148) ::
 (nat_lit 155,c3 "lead_in" "lead_in" 377 71 1 3 150 151 (.ref 152) (.ref 153) 154 382 383) ::
 (nat_lit 156,f3 "lead_in" "lead_in" Zks "grooveway.tables" 332 155) ::
 (nat_lit 162,c3 "first_in" "first_in" 385 76 2 3 157 158 (.ref 159) (.ref 160) 161 391 392) ::
 (nat_lit 163,f3 "first_in" "first_in" Zkt "grooveway.tables" 332 162) ::
 (nat_lit 169,c3 "home_in" "home_in" 394 79 1 3 164 165 (.ref 166) (.ref 167) 168 399 400) ::
 (nat_lit 170,f3 "home_in" "home_in" Zku "grooveway.tables" 332 169) ::
 (nat_lit 176,c3 "way_in" "way_in" 402 82 3 3 171 172 (.ref 173) (.ref 174) 175 410 411) ::
 (nat_lit 177,f3 "way_in" "way_in" Zkv "grooveway.tables" 332 176) ::
 (nat_lit 183,c3 "row_numbered" "row_numbered" 413 88 2 3 178 179 (.ref 180) (.ref 181) 182 418 419) ::
 (nat_lit 184,f3 "row_numbered" "row_numbered" Zkw "grooveway.tables" 332 183) ::
 (nat_lit 190,c3 "stands" "stands" 421 90 2 3 185 186 (.ref 187) (.ref 188) 189 426 427) ::
 (nat_lit 191,f3 "stands" "stands" Zkx "grooveway.tables" 332 190) ::
 (nat_lit 197,c3 "ways_in" "ways_in" 429 94 3 3 192 193 (.ref 194) (.ref 195) 196 437 438) ::
 (nat_lit 198,f3 "ways_in" "ways_in" Zky "grooveway.tables" 332 197) ::
 (nat_lit 204,c3 "read_table" "read_table" 440 99 1 3 199 200 (.ref 201) (.ref 202) 203 452 453) ::
 (nat_lit 205,f3 "read_table" "read_table" Zkz "grooveway.tables" 332 204) ::
 (nat_lit 211,c3 "_law_cell_at" "_law_cell_at" 457 115 2 3 206 207 (.ref 208) (.ref 209) 210 462 463) ::
 (nat_lit 212,f3 "_law_cell_at" "_law_cell_at" ZkA "law_grooveway_k50_tables_refused" 455 211) ::
 (nat_lit 218,c3 "_law_is_whole" "_law_is_whole" 465 119 1 3 213 214 (.ref 215) (.ref 216) 217 469 470) ::
 (nat_lit 219,f3 "_law_is_whole" "_law_is_whole" ZkB "law_grooveway_k50_tables_refused" 455 218) ::
 (nat_lit 223,c3 "_law_text" "_law_text" 472 121 5 3 220 221 .none .none 222 475 476) ::
 (nat_lit 224,f3 "_law_text" "_law_text" Jq "law_grooveway_k50_tables_refused" 455 223) ::
 (nat_lit 228,c3 "_law_rows" "_law_rows" 478 131 1 3 225 226 .none .none 227 481 482) ::
 (nat_lit 229,f3 "_law_rows" "_law_rows" QC "law_grooveway_k50_tables_refused" 455 228) ::
 (nat_lit 235,c3 "_law_odd" "_law_odd" 484 145 1 3 230 231 (.ref 232) (.ref 233) 234 489 490) ::
 (nat_lit 236,f3 "_law_odd" "_law_odd" ZkC "law_grooveway_k50_tables_refused" 455 235) ::
 (nat_lit 242,c3 "_law_changed" "_law_changed" 492 151 2 3 237 238 (.ref 239) (.ref 240) 241 499 500) ::
 (nat_lit 243,f3 "_law_changed" "_law_changed" ZkD "law_grooveway_k50_tables_refused" 455 242) ::
 (nat_lit 249,c3 "_law_number" "_law_number" 502 165 1 3 244 245 (.ref 246) (.ref 247) 248 507 508) ::
 (nat_lit 250,f3 "_law_number" "_law_number" ZkE "law_grooveway_k50_tables_refused" 455 249) ::
 (nat_lit 254,c3 "_law_plain" "_law_plain" 510 172 1 3 251 252 .none .none 253 513 514) ::
 (nat_lit 255,f3 "_law_plain" "_law_plain" Jr "law_grooveway_k50_tables_refused" 455 254) ::
 (nat_lit 259,c3 "_law_head" "_law_head" 516 175 1 3 256 257 .none .none 258 519 520) ::
 (nat_lit 260,f3 "_law_head" "_law_head" Js "law_grooveway_k50_tables_refused" 455 259) ::
 (nat_lit 266,c3 "_law_stands" "_law_stands" 522 183 3 3 261 262 (.ref 263) (.ref 264) 265 529 530) ::
 (nat_lit 267,f3 "_law_stands" "_law_stands" ZkF "law_grooveway_k50_tables_refused" 455 266) ::
 (nat_lit 273,c3 "_law_due" "_law_due" 532 200 1 3 268 269 (.ref 270) (.ref 271) 272 539 540) ::
 (nat_lit 274,f3 "_law_due" "_law_due" ZkG "law_grooveway_k50_tables_refused" 455 273) ::
 (nat_lit 280,c3 "_law_refused" "_law_refused" 542 211 1 3 275 276 (.ref 277) (.ref 278) 279 548 549) ::
 (nat_lit 281,f3 "_law_refused" "_law_refused" ZkH "law_grooveway_k50_tables_refused" 455 280) ::
 (nat_lit 287,c3 "law" "law" 551 220 1 3 282 283 (.ref 284) (.ref 285) 286 560 561) ::
 (nat_lit 288,f3 "law" "law" ZkI "law_grooveway_k50_tables_refused" 455 287)::[]
set_option maxHeartbeats 0 in
theorem Zl2:met PySem.Challenge.pw_grooveway_k50_tables_refused=true:=by k_qdec
set_option maxHeartbeats 0 in
theorem Zl3:met kP=true:=by k_qdec
set_option maxHeartbeats 0 in
theorem left:LeftO PySem.Challenge.pw_grooveway_k50_tables_refused (view PySem.Challenge.pw_grooveway_k50_tables_refused [1,2,3,4,5,7,8,10,12,13,14,15,16,17,18,19,20,21,22,23,24,25,27,28,29,30,31,32,33,34,35,36,37,38,39]) [] (λs=>xlAt (view PySem.Challenge.pw_grooveway_k50_tables_refused [1,2,3,4,5,7,8,10,12,13,14,15,16,17,18,19,20,21,22,23,24,25,27,28,29,30,31,32,33,34,35,36,37,38,39]) [] s&&recOk PySem.Challenge.rw_grooveway_k50_tables_refused.row.toRowW.records s) (λs=>([2,3,23,24,25,36,37,52,55,56,71,72,74,75,81,82,93,94,100,101,107,108,110,111,112,113,119,120,124,125,131,132,136,137,143,144,148,149,155,156,162,163,169,170,176,177,183,184,190,191,197,198,204,205,211,212,218,219,223,224,228,229,235,236,242,243,249,250,254,255,259,260,266,267,273,274,280,281,287,288]:List Addr).map s.heap.get?) (λw=>(kP w.params).map λp=>some p.2) 4260:=
 HT.left_of rfl rfl (λ_=>rfl) λw=>by
  have _:=Zl2;have _:=Zl3;rewrite [PySem.W.Fast.te6274276731210416055,PySem.W.Fast.te12443032839184237474,PySem.W.Fast.te5923862056798008813,PySem.W.Fast.te4187177175401517315,PySem.W.Fast.te6613529449190102663,PySem.W.Fast.te10156331382660048174,PySem.W.Fast.te11892475500146522536,PySem.W.Fast.te14364793385576792824]
  kernel_rfl
theorem kP_as:∀P,([2,3,23,24,25,36,37,52,55,56,71,72,74,75,81,82,93,94,100,101,107,108,110,111,112,113,119,120,124,125,131,132,136,137,143,144,148,149,155,156,162,163,169,170,176,177,183,184,190,191,197,198,204,205,211,212,218,219,223,224,228,229,235,236,242,243,249,250,254,255,259,260,266,267,273,274,280,281,287,288]:List Addr)=(kP P).map (·.1):=λ_=>by kernel_rfl
end K50
namespace K50
open PySem PySem.Spec PyProof.Rows L2 DL
theorem nd0:List.Nodup (["sign"]:List Str):=by decide +kernel
theorem nd1:List.Nodup (["own"]:List Str):=by decide +kernel
theorem nd2:List.Nodup (["way"]:List Str):=by decide +kernel
theorem nd3:List.Nodup (["block", "place"]:List Str):=by decide +kernel
theorem nd4:List.Nodup (["table", "numbers", "rows", "home", "ways"]:List Str):=by decide +kernel
theorem nd5:List.Nodup (["number"]:List Str):=by decide +kernel
theorem nd6:List.Nodup (["row", "name", "many", "words"]:List Str):=by decide +kernel
theorem nd7:List.Nodup (["word", "places", "number"]:List Str):=by decide +kernel
theorem nd8:List.Nodup (["row", "words", "numbers"]:List Str):=by decide +kernel
theorem nd9:List.Nodup (["word"]:List Str):=by decide +kernel
theorem ZmU:List.Nodup (["row", "words"]:List Str):=by decide +kernel
theorem Znd:List.Nodup (["row", "places", "words"]:List Str):=by decide +kernel
theorem ZmV:List.Nodup (["row", "length", "places", "words", "place"]:List Str):=by decide +kernel
theorem ZmW:List.Nodup (["rows", "number", "head", "ways", "place"]:List Str):=by decide +kernel
theorem V3:List.Nodup (["text", "rows", "head", "lead", "first", "homes", "ways", "number", "place"]:List Str):=by decide +kernel
theorem Jt:List.Nodup (["lead", "first", "ahead", "homes", "ways", "head", "rows", "place", "block", "there"]:List Str):=by decide +kernel
theorem Vx:List.Nodup (["script", "many", "n", "q", "ways", "place", "row", "sign", "cell", "homes", "lead"]:List Str):=by decide +kernel
theorem Zne:List.Nodup (["k", "cell"]:List Str):=by decide +kernel
theorem Znf:List.Nodup (["k", "script"]:List Str):=by decide +kernel
theorem ZkJ:List.Nodup (["cell", "odd"]:List Str):=by decide +kernel
theorem ZmX:List.Nodup (["rows", "cell", "at", "way"]:List Str):=by decide +kernel
theorem Zng:List.Nodup (["word", "sign"]:List Str):=by decide +kernel
theorem Znh:List.Nodup (["word", "some"]:List Str):=by decide +kernel
theorem Zni:List.Nodup (["sign", "some"]:List Str):=by decide +kernel
theorem ZmY:List.Nodup (["row", "words", "found"]:List Str):=by decide +kernel
theorem Znj:List.Nodup (["row", "k", "head", "words"]:List Str):=by decide +kernel
theorem Zlf:List.Nodup (["rows", "head", "many", "k"]:List Str):=by decide +kernel
theorem ZkK:List.Nodup (["text", "told", "e"]:List Str):=by decide +kernel
theorem QD:List.Nodup (["script", "rows", "k", "text", "due", "told"]:List Str):=by decide +kernel
section
variable{P:Program}{w:World}{K:PySem.W.Frag}{mg:Str->Option Value}{base:Heap}{t:Adr}
theorem ZiP(T:Txt K mg t):FnOk P w K mg base CX0 1 t.a_QB t.d_QB ["self", "row"] (spJ t.c_BadTable (Str.ofString "row")):=
 Zjq (a:=[114,111,119,32]) (b:=[32,111,102,32,116,104,101,32,116,101,120,116,32,105,115,110,39,116,32,97,32,114,111,119,32,116,104,97,116,32,109,97,121,32,115,116,97,110,100,32,116,104,101,114,101]) T.p_QB.f Zlw (by conv=>lhs;whnf) (by conv=>lhs;whnf) rfl rfl (by decide) (λcdv A outer s H E hr=>Zs (Xr (ZhG T.xi_BadTable T.bs_GrooveError (by rfl) T.g_GrooveError (Zf (pv 0) (Zf (Zcw (.cons (Zu [114,111,119,32] (by decide +kernel)) (.cons (Zbg (pv 1)) (.cons (Zu [32,111,102,32,116,104,101,32,116,101,120,116,32,105,115,110,39,116,32,97,32,114,111,119,32,116,104,97,116,32,109,97,121,32,115,116,97,110,100,32,116,104,101,114,101] (by decide +kernel)) .nil)))) Zj)))) (Zw (ZhH T.xi_BadTable (pv 0) (pv 1))))
theorem Zhl(T:Txt K mg t):FnOk P w K mg base CX0 1 t.a_QT t.d_QT ["word", "figures"] (spD ⟨t.c,K⟩ 2 UR):=by
 refine Yx (φ:=ZjW) T.p_QT.f Zlx (by conv=>lhs;whnf) (by conv=>lhs;whnf) (λcdv A outer s H E hr => ?_) rfl rfl;refine⟨_,(Zs (Yg (PW.pt (Xf (ZS V8 (ZZ (Yi (K:=K)) (by rfl) T.n_len boot_len (Zf (pv 0) Zj)) Zm (ZK _)) (X3 (ZS QP (ZZ (Yi (K:=K)) (by rfl) T.n_len boot_len (Zf (pv 0) Zj)) (pv 1) (ZK _))))) (Zw (ZE Xe)) Ye)
 (Zs (Yg (QM (V5 (ZZ (ZiA (K:=K)) (by rfl) T.n_all boot_all (Zf (VY (by rfl) (CompSd.mk1 (tn:=["sign"]) (cn:=[]) (js:=[]) (osc:=defScope Jk) (oN:=["word", "figures"]) (by rfl) (by rfl) (by rfl) (by decide +kernel)) (XO (K:=K) (pv 0)) (λC s₂ H₂ fp=>Yy (i:=0) nd0) (λC s₂ H₂ fp=>X6) (λC s₂ H₂ fp=>(Xu (J4 (K:=K)) (pv 0) (QL (by rfl) T.g_FIGURES T.r_FIGURES) (by rfl)))) Zj)))) (Zw (ZE Xe)) Ye)
 (Zs (Yg (PW.pt (Uy (ZS QP (ZZ (Yi (K:=K)) (by rfl) T.n_len boot_len (Zf (pv 0) Zj)) Zm (ZK _)) (U1 (ZS (Yv (cA:=⟨t.c,K⟩) (hr.units)) (ZC (ZD (K:=K)) (pv 0) Zm (λ_ _=>rfl)) (Zu [48] (by decide +kernel)) (ZK _))))) (Zw (ZE Xe)) Ye)
 (Zw (ZE (Xv ZaO (by rfl) T.n_int boot_int (Zf (pv 0) Zj))))))),[],?_⟩
 unfold ZjW;exact(Zr (Z9 (Xi (ZP (Zi Y9 (ZQ Z6 (Zd (Zc 0) Zh)) (Ze (d:=(.int 1)) (by rfl) (by rfl)))) (ZP (Zi Y9 (ZQ Z6 (Zd (Zc 0) Zh)) (Zc 1)))) (ZF (Ze (d:=.non) (by rfl) (by rfl))) Z8)
 (Zr (Z9 (J9 (Xc (ZQ Zgy (Zd (VF.cl (XT (by rfl) (XS (Zc 0)) (YG 0) Va (Zi Qc (Zc 0) (Ze (d:=.str cs_FIGURES) (by rfl) (by rfl))))) Zh)))) (ZF (Ze (d:=.non) (by rfl) (by rfl))) Z8)
 (Zr (Z9 (QX (ZP (Zi Y9 (ZQ Z6 (Zd (Zc 0) Zh)) (Ze (d:=(.int 1)) (by rfl) (by rfl)))) (ZP (Zi Yw (Zi Zv (Zc 0) (Ze (d:=(.int 0)) (by rfl) (by rfl))) (Ze (d:=(.str [48])) (by rfl) (by rfl))))) (ZF (Ze (d:=.non) (by rfl) (by rfl))) Z8)
 (ZF (ZQ Zd9 (Zd (Zc 0) Zh))))))
theorem Zl4(T:Txt K mg t):FnOk P w K mg base CX0 1 t.a_QL t.d_QL ["self", "lead", "first", "ahead", "homes", "ways"] (spI ⟨t.c,K⟩ 6 ZjX):=by
 refine Zlt (φ:=Jd) T.p_QL.f Zly (by conv=>lhs;whnf) (by conv=>lhs;whnf) (λcdv A outer s H E self hr => ?_) rfl rfl;refine⟨_,(Zs (QS (pv 0) (pv 1) (by rfl))
 (Zs (QS (pv 0) (pv 2) (by rfl))
 (Zs (QS (pv 0) (pv 3) (by rfl))
 (Zs (QS (pv 0) (Xv (J5 (K:=K)) (by rfl) T.n_tuple boot_tuple (Zf (pv 4) Zj)) (by rfl))
 (Zw (QS (pv 0) (Xv (J5 (K:=K)) (by rfl) T.n_tuple boot_tuple (Zf (VY (by rfl) (CompSd.mk1 (tn:=["own"]) (cn:=[]) (js:=[]) (osc:=defScope Jl) (oN:=["self", "lead", "first", "ahead", "homes", "ways"]) (by rfl) (by rfl) (by rfl) (by decide +kernel)) (XO (K:=K) (pv 5)) (λC s₂ H₂ fp=>Yy (i:=0) nd1) (λC s₂ H₂ fp=>X6) (λC s₂ H₂ fp=>(Xv (J5 (K:=K)) (by rfl) T.n_tuple boot_tuple (Zf (VY (by rfl) (CompSd.mk3 (tn:=["way"]) (by rfl) (by decide +kernel)) (XO (K:=K) (pv 0)) (λC s₂ H₂ fp=>Yy (i:=0) nd2) (λC s₂ H₂ fp=>X6) (λC s₂ H₂ fp=>(Xv (J5 (K:=K)) (by rfl) T.n_tuple boot_tuple (Zf (pv 0) Zj)))) Zj)))) Zj)) (by rfl))))))),?_⟩
 unfold Jd;exact(Zr (Q3 0 (by rfl) T.fl_lead (Zc 1))
 (Zr (Q3 0 (by rfl) T.fl_first (Zc 2))
 (Zr (Q3 0 (by rfl) T.fl_ahead (Zc 3))
 (Zr (Q3 0 (by rfl) T.fl_homes (ZaC (Zd (Zc 4) Zh)))
 (Q3 0 (by rfl) T.fl_ways (ZaC (Zd (VF.cl (XT (by rfl) (XS (Zc 5)) (YG 0) Va (ZaC (Zd (VF.cl (XT (by rfl) (XS (Zc 0)) (YG 0) Va (ZaC (Zd (Zc 0) Zh)))) Zh)))) Zh)))))))
theorem Zl5(T:Txt K mg t):FnOk P w K mg base CX0 1 t.a_QJ t.d_QJ ["self"] (spD ⟨t.c,K⟩ 1 Zk3):=by
 refine Yx (φ:=Zk2) T.p_QJ.f Zlz (by conv=>lhs;whnf) (by conv=>lhs;whnf) (λcdv A outer s H E hr => ?_) rfl rfl;refine⟨_,(Zw (ZE (ZZ (Yi (K:=K)) (by rfl) T.n_len boot_len (Zf (ZC (ZD (K:=K)) (VM (K:=K) (pv 0)) Zm (λ_ _=>rfl)) Zj)))),[],?_⟩;unfold Zk2;exact(ZF (ZQ Z6 (Zd (Zi Zv (VR T.fl_ways (Zc 0)) (Ze (d:=(.int 0)) (by rfl) (by rfl))) Zh)))
theorem Zl6(T:Txt K mg t):FnOk P w K mg base CX0 1 t.a_QA t.d_QA ["self"] (spD ⟨t.c,K⟩ 1 Zk5):=by
 refine Yx (φ:=Zk4) T.p_QA.f ZlA (by conv=>lhs;whnf) (by conv=>lhs;whnf) (λcdv A outer s H E hr => ?_) rfl rfl;refine⟨_,(Zw (ZE (ZZ (Yi (K:=K)) (by rfl) T.n_len boot_len (Zf (ZC (ZD (K:=K)) (ZC (ZD (K:=K)) (ZC (ZD (K:=K)) (VM (K:=K) (pv 0)) Zm (λ_ _=>rfl)) Zm (λ_ _=>rfl)) Zm (λ_ _=>rfl)) Zj)))),[],?_⟩;unfold Zk4;exact(ZF (ZQ Z6 (Zd (Zi Zv (Zi Zv (Zi Zv (VR T.fl_ways (Zc 0)) (Ze (d:=(.int 0)) (by rfl) (by rfl))) (Ze (d:=(.int 0)) (by rfl) (by rfl))) (Ze (d:=(.int 0)) (by rfl) (by rfl))) Zh)))
theorem Zl7(T:Txt K mg t):FnOk P w K mg base CX0 1 t.a_QP t.d_QP ["home", "ways"] (spL ⟨t.c,K⟩ 2 US):=by
 refine Zlu (φ:=ZjY) T.p_QP.f ZlB (by conv=>lhs;whnf) (by conv=>lhs;whnf) (λcdv A outer s H E hr => ?_) rfl rfl;refine⟨_,(Zw (ZE (ZB (ZY (K:=K)) (YT (Zf (Zcw (.cons (Zu [112,108,97,99,101,32] (by decide +kernel)) (.cons (Zbg (pv 0)) .nil))) Zj)) (VY (by rfl) (CompSd.mk1 (tn:=["block", "place"]) (cn:=[]) (js:=[]) (osc:=defScope Jm) (oN:=["home", "ways"]) (by rfl) (by rfl) (by rfl) (by decide +kernel)) (XO (K:=K) (pv 1)) (λC s₂ H₂ fp=>Zhd (K:=K) (n:=2) (U3 (Yy (i:=0) nd3) (U3 (Yy (i:=1) nd3) Zcq))) (λC s₂ H₂ fp=>X6) (λC s₂ H₂ fp=>(Zcw (.cons (Zu [119,97,121,32] (by decide +kernel)) (.cons (Zbg (pv 0)) (.cons (Zu [32] (by decide +kernel)) (.cons (Zbg (pv 1)) .nil)))))))))),?_⟩
 unfold ZjY;exact(Zf8 (Uo (VF.cl (YF (Zd (ZeJ (.cons (Ze (d:=(.str [112,108,97,99,101,32])) (by rfl) (by rfl)) (.cons (Zcx (Zc 0)) .nil))) Zh))) (VF.cl (XT (by rfl) (XS (Zc 1)) (Zea (Qf 0 (by rfl) (by rfl) (Qf 1 (by rfl) (by rfl) Zcu))) Va (ZeJ (.cons (Ze (d:=(.str [119,97,121,32])) (by rfl) (by rfl)) (.cons (Zcx (Zc 0)) (.cons (Ze (d:=(.str [32])) (by rfl) (by rfl)) (.cons (Zcx (Zc 1)) .nil)))))))))
theorem Zl8(T:Txt K mg t):FnOk P w K mg base CX0 2 t.a_QM t.d_QM ["table"] (spD ⟨t.c,K⟩ 1 Zj0):=by
 have G_QA:=(Zl6 (P:=P) (w:=w) (base:=base) T).mono (k:=1) (by decide);have G_QJ:=(Zl5 (P:=P) (w:=w) (base:=base) T).mono (k:=1) (by decide);have G_QP:=(Zl7 (P:=P) (w:=w) (base:=base) T).mono (k:=1) (by decide);refine Yx (φ:=ZjZ) T.p_QM.f ZlC (by conv=>lhs;whnf) (by conv=>lhs;whnf) (λcdv A outer s H E hr => ?_) rfl rfl;refine⟨_,(Zs (ZO (i:=1) nd4 (by rfl) (by first|exact Or.inl rfl|exact Or.inr rfl) (YT (Zf (ZbV (cA:=⟨t.c,K⟩) (tab:=Zao) (m:="signs") ⟨⟨t.a_QJ,t.d_QJ,["self"],T.cl_Table,T.me_Table_signs,G_QJ,T.p_QJ.b⟩,trivial⟩ hr (pv 0)) (Zf (ZbV (cA:=⟨t.c,K⟩) (tab:=Zaa) (m:="block_length") ⟨⟨t.a_QA,t.d_QA,["self"],T.cl_Table,T.me_Table_block_length,G_QA,T.p_QA.b⟩,trivial⟩ hr (pv 0)) (Zf (VM (K:=K) (pv 0)) (Zf (ZZ (Yi (K:=K)) (by rfl) T.n_len boot_len (Zf (VM (K:=K) (pv 0)) Zj)) Zj))))))
 (Zs (ZO (i:=2) nd4 (by rfl) (by first|exact Or.inl rfl|exact Or.inr rfl) (YT (Zf (ZB (ZY (K:=K)) (Zu [116,97,98,108,101,32] (by decide +kernel)) (YE (K:=K) PySem.F.plainAttrs_str PySem.F.slot_str_join PySem.F.type_str_join (Qi (K:=K)) (Zu [32] (by decide +kernel)) (Zf (VY (by rfl) (CompSd.mk1 (tn:=["number"]) (cn:=[]) (js:=[]) (osc:=defScope Jn) (oN:=["table", "numbers", "rows", "home", "ways"]) (by rfl) (by rfl) (by rfl) (by decide +kernel)) (XO (K:=K) (pv 1)) (λC s₂ H₂ fp=>Yy (i:=0) nd5) (λC s₂ H₂ fp=>X6) (λC s₂ H₂ fp=>(Xv Qa (by rfl) T.n_str boot_str (Zf (pv 0) Zj)))) Zj))) Zj)))
 (Zs (Xr (YE (K:=K) PySem.F.plainAttrs_list PySem.F.slot_list_append PySem.F.type_list_append X4 (pv 2) (Zf (Uz (ZS (Yv (cA:=⟨t.c,K⟩) (hr.units)) (VM (K:=K) (pv 0)) (Zu [] (by decide +kernel)) (ZK _)) (Zu [108,101,97,100] (by decide +kernel)) (ZB (ZY (K:=K)) (Zu [108,101,97,100,32] (by decide +kernel)) (VM (K:=K) (pv 0)))) Zj)))
 (Zs (Xr (YE (K:=K) PySem.F.plainAttrs_list PySem.F.slot_list_append PySem.F.type_list_append X4 (pv 2) (Zf (ZB (ZY (K:=K)) (Zu [102,105,114,115,116,32] (by decide +kernel)) (Xv Qa (by rfl) T.n_str boot_str (Zf (VM (K:=K) (pv 0)) Zj))) Zj)))
 (Zs ((Vk PassesOwn.never (by rfl) (ZhS (K:=K) (by rfl) T.n_zip (VM (K:=K) (pv 0)) (VM (K:=K) (pv 0))) (Zhd (K:=K) (n:=2) (U3 (Yy (i:=3) nd4) (U3 (Yy (i:=4) nd4) Zcq))) (Zw (Xr (YE (K:=K) PySem.F.plainAttrs_list PySem.F.slot_list_extend PySem.F.type_list_extend Zfa (pv 2) (Zf (ZG (G_QP) hr (by rfl) T.p_QP.g T.p_QP.k T.p_QP.b .nil ZM (Zf (pv 3) (Zf (pv 4) Zj))) Zj))))))
 (Zw (ZE (YE (K:=K) PySem.F.plainAttrs_str PySem.F.slot_str_join PySem.F.type_str_join (Qi (K:=K)) (Zu [10] (by decide +kernel)) (Zf (pv 2) Zj))))))))),[],?_⟩
 unfold ZjZ;exact(Zr (show VS _ _ [] _ _ _ _ from(ZN 1 (VF.cl (YF (Zd (ZeE (Zc 0) Zh) (Zd (ZeE (Zc 0) Zh) (Zd (VR T.fl_ahead (Zc 0)) (Zd (ZQ Z6 (Zd (VR T.fl_homes (Zc 0)) Zh)) Zh))))))))
 (Zr (show VS _ _ [2] _ _ _ _ from(Vo 2 (YF (Zd (Zi ZV (Ze (d:=(.str [116,97,98,108,101,32])) (by rfl) (by rfl)) (XA Qj (Ze (d:=(.str [32])) (by rfl) (by rfl)) (Zd (VF.cl (XT (by rfl) (XS (Zc 1)) (YG 0) Va (ZQ Qe (Zd (Zc 0) Zh)))) Zh))) Zh))))
 (Zr (YV 2 (by rfl) (UE (ZP (Zi Yw (VR T.fl_lead (Zc 0)) (Ze (d:=(.str [])) (by rfl) (by rfl)))) (Ze (d:=(.str [108,101,97,100])) (by rfl) (by rfl)) (Zi ZV (Ze (d:=(.str [108,101,97,100,32])) (by rfl) (by rfl)) (VR T.fl_lead (Zc 0)))))
 (Zr (YV 2 (by rfl) (Zi ZV (Ze (d:=(.str [102,105,114,115,116,32])) (by rfl) (by rfl)) (ZQ Qe (Zd (VR T.fl_first (Zc 0)) Zh))))
 (Zr (XR (ZhT (VR T.fl_homes (Zc 0)) (VR T.fl_ways (Zc 0))) (Zea (Qf 3 (by rfl) (by rfl) (Qf 4 (by rfl) (by rfl) Zcu))) (Zjr 2 (by rfl) (Zf9 [] (by rfl) (Zd (Zc 3) (Zd (Zc 4) Zh)))))
 (VS.frz (ow1:=[]) 2 (ZF (XA Qj (Ze (d:=(.str [10])) (by rfl) (by rfl)) (Zd (Zc 2) Zh)))))))))
theorem Ju(T:Txt K mg t):FnOk P w K mg base CX0 1 t.a_QE t.d_QE ["row", "name", "many"] (spD ⟨t.c,K⟩ 3 Vw):=by
 refine Yx (φ:=Zj1) T.p_QE.f ZlD (by conv=>lhs;whnf) (by conv=>lhs;whnf) (λcdv A outer s H E hr => ?_) rfl rfl;refine⟨_,(Zs (ZO (i:=3) nd6 (by rfl) (by first|exact Or.inl rfl|exact Or.inr rfl) (YE (K:=K) PySem.F.plainAttrs_str PySem.F.slot_str_split PySem.F.type_str_split Q4 (pv 0) (Zf (Zu [32] (by decide +kernel)) Zj)))
 (Zs (Yg (PW.pt (Xf (ZS (X8 (cA:=⟨t.c,K⟩) (hr.units)) (ZC (ZD (K:=K)) (pv 3) Zm (λ_ _=>rfl)) (pv 1) (ZK _)) (X3 (ZS (X8 (cA:=⟨t.c,K⟩) (hr.units)) (ZZ (Yi (K:=K)) (by rfl) T.n_len boot_len (Zf (pv 3) Zj)) (ZB (ZY (K:=K)) (pv 2) Zm) (ZK _))))) (Zw (ZE Xe)) Ye)
 (Zw (ZE (XM (XN (K:=K)) (pv 3) (XJ Zm) XI))))),[],?_⟩
 unfold Zj1;exact(Zr (show VS _ _ [] _ _ _ _ from(ZN 3 (XA Qk (Zc 0) (Zd (Ze (d:=(.str [32])) (by rfl) (by rfl)) Zh))))
 (Zr (Z9 (Xi (ZP (Zi X9 (Zi Zv (Zc 3) (Ze (d:=(.int 0)) (by rfl) (by rfl))) (Zc 1))) (ZP (Zi X9 (ZQ Z6 (Zd (Zc 3) Zh)) (Zi ZV (Zc 2) (Ze (d:=(.int 1)) (by rfl) (by rfl)))))) (ZF (Ze (d:=.non) (by rfl) (by rfl))) Z8)
 (ZF (XW (Or.inl rfl) (Zc 3) (XV (Ze (d:=(.int 1)) (by rfl) (by rfl))) XU))))
theorem ZiQ(T:Txt K mg t):FnOk P w K mg base CX0 1 t.a_Q4 t.d_Q4 ["word"] (spD ⟨t.c,K⟩ 1 UT):=by
 refine Yx (φ:=Zk6) T.p_Q4.f ZlE (by conv=>lhs;whnf) (by conv=>lhs;whnf) (λcdv A outer s H E hr => ?_) rfl rfl;refine⟨_,(Zw (ZE (V6 (Xu QP (ZZ (Yi (K:=K)) (by rfl) T.n_len boot_len (Zf (pv 0) Zj)) Zm (ZK _)) (U2 (ZZ (ZiA (K:=K)) (by rfl) T.n_all boot_all (Zf (VY (by rfl) (CompSd.mk1 (tn:=["sign"]) (cn:=[]) (js:=[]) (osc:=defScope Jo) (oN:=["word"]) (by rfl) (by rfl) (by rfl) (by decide +kernel)) (XO (K:=K) (pv 0)) (λC s₂ H₂ fp=>Yy (i:=0) nd0) (λC s₂ H₂ fp=>X6) (λC s₂ H₂ fp=>(Xu (J4 (K:=K)) (pv 0) (QL (by rfl) T.g_MARK_SIGNS T.r_MARK_SIGNS) (by rfl)))) Zj)))))),[],?_⟩
 unfold Zk6;exact(ZF (Ub (Zi Y9 (ZQ Z6 (Zd (Zc 0) Zh)) (Ze (d:=(.int 0)) (by rfl) (by rfl))) (ZQ Zgy (Zd (VF.cl (XT (by rfl) (XS (Zc 0)) (YG 0) Va (Zi Qc (Zc 0) (Ze (d:=.str cs_MARK_SIGNS) (by rfl) (by rfl))))) Zh))))
theorem ZiR(T:Txt K mg t):FnOk P w K mg base CX0 2 t.a_QU t.d_QU ["word", "places"] (spD ⟨t.c,K⟩ 2 Je):=by
 have G_QT:=(Zhl (P:=P) (w:=w) (base:=base) T).mono (k:=1) (by decide);refine Yx (φ:=Zk7) T.p_QU.f ZlF (by conv=>lhs;whnf) (by conv=>lhs;whnf) (λcdv A outer s H E hr => ?_) rfl rfl;refine⟨_,(Zs (ZO (i:=2) nd7 (by rfl) (by first|exact Or.inl rfl|exact Or.inr rfl) (ZG (G_QT) hr (by rfl) T.p_QT.g T.p_QT.k T.p_QT.b .nil ZM (Zf (pv 0) (Zf Zm Zj))))
 (Zw (ZE (Uz (PW.pt (Uy (VH (Zeq (pv 2))) (U1 (ZS V8 (pv 2) (pv 1) (ZK _))))) (pv 2) Xe)))),[],?_⟩
 unfold Zk7;exact(Zr (show VS _ _ [] _ _ _ _ from(ZN 2 (Zy [] (by rfl) (Zd (Zc 0) (Zd (Ze (d:=(.int 6)) (by rfl) (by rfl)) Zh)))))
 (ZF (UE (QX (Xc (Zez (Zc 2))) (ZP (Zi Y9 (Zc 2) (Zc 1)))) (Zc 2) (Ze (d:=.non) (by rfl) (by rfl)))))
theorem Zl9(T:Txt K mg t):FnOk P w K mg base CX0 2 t.a_Q1 t.d_Q1 ["row"] (spD ⟨t.c,K⟩ 1 Qy):=by
 have G_QT:=(Zhl (P:=P) (w:=w) (base:=base) T).mono (k:=1) (by decide);have G_QE:=(Ju (P:=P) (w:=w) (base:=base) T).mono (k:=1) (by decide);refine Yx (φ:=Zj2) T.p_Q1.f ZlG (by conv=>lhs;whnf) (by conv=>lhs;whnf) (λcdv A outer s H E hr => ?_) rfl rfl;refine⟨_,(Zs (ZO (i:=1) nd8 (by rfl) (by first|exact Or.inl rfl|exact Or.inr rfl) (ZG (G_QE) hr (by rfl) T.p_QE.g T.p_QE.k T.p_QE.b .nil ZM (Zf (pv 0) (Zf (Zu [116,97,98,108,101] (by decide +kernel)) (Zf Zm Zj)))))
 (Zs (Yg (VH (Ux (pv 1))) (Zw (ZE Xe)) Ye)
 (Zs (Zcz (i:=2) nd8 (by rfl) (by rfl) (by rfl) (CompSd.mk1 (tn:=["word"]) (cn:=[]) (js:=[]) (osc:=defScope Jp) (oN:=["row", "words", "numbers"]) (by rfl) (by rfl) (by rfl) (by decide +kernel)) (XO (K:=K) (pv 1)) (λC s₂ H₂ fp=>Yy (i:=0) nd9) (λC s₂ H₂ fp=>X6) (λC s₂ H₂ fp=>(ZG (G_QT) hr (by rfl) T.p_QT.g T.p_QT.k T.p_QT.b .nil ZM (Zf (pv 0) (Zf Zm Zj)))))
 (Zs (Yg (PW.pt (Xf (ZS (J4 (K:=K)) Xe (pv 2) (by rfl)) (X3 (ZS (J4 (K:=K)) Zm (JU (Zf (ZC (ZD (K:=K)) (pv 2) Zm (λ_ _=>rfl)) (Zf (ZC (ZD (K:=K)) (pv 2) Zm (λ_ _=>rfl)) (Zf (ZC (ZD (K:=K)) (pv 2) Zm (λ_ _=>rfl)) Zj)))) (by rfl))))) (Zw (ZE Xe)) Ye)
 (Zw (ZE (pv 2))))))),[],?_⟩
 unfold Zj2;exact(Zr (show VS _ _ [] _ _ _ _ from(ZN 1 (Zy [] (by rfl) (Zd (Zc 0) (Zd (Ze (d:=(.str [116,97,98,108,101])) (by rfl) (by rfl)) (Zd (Ze (d:=(.int 4)) (by rfl) (by rfl)) Zh))))))
 (Zr (Z9 (Xc (VP (Zc 1))) (ZF (Ze (d:=.non) (by rfl) (by rfl))) Z8)
 (Zr (show VS _ _ [] _ _ _ _ from(ZN 2 (VF.cl (XT (by rfl) (XS (Zc 1)) (YG 0) Va (Zy [] (by rfl) (Zd (Zc 0) (Zd (Ze (d:=(.int 6)) (by rfl) (by rfl)) Zh)))))))
 (Zr (Z9 (Xi (ZP (Zi Qc (Ze (d:=.non) (by rfl) (by rfl)) (Zc 2))) (ZP (Zi Qc (Ze (d:=(.int 0)) (by rfl) (by rfl)) (Zd8 (Zd (Zi Zv (Zc 2) (Ze (d:=(.int 0)) (by rfl) (by rfl))) (Zd (Zi Zv (Zc 2) (Ze (d:=(.int 1)) (by rfl) (by rfl))) (Zd (Zi Zv (Zc 2) (Ze (d:=(.int 3)) (by rfl) (by rfl))) Zh))))))) (ZF (Ze (d:=.non) (by rfl) (by rfl))) Z8)
 (ZF (Zc 2))))))
theorem Zma(T:Txt K mg t):FnOk P w K mg base CX0 2 t.a_QZ t.d_QZ ["row"] (spD ⟨t.c,K⟩ 1 Qz):=by
 have G_Q4:=(ZiQ (P:=P) (w:=w) (base:=base) T).mono (k:=1) (by decide);have G_QE:=(Ju (P:=P) (w:=w) (base:=base) T).mono (k:=1) (by decide);refine Yx (φ:=Zj3) T.p_QZ.f ZlH (by conv=>lhs;whnf) (by conv=>lhs;whnf) (λcdv A outer s H E hr => ?_) rfl rfl;refine⟨_,(Zs (Yg (ZS (Yv (cA:=⟨t.c,K⟩) (hr.units)) (pv 0) (Zu [108,101,97,100] (by decide +kernel)) (ZK _)) (Zw (ZE (Zu [] (by decide +kernel)))) Ye)
 (Zs (ZO (i:=1) ZmU (by rfl) (by first|exact Or.inl rfl|exact Or.inr rfl) (ZG (G_QE) hr (by rfl) T.p_QE.g T.p_QE.k T.p_QE.b .nil ZM (Zf (pv 0) (Zf (Zu [108,101,97,100] (by decide +kernel)) (Zf Zm Zj)))))
 (Zw (ZE (Uz (PW.pt (Uy (VH (Zeq (pv 1))) (U1 (V5 (ZG (G_Q4) hr (by rfl) T.p_Q4.g T.p_Q4.k T.p_Q4.b .nil ZM (Zf (ZC (ZD (K:=K)) (pv 1) Zm (λ_ _=>rfl)) Zj)))))) (ZC (ZD (K:=K)) (pv 1) Zm (λ_ _=>rfl)) Xe))))),[],?_⟩
 unfold Zj3;exact(Zr (Z9 (ZP (Zi Yw (Zc 0) (Ze (d:=(.str [108,101,97,100])) (by rfl) (by rfl)))) (ZF (Ze (d:=(.str [])) (by rfl) (by rfl))) Z8)
 (Zr (show VS _ _ [] _ _ _ _ from(ZN 1 (Zy [] (by rfl) (Zd (Zc 0) (Zd (Ze (d:=(.str [108,101,97,100])) (by rfl) (by rfl)) (Zd (Ze (d:=(.int 1)) (by rfl) (by rfl)) Zh))))))
 (ZF (UE (QX (Xc (Zez (Zc 1))) (Xc (Zy [] (by rfl) (Zd (Zi Zv (Zc 1) (Ze (d:=(.int 0)) (by rfl) (by rfl))) Zh)))) (Zi Zv (Zc 1) (Ze (d:=(.int 0)) (by rfl) (by rfl))) (Ze (d:=.non) (by rfl) (by rfl))))))
theorem Zmb(T:Txt K mg t):FnOk P w K mg base CX0 3 t.a_QW t.d_QW ["row", "places"] (spD ⟨t.c,K⟩ 2 QA):=by
 have G_QU:=(ZiR (P:=P) (w:=w) (base:=base) T).mono (k:=2) (by decide);have G_QE:=(Ju (P:=P) (w:=w) (base:=base) T).mono (k:=2) (by decide);refine Yx (φ:=Zk8) T.p_QW.f ZlI (by conv=>lhs;whnf) (by conv=>lhs;whnf) (λcdv A outer s H E hr => ?_) rfl rfl;refine⟨_,(Zs (ZO (i:=2) Znd (by rfl) (by first|exact Or.inl rfl|exact Or.inr rfl) (ZG (G_QE) hr (by rfl) T.p_QE.g T.p_QE.k T.p_QE.b .nil ZM (Zf (pv 0) (Zf (Zu [102,105,114,115,116] (by decide +kernel)) (Zf Zm Zj)))))
 (Zw (ZE (Uz (VH (Ux (pv 2))) Xe (ZG (G_QU) hr (by rfl) T.p_QU.g T.p_QU.k T.p_QU.b .nil ZM (Zf (ZC (ZD (K:=K)) (pv 2) Zm (λ_ _=>rfl)) (Zf (pv 1) Zj))))))),[],?_⟩
 unfold Zk8;exact(Zr (show VS _ _ [] _ _ _ _ from(ZN 2 (Zy [] (by rfl) (Zd (Zc 0) (Zd (Ze (d:=(.str [102,105,114,115,116])) (by rfl) (by rfl)) (Zd (Ze (d:=(.int 1)) (by rfl) (by rfl)) Zh))))))
 (ZF (UE (Xc (VP (Zc 2))) (Ze (d:=.non) (by rfl) (by rfl)) (Zy [] (by rfl) (Zd (Zi Zv (Zc 2) (Ze (d:=(.int 0)) (by rfl) (by rfl))) (Zd (Zc 1) Zh))))))
theorem Zmc(T:Txt K mg t):FnOk P w K mg base CX0 2 t.a_Q0 t.d_Q0 ["row"] (spD ⟨t.c,K⟩ 1 Ur):=by
 have G_QT:=(Zhl (P:=P) (w:=w) (base:=base) T).mono (k:=1) (by decide);have G_QE:=(Ju (P:=P) (w:=w) (base:=base) T).mono (k:=1) (by decide);refine Yx (φ:=Zk9) T.p_Q0.f ZlJ (by conv=>lhs;whnf) (by conv=>lhs;whnf) (λcdv A outer s H E hr => ?_) rfl rfl;refine⟨_,(Zs (ZO (i:=1) ZmU (by rfl) (by first|exact Or.inl rfl|exact Or.inr rfl) (ZG (G_QE) hr (by rfl) T.p_QE.g T.p_QE.k T.p_QE.b .nil ZM (Zf (pv 0) (Zf (Zu [112,108,97,99,101] (by decide +kernel)) (Zf Zm Zj)))))
 (Zw (ZE (Uz (VH (Ux (pv 1))) Xe (ZG (G_QT) hr (by rfl) T.p_QT.g T.p_QT.k T.p_QT.b .nil ZM (Zf (ZC (ZD (K:=K)) (pv 1) Zm (λ_ _=>rfl)) (Zf Zm Zj))))))),[],?_⟩
 unfold Zk9;exact(Zr (show VS _ _ [] _ _ _ _ from(ZN 1 (Zy [] (by rfl) (Zd (Zc 0) (Zd (Ze (d:=(.str [112,108,97,99,101])) (by rfl) (by rfl)) (Zd (Ze (d:=(.int 1)) (by rfl) (by rfl)) Zh))))))
 (ZF (UE (Xc (VP (Zc 1))) (Ze (d:=.non) (by rfl) (by rfl)) (Zy [] (by rfl) (Zd (Zi Zv (Zc 1) (Ze (d:=(.int 0)) (by rfl) (by rfl))) (Zd (Ze (d:=(.int 6)) (by rfl) (by rfl)) Zh))))))
theorem Zmd(T:Txt K mg t):FnOk P w K mg base CX0 3 t.a_Q3 t.d_Q3 ["row", "length", "places"] (spD ⟨t.c,K⟩ 3 UU):=by
 have G_Q4:=(ZiQ (P:=P) (w:=w) (base:=base) T).mono (k:=2) (by decide);have G_QU:=(ZiR (P:=P) (w:=w) (base:=base) T).mono (k:=2) (by decide);have G_QE:=(Ju (P:=P) (w:=w) (base:=base) T).mono (k:=2) (by decide);refine Yx (φ:=Zj4) T.p_Q3.f ZlK (by conv=>lhs;whnf) (by conv=>lhs;whnf) (λcdv A outer s H E hr => ?_) rfl rfl;refine⟨_,(Zs (ZO (i:=3) ZmV (by rfl) (by first|exact Or.inl rfl|exact Or.inr rfl) (ZG (G_QE) hr (by rfl) T.p_QE.g T.p_QE.k T.p_QE.b .nil ZM (Zf (pv 0) (Zf (Zu [119,97,121] (by decide +kernel)) (Zf Zm Zj)))))
 (Zs (Yg (PW.pt (Xf (VH (Ux (pv 3))) (Xf (ZS (X8 (cA:=⟨t.c,K⟩) (hr.units)) (ZZ (Yi (K:=K)) (by rfl) T.n_len boot_len (Zf (ZC (ZD (K:=K)) (pv 3) Zm (λ_ _=>rfl)) Zj)) (pv 1) (ZK _)) (X3 (QM (V5 (ZG (G_Q4) hr (by rfl) T.p_Q4.g T.p_Q4.k T.p_Q4.b .nil ZM (Zf (ZC (ZD (K:=K)) (pv 3) Zm (λ_ _=>rfl)) Zj)))))))) (Zw (ZE Xe)) Ye)
 (Zs (ZO (i:=4) ZmV (by rfl) (by first|exact Or.inl rfl|exact Or.inr rfl) (ZG (G_QU) hr (by rfl) T.p_QU.g T.p_QU.k T.p_QU.b .nil ZM (Zf (ZC (ZD (K:=K)) (pv 3) Zm (λ_ _=>rfl)) (Zf (pv 2) Zj))))
 (Zw (ZE (Uz (VH (Ux (pv 4))) Xe (JU (Zf (ZC (ZD (K:=K)) (pv 3) Zm (λ_ _=>rfl)) (Zf (pv 4) Zj))))))))),[],?_⟩
 unfold Zj4;exact(Zr (show VS _ _ [] _ _ _ _ from(ZN 3 (Zy [] (by rfl) (Zd (Zc 0) (Zd (Ze (d:=(.str [119,97,121])) (by rfl) (by rfl)) (Zd (Ze (d:=(.int 2)) (by rfl) (by rfl)) Zh))))))
 (Zr (Z9 (Xi (Xc (VP (Zc 3))) (Xi (ZP (Zi X9 (ZQ Z6 (Zd (Zi Zv (Zc 3) (Ze (d:=(.int 0)) (by rfl) (by rfl))) Zh)) (Zc 1))) (J9 (Xc (Zy [] (by rfl) (Zd (Zi Zv (Zc 3) (Ze (d:=(.int 0)) (by rfl) (by rfl))) Zh)))))) (ZF (Ze (d:=.non) (by rfl) (by rfl))) Z8)
 (Zr (show VS _ _ [] _ _ _ _ from(ZN 4 (Zy [] (by rfl) (Zd (Zi Zv (Zc 3) (Ze (d:=(.int 1)) (by rfl) (by rfl))) (Zd (Zc 2) Zh)))))
 (ZF (UE (Xc (VP (Zc 4))) (Ze (d:=.non) (by rfl) (by rfl)) (Zd8 (Zd (Zi Zv (Zc 3) (Ze (d:=(.int 0)) (by rfl) (by rfl))) (Zd (Zc 4) Zh))))))))
theorem ZiS(T:Txt K mg t):FnOk P w K mg base CX0 1 t.a_QG t.d_QG ["rows", "number"] (spD ⟨t.c,K⟩ 2 YM):=by
 refine Yx (φ:=Zla) T.p_QG.f ZlL (by conv=>lhs;whnf) (by conv=>lhs;whnf) (λcdv A outer s H E hr => ?_) rfl rfl;refine⟨_,(Zw (ZE (Uz (ZS Zg7 (pv 1) (ZZ (Yi (K:=K)) (by rfl) T.n_len boot_len (Zf (pv 0) Zj)) (ZK _)) (ZC (ZD (K:=K)) (pv 0) (ZB Zgm (pv 1) Zm) (λ_ _=>rfl)) (Zu [] (by decide +kernel))))),[],?_⟩;unfold Zla;exact(ZF (UE (ZP (Zi Y9 (Zc 1) (ZQ Z6 (Zd (Zc 0) Zh)))) (Zi Zv (Zc 0) (Zi Zgw (Zc 1) (Ze (d:=(.int 1)) (by rfl) (by rfl)))) (Ze (d:=(.str [])) (by rfl) (by rfl))))
theorem ZiT(T:Txt K mg t):FnOk P w K mg base (CXd P w) 3 t.a_Q2 t.d_Q2 ["number", "said"] (spX ⟨t.c,K⟩ 2 YK Y8):=by
 have GI_BadTable_init:FnOk P w K mg base CX0 1 t.a_QB t.d_QB ["self", "row"] (spJ t.c_BadTable (Str.ofString "row")):=(ZiP T).mono (by decide);refine Zhg (φ:=Zlb) (χ:=Zlc) T.p_Q2.f ZlM (by conv=>lhs;whnf) (by conv=>lhs;whnf) (λcdv A outer s H E hr => ?_) rfl rfl rfl;refine⟨_,(Zs (Yg (VH (Ux (pv 1))) (Zw (ZbY T.xi_BadTable GI_BadTable_init hr (by rfl) T.g_BadTable T.p_QB.b Zar (Zf (pv 0) Zj))) Ye)
 (Zw (ZE (pv 1)))),[],?_,?_⟩
 · unfold Zlb
   exact(Zr (Z9 (Xc (VP (Zc 1))) ZaD Z8)
 (ZF (Zc 1)))
 · unfold Zlc
   exact(Xl (owB:=[]) (owC:=[]) (ZiJ (Xc (VP (Zc 1))) (Zdh "BadTable" (by rfl) (Zd (Zc 0) Zh)) Ve) (Z9 (Xc (VP (Zc 1))) ZaD Z8)
 Ve)
theorem Zme(T:Txt K mg t):FnOk P w K mg base (CXd P w) 4 t.a_QY t.d_QY ["rows", "number", "head"] (spX ⟨t.c,K⟩ 3 Us Vf):=by
 have G_QG:=(ZiS (P:=P) (w:=w) (base:=base) T).mono (k:=3) (by decide);have G_Q2:FnOk P w K mg base (CXd P w) 3 t.a_Q2 t.d_Q2 ["number", "said"] (spX ⟨t.c,K⟩ 2 YK Y8):=(ZiT T).mono (by decide);have G_Q3:=(Zmd (P:=P) (w:=w) (base:=base) T).mono (k:=3) (by decide);refine Zhg (φ:=Zj5) (χ:=Jf) T.p_QY.f ZlN (by conv=>lhs;whnf) (by conv=>lhs;whnf) (λcdv A outer s H E hr => ?_) rfl rfl rfl
 refine⟨_,(Zs (ZO (i:=3) ZmW (by rfl) (by first|exact Or.inl rfl|exact Or.inr rfl) (YT Zj))
 (Zs (Vk PassesOwn.leaving (by rfl) (ZaK (by rfl) T.n_range (Zf (pv 1) (Zf (ZB (ZY (K:=K)) (pv 1) (ZC (ZD (K:=K)) (pv 2) Zm (λ_ _=>rfl))) Zj))) (Yy (i:=4) ZmW) (Zw (Xr (YE (K:=K) PySem.F.plainAttrs_list PySem.F.slot_list_append PySem.F.type_list_append X4 (pv 3) (Zf (ZG (G_Q2) hr (by rfl) T.p_Q2.g T.p_Q2.k T.p_Q2.b .nil Qr (Zf (pv 4) (Zf (ZG (G_Q3) hr (by rfl) T.p_Q3.g T.p_Q3.k T.p_Q3.b .nil ZM (Zf (ZG (G_QG) hr (by rfl) T.p_QG.g T.p_QG.k T.p_QG.b .nil ZM (Zf (pv 0) (Zf (pv 4) Zj))) (Zf (ZC (ZD (K:=K)) (pv 2) Zm (λ_ _=>rfl)) (Zf (ZC (ZD (K:=K)) (pv 2) Zm (λ_ _=>rfl)) Zj)))) Zj))) Zj)))))
 (Zw (ZE (pv 3))))),[],?_,?_⟩
 · unfold Zj5
   exact(Zr (show VS _ _ [3] _ _ _ _ from(Vo 3 (YF Zh)))
 (Zr (XR (QZ (Zd (Zc 1) (Zd (Zi ZV (Zc 1) (Zi Zv (Zc 2) (Ze (d:=(.int 0)) (by rfl) (by rfl)))) Zh)) Q0) (YG 4) (YV 3 (by rfl) (YY [] (by rfl) (Zd (Zc 4) (Zd (Zy [] (by rfl) (Zd (Zy [] (by rfl) (Zd (Zc 0) (Zd (Zc 4) Zh))) (Zd (Zi Zv (Zc 2) (Ze (d:=(.int 1)) (by rfl) (by rfl))) (Zd (Zi Zv (Zc 2) (Ze (d:=(.int 3)) (by rfl) (by rfl))) Zh)))) Zh)))))
 (VS.frz (ow1:=[]) 3 (ZF (Zc 3)))))
 · unfold Jf
   exact(Xl (owB:=[]) (owC:=[]) Ve (show VS _ _ [3] _ _ _ _ from(Vo 3 (YF Zh)))
 (Xl (owB:=[]) (owC:=[]) (ZgG (QZ (Zd (Zc 1) (Zd (Zi ZV (Zc 1) (Zi Zv (Zc 2) (Ze (d:=(.int 0)) (by rfl) (by rfl)))) Zh)) Q0) (YG 4) (YV 3 (by rfl) (YY [] (by rfl) (Zd (Zc 4) (Zd (Zy [] (by rfl) (Zd (Zy [] (by rfl) (Zd (Zc 0) (Zd (Zc 4) Zh))) (Zd (Zi Zv (Zc 2) (Ze (d:=(.int 1)) (by rfl) (by rfl))) (Zd (Zi Zv (Zc 2) (Ze (d:=(.int 3)) (by rfl) (by rfl))) Zh)))) Zh)))) (VXs.vx (Zcy 3 (by rfl) (UK [] (by rfl) (Zd (Zc 4) (Zd (Zy [] (by rfl) (Zd (Zy [] (by rfl) (Zd (Zc 0) (Zd (Zc 4) Zh))) (Zd (Zi Zv (Zc 2) (Ze (d:=(.int 1)) (by rfl) (by rfl))) (Zd (Zi Zv (Zc 2) (Ze (d:=(.int 3)) (by rfl) (by rfl))) Zh)))) Zh)))))) (XR (QZ (Zd (Zc 1) (Zd (Zi ZV (Zc 1) (Zi Zv (Zc 2) (Ze (d:=(.int 0)) (by rfl) (by rfl)))) Zh)) Q0) (YG 4) (YV 3 (by rfl) (YY [] (by rfl) (Zd (Zc 4) (Zd (Zy [] (by rfl) (Zd (Zy [] (by rfl) (Zd (Zc 0) (Zd (Zc 4) Zh))) (Zd (Zi Zv (Zc 2) (Ze (d:=(.int 1)) (by rfl) (by rfl))) (Zd (Zi Zv (Zc 2) (Ze (d:=(.int 3)) (by rfl) (by rfl))) Zh)))) Zh)))))
 Ve))
theorem ZiU(T:Txt K mg t):FnOk P w K mg base (CXd P w) 5 t.a_QN t.d_QN ["text"] (spX ⟨t.c,K⟩ 1 V1 Vg):=by
 have GM_QL:=(Zl4 (P:=P) (w:=w) (base:=base) T).mono (k:=3) (by decide);have GI_BadTable_init:FnOk P w K mg base CX0 3 t.a_QB t.d_QB ["self", "row"] (spJ t.c_BadTable (Str.ofString "row")):=(ZiP T).mono (by decide);have G_QW:=(Zmb (P:=P) (w:=w) (base:=base) T).mono (k:=4) (by decide);have G_Q1:=(Zl9 (P:=P) (w:=w) (base:=base) T).mono (k:=4) (by decide);have G_Q0:=(Zmc (P:=P) (w:=w) (base:=base) T).mono (k:=4) (by decide)
 have G_QZ:=(Zma (P:=P) (w:=w) (base:=base) T).mono (k:=4) (by decide);have G_QG:=(ZiS (P:=P) (w:=w) (base:=base) T).mono (k:=4) (by decide);have G_Q2:FnOk P w K mg base (CXd P w) 4 t.a_Q2 t.d_Q2 ["number", "said"] (spX ⟨t.c,K⟩ 2 YK Y8):=(ZiT T).mono (by decide);have G_QY:FnOk P w K mg base (CXd P w) 4 t.a_QY t.d_QY ["rows", "number", "head"] (spX ⟨t.c,K⟩ 3 Us Vf):=(Zme T).mono (by decide)
 refine Zhg (φ:=Jg) (χ:=Jh) T.p_QN.f ZlO (by conv=>lhs;whnf) (by conv=>lhs;whnf) (λcdv A outer s H E hr => ?_) rfl rfl rfl;refine⟨_,(Zs (ZO (i:=1) V3 (by rfl) (by first|exact Or.inl rfl|exact Or.inr rfl) (YE (K:=K) PySem.F.plainAttrs_str PySem.F.slot_str_split PySem.F.type_str_split Q4 (pv 0) (Zf (Zu [10] (by decide +kernel)) Zj)))
 (Zs (ZO (i:=2) V3 (by rfl) (by first|exact Or.inl rfl|exact Or.inr rfl) (ZG (G_Q2) hr (by rfl) T.p_Q2.g T.p_Q2.k T.p_Q2.b .nil Qr (Zf Zm (Zf (ZG (G_Q1) hr (by rfl) T.p_Q1.g T.p_Q1.k T.p_Q1.b .nil ZM (Zf (ZC (ZD (K:=K)) (pv 1) Zm (λ_ _=>rfl)) Zj)) Zj))))
 (Zs (ZO (i:=3) V3 (by rfl) (by first|exact Or.inl rfl|exact Or.inr rfl) (ZG (G_Q2) hr (by rfl) T.p_Q2.g T.p_Q2.k T.p_Q2.b .nil Qr (Zf Zm (Zf (ZG (G_QZ) hr (by rfl) T.p_QZ.g T.p_QZ.k T.p_QZ.b .nil ZM (Zf (ZG (G_QG) hr (by rfl) T.p_QG.g T.p_QG.k T.p_QG.b .nil ZM (Zf (pv 1) (Zf Zm Zj))) Zj)) Zj))))
 (Zs (ZO (i:=4) V3 (by rfl) (by first|exact Or.inl rfl|exact Or.inr rfl) (ZG (G_Q2) hr (by rfl) T.p_Q2.g T.p_Q2.k T.p_Q2.b .nil Qr (Zf Zm (Zf (ZG (G_QW) hr (by rfl) T.p_QW.g T.p_QW.k T.p_QW.b .nil ZM (Zf (ZG (G_QG) hr (by rfl) T.p_QG.g T.p_QG.k T.p_QG.b .nil ZM (Zf (pv 1) (Zf Zm Zj))) (Zf (ZC (ZD (K:=K)) (pv 2) Zm (λ_ _=>rfl)) Zj))) Zj))))
 (Zs (ZO (i:=5) V3 (by rfl) (by first|exact Or.inl rfl|exact Or.inr rfl) (YT Zj))
 (Zs (ZO (i:=6) V3 (by rfl) (by first|exact Or.inl rfl|exact Or.inr rfl) (YT Zj))
 (Zs (ZO (i:=7) V3 (by rfl) (by first|exact Or.inl rfl|exact Or.inr rfl) Zm)
 (Zs (Vk PassesOwn.leaving (by rfl) (U4 (by rfl) T.n_range (Zf (ZC (ZD (K:=K)) (pv 2) Zm (λ_ _=>rfl)) Zj)) (Yy (i:=8) V3) (Zs (Xr (YE (K:=K) PySem.F.plainAttrs_list PySem.F.slot_list_append PySem.F.type_list_append X4 (pv 5) (Zf (ZG (G_Q2) hr (by rfl) T.p_Q2.g T.p_Q2.k T.p_Q2.b .nil Qr (Zf (pv 7) (Zf (ZG (G_Q0) hr (by rfl) T.p_Q0.g T.p_Q0.k T.p_Q0.b .nil ZM (Zf (ZG (G_QG) hr (by rfl) T.p_QG.g T.p_QG.k T.p_QG.b .nil ZM (Zf (pv 1) (Zf (pv 7) Zj))) Zj)) Zj))) Zj)))
 (Zs (Xr (YE (K:=K) PySem.F.plainAttrs_list PySem.F.slot_list_append PySem.F.type_list_append X4 (pv 6) (Zf (ZG (G_QY) hr (by rfl) T.p_QY.g T.p_QY.k T.p_QY.b .nil Qr (Zf (pv 1) (Zf (ZB (ZY (K:=K)) (pv 7) Zm) (Zf (pv 2) Zj)))) Zj)))
 (Zw (ZO (i:=7) V3 (by rfl) (by first|exact Or.inl rfl|exact Or.inr rfl) (ZB (ZY (K:=K)) (ZB (ZY (K:=K)) (pv 7) Zm) (ZC (ZD (K:=K)) (pv 2) Zm (λ_ _=>rfl))))))))
 (Zs (Yg (ZS Zg8 (ZZ (Yi (K:=K)) (by rfl) T.n_len boot_len (Zf (pv 1) Zj)) (pv 7) (ZK _)) (Zw (ZbY T.xi_BadTable GI_BadTable_init hr (by rfl) T.g_BadTable T.p_QB.b Zar (Zf (pv 7) Zj))) Ye)
 (Zw (ZE (Zhr T.mk_Table (GM_QL) hr (by rfl) T.g_Table T.p_QL.b .nil ZM (Zf (pv 3) (Zf (pv 4) (Zf (ZC (ZD (K:=K)) (pv 2) Zm (λ_ _=>rfl)) (Zf (pv 5) (Zf (pv 6) Zj))))))))))))))))),[],?_,?_⟩
 · unfold Jg
   exact(Zr (show VS _ _ [] _ _ _ _ from(ZN 1 (XA Qk (Zc 0) (Zd (Ze (d:=(.str [10])) (by rfl) (by rfl)) Zh))))
 (Zr (show VS _ _ [] _ _ _ _ from(ZN 2 (YY [] (by rfl) (Zd (Ze (d:=(.int 1)) (by rfl) (by rfl)) (Zd (Zy [] (by rfl) (Zd (Zi Zv (Zc 1) (Ze (d:=(.int 0)) (by rfl) (by rfl))) Zh)) Zh)))))
 (Zr (show VS _ _ [] _ _ _ _ from(ZN 3 (YY [] (by rfl) (Zd (Ze (d:=(.int 2)) (by rfl) (by rfl)) (Zd (Zy [] (by rfl) (Zd (Zy [] (by rfl) (Zd (Zc 1) (Zd (Ze (d:=(.int 2)) (by rfl) (by rfl)) Zh))) Zh)) Zh)))))
 (Zr (show VS _ _ [] _ _ _ _ from(ZN 4 (YY [] (by rfl) (Zd (Ze (d:=(.int 3)) (by rfl) (by rfl)) (Zd (Zy [] (by rfl) (Zd (Zy [] (by rfl) (Zd (Zc 1) (Zd (Ze (d:=(.int 3)) (by rfl) (by rfl)) Zh))) (Zd (Zi Zv (Zc 2) (Ze (d:=(.int 3)) (by rfl) (by rfl))) Zh))) Zh)))))
 (Zr (show VS _ _ [5] _ _ _ _ from(Vo 5 (YF Zh)))
 (Zr (show VS _ _ [5,6] _ _ _ _ from(Vo 6 (YF Zh)))
 (Zr (show VS _ _ [5,6] _ _ _ _ from(ZN 7 (Ze (d:=(.int 4)) (by rfl) (by rfl))))
 (Zr (XR (Uf (Zd (Zi Zv (Zc 2) (Ze (d:=(.int 3)) (by rfl) (by rfl))) Zh) VQ) (YG 8) (Zr (YV 5 (by rfl) (YY [] (by rfl) (Zd (Zc 7) (Zd (Zy [] (by rfl) (Zd (Zy [] (by rfl) (Zd (Zc 1) (Zd (Zc 7) Zh))) Zh)) Zh))))
 (Zr (YV 6 (by rfl) (YY [] (by rfl) (Zd (Zc 1) (Zd (Zi ZV (Zc 7) (Ze (d:=(.int 1)) (by rfl) (by rfl))) (Zd (Zc 2) Zh)))))
 (show VS _ _ [5,6] _ _ _ _ from(ZN 7 (Zi ZV (Zi ZV (Zc 7) (Ze (d:=(.int 1)) (by rfl) (by rfl))) (Zi Zv (Zc 2) (Ze (d:=(.int 0)) (by rfl) (by rfl)))))))))
 (VS.frz (ow1:=[5]) 6 (VS.frz (ow1:=[]) 5 (Zr (Z9 (ZP (Zi Y9 (ZQ Z6 (Zd (Zc 1) Zh)) (Zc 7))) ZaD Z8)
 (ZF (ZhB (c:="Table") [] (by rfl) (Zd (Zc 3) (Zd (Zc 4) (Zd (Zi Zv (Zc 2) (Ze (d:=(.int 2)) (by rfl) (by rfl))) (Zd (Zc 5) (Zd (Zc 6) Zh))))))))))))))))))
 · unfold Jh
   exact(Xl (owB:=[]) (owC:=[]) Ve (show VS _ _ [] _ _ _ _ from(ZN 1 (XA Qk (Zc 0) (Zd (Ze (d:=(.str [10])) (by rfl) (by rfl)) Zh))))
 (Xl (owB:=[]) (owC:=[]) (VXs.vx (Zcv (UK [] (by rfl) (Zd (Ze (d:=(.int 1)) (by rfl) (by rfl)) (Zd (Zy [] (by rfl) (Zd (Zi Zv (Zc 1) (Ze (d:=(.int 0)) (by rfl) (by rfl))) Zh)) Zh))))) (show VS _ _ [] _ _ _ _ from(ZN 2 (YY [] (by rfl) (Zd (Ze (d:=(.int 1)) (by rfl) (by rfl)) (Zd (Zy [] (by rfl) (Zd (Zi Zv (Zc 1) (Ze (d:=(.int 0)) (by rfl) (by rfl))) Zh)) Zh)))))
 (Xl (owB:=[]) (owC:=[]) (VXs.vx (Zcv (UK [] (by rfl) (Zd (Ze (d:=(.int 2)) (by rfl) (by rfl)) (Zd (Zy [] (by rfl) (Zd (Zy [] (by rfl) (Zd (Zc 1) (Zd (Ze (d:=(.int 2)) (by rfl) (by rfl)) Zh))) Zh)) Zh))))) (show VS _ _ [] _ _ _ _ from(ZN 3 (YY [] (by rfl) (Zd (Ze (d:=(.int 2)) (by rfl) (by rfl)) (Zd (Zy [] (by rfl) (Zd (Zy [] (by rfl) (Zd (Zc 1) (Zd (Ze (d:=(.int 2)) (by rfl) (by rfl)) Zh))) Zh)) Zh)))))
 (Xl (owB:=[]) (owC:=[]) (VXs.vx (Zcv (UK [] (by rfl) (Zd (Ze (d:=(.int 3)) (by rfl) (by rfl)) (Zd (Zy [] (by rfl) (Zd (Zy [] (by rfl) (Zd (Zc 1) (Zd (Ze (d:=(.int 3)) (by rfl) (by rfl)) Zh))) (Zd (Zi Zv (Zc 2) (Ze (d:=(.int 3)) (by rfl) (by rfl))) Zh))) Zh))))) (show VS _ _ [] _ _ _ _ from(ZN 4 (YY [] (by rfl) (Zd (Ze (d:=(.int 3)) (by rfl) (by rfl)) (Zd (Zy [] (by rfl) (Zd (Zy [] (by rfl) (Zd (Zc 1) (Zd (Ze (d:=(.int 3)) (by rfl) (by rfl)) Zh))) (Zd (Zi Zv (Zc 2) (Ze (d:=(.int 3)) (by rfl) (by rfl))) Zh))) Zh)))))
 (Xl (owB:=[]) (owC:=[]) Ve (show VS _ _ [5] _ _ _ _ from(Vo 5 (YF Zh)))
 (Xl (owB:=[]) (owC:=[]) Ve (show VS _ _ [5,6] _ _ _ _ from(Vo 6 (YF Zh)))
 (Xl (owB:=[]) (owC:=[]) Ve (show VS _ _ [5,6] _ _ _ _ from(ZN 7 (Ze (d:=(.int 4)) (by rfl) (by rfl))))
 (Xl (owB:=[]) (owC:=[]) (ZgG (Uf (Zd (Zi Zv (Zc 2) (Ze (d:=(.int 3)) (by rfl) (by rfl))) Zh) VQ) (YG 8) (Zr (YV 5 (by rfl) (YY [] (by rfl) (Zd (Zc 7) (Zd (Zy [] (by rfl) (Zd (Zy [] (by rfl) (Zd (Zc 1) (Zd (Zc 7) Zh))) Zh)) Zh))))
 (Zr (YV 6 (by rfl) (YY [] (by rfl) (Zd (Zc 1) (Zd (Zi ZV (Zc 7) (Ze (d:=(.int 1)) (by rfl) (by rfl))) (Zd (Zc 2) Zh)))))
 (show VS _ _ [5,6] _ _ _ _ from(ZN 7 (Zi ZV (Zi ZV (Zc 7) (Ze (d:=(.int 1)) (by rfl) (by rfl))) (Zi Zv (Zc 2) (Ze (d:=(.int 0)) (by rfl) (by rfl)))))))) (Xl (owB:=[]) (owC:=[]) (VXs.vx (Zcy 5 (by rfl) (UK [] (by rfl) (Zd (Zc 7) (Zd (Zy [] (by rfl) (Zd (Zy [] (by rfl) (Zd (Zc 1) (Zd (Zc 7) Zh))) Zh)) Zh))))) (YV 5 (by rfl) (YY [] (by rfl) (Zd (Zc 7) (Zd (Zy [] (by rfl) (Zd (Zy [] (by rfl) (Zd (Zc 1) (Zd (Zc 7) Zh))) Zh)) Zh))))
 (Xl (owB:=[]) (owC:=[]) (VXs.vx (Zcy 6 (by rfl) (UK [] (by rfl) (Zd (Zc 1) (Zd (Zi ZV (Zc 7) (Ze (d:=(.int 1)) (by rfl) (by rfl))) (Zd (Zc 2) Zh)))))) (YV 6 (by rfl) (YY [] (by rfl) (Zd (Zc 1) (Zd (Zi ZV (Zc 7) (Ze (d:=(.int 1)) (by rfl) (by rfl))) (Zd (Zc 2) Zh)))))
 Ve))) (XR (Uf (Zd (Zi Zv (Zc 2) (Ze (d:=(.int 3)) (by rfl) (by rfl))) Zh) VQ) (YG 8) (Zr (YV 5 (by rfl) (YY [] (by rfl) (Zd (Zc 7) (Zd (Zy [] (by rfl) (Zd (Zy [] (by rfl) (Zd (Zc 1) (Zd (Zc 7) Zh))) Zh)) Zh))))
 (Zr (YV 6 (by rfl) (YY [] (by rfl) (Zd (Zc 1) (Zd (Zi ZV (Zc 7) (Ze (d:=(.int 1)) (by rfl) (by rfl))) (Zd (Zc 2) Zh)))))
 (show VS _ _ [5,6] _ _ _ _ from(ZN 7 (Zi ZV (Zi ZV (Zc 7) (Ze (d:=(.int 1)) (by rfl) (by rfl))) (Zi Zv (Zc 2) (Ze (d:=(.int 0)) (by rfl) (by rfl)))))))))
 (VX.frz (ow1:=[5]) 6 (VX.frz (ow1:=[]) 5 (Xl (owB:=[]) (owC:=[]) (ZiJ (ZP (Zi Y9 (ZQ Z6 (Zd (Zc 1) Zh)) (Zc 7))) (Zdh "BadTable" (by rfl) (Zd (Zc 7) Zh)) Ve) (Z9 (ZP (Zi Y9 (ZQ Z6 (Zd (Zc 1) Zh)) (Zc 7))) ZaD Z8)
 Ve) (by rfl) (by rfl) (by rfl) (by rfl)) (by rfl) (by rfl) (by rfl) (by rfl))))))))))
theorem ZiV(T:Txt K mg t):FnOk P w K mg base CX0 1 t.a_QF t.d_QF ["script", "k"] (spD ⟨t.c,K⟩ 2 YZ):=by
 refine Yx (φ:=Ji) T.p_QF.f ZlP (by conv=>lhs;whnf) (by conv=>lhs;whnf) (λcdv A outer s H E hr => ?_) rfl rfl;refine⟨_,(Zs (Yg (ZS V8 (pv 1) (ZZ (Yi (K:=K)) (by rfl) T.n_len boot_len (Zf (pv 0) Zj)) (ZK _)) (Zw (ZE (ZC (ZD (K:=K)) (pv 0) (pv 1) (λ_ _=>rfl)))) Ye)
 (Zw (ZE Zm))),[],?_⟩
 unfold Ji;exact(Zr (Z9 (ZP (Zi Y9 (Zc 1) (ZQ Z6 (Zd (Zc 0) Zh)))) (ZF (Zi Zv (Zc 0) (Zc 1))) Z8)
 (ZF (Ze (d:=(.int 0)) (by rfl) (by rfl))))
theorem Zmf(T:Txt K mg t):FnOk P w K mg base CX0 1 t.a_QC t.d_QC ["found"] (spD ⟨t.c,K⟩ 1 Zj6):=by
 refine Yx (φ:=Zld) T.p_QC.f ZlQ (by conv=>lhs;whnf) (by conv=>lhs;whnf) (λcdv A outer s H E hr => ?_) rfl rfl;refine⟨_,(Zw (ZE (V6 (ZZ (Zgz (K:=K)) (by rfl) T.n_isinstance boot_isinstance (Zf (pv 0) (Zf (Zcp (v:=.ty "int") (by rfl) T.n_int boot_int rfl) Zj))) (U2 (Zi9 (ZZ (Zgz (K:=K)) (by rfl) T.n_isinstance boot_isinstance (Zf (pv 0) (Zf (Zcp (v:=.ty "bool") (by rfl) T.n_bool boot_bool rfl) Zj)))))))),[],?_⟩
 unfold Zld;exact(ZF (Ub (ZgA (λ_ h=>h) T.isi_int (Zc 0)) (Zjm (ZgA (λ_ h=>h) T.isi_bool (Zc 0)))))
theorem Zmg(T:Txt K mg t):FnOk P w K mg base CX0 1 t.a_QR t.d_QR ["lead", "first", "ahead", "homes", "ways"] (spD ⟨t.c,K⟩ 5 Zj8):=by
 refine Yx (φ:=Zj7) T.p_QR.f ZlR (by conv=>lhs;whnf) (by conv=>lhs;whnf) (λcdv A outer s H E hr => ?_) rfl rfl;refine⟨_,(Zs (ZO (i:=5) Jt (by rfl) (by first|exact Or.inl rfl|exact Or.inr rfl) (YT (Zf (ZZ (Yi (K:=K)) (by rfl) T.n_len boot_len (Zf (ZC (ZD (K:=K)) (pv 4) Zm (λ_ _=>rfl)) Zj)) (Zf (ZZ (Yi (K:=K)) (by rfl) T.n_len boot_len (Zf (ZC (ZD (K:=K)) (ZC (ZD (K:=K)) (ZC (ZD (K:=K)) (pv 4) Zm (λ_ _=>rfl)) Zm (λ_ _=>rfl)) Zm (λ_ _=>rfl)) Zj)) (Zf (pv 2) (Zf (ZZ (Yi (K:=K)) (by rfl) T.n_len boot_len (Zf (pv 3) Zj)) Zj))))))
 (Zs (ZO (i:=6) Jt (by rfl) (by first|exact Or.inl rfl|exact Or.inr rfl) (YT (Zf (ZB (ZY (K:=K)) (Zu [116,97,98,108,101,32] (by decide +kernel)) (YE (K:=K) PySem.F.plainAttrs_str PySem.F.slot_str_join PySem.F.type_str_join (Qi (K:=K)) (Zu [32] (by decide +kernel)) (Zf (VY (by rfl) (CompSd.mk1 (tn:=["number"]) (cn:=[]) (js:=[]) (osc:=defScope Jq) (oN:=["lead", "first", "ahead", "homes", "ways", "head", "rows", "place", "block", "there"]) (by rfl) (by rfl) (by rfl) (by decide +kernel)) (XO (K:=K) (pv 5)) (λC s₂ H₂ fp=>Yy (i:=0) nd5) (λC s₂ H₂ fp=>X6) (λC s₂ H₂ fp=>(Xv Qa (by rfl) T.n_str boot_str (Zf (pv 0) Zj)))) Zj))) Zj)))
 (Zs (Xr (YE (K:=K) PySem.F.plainAttrs_list PySem.F.slot_list_append PySem.F.type_list_append X4 (pv 6) (Zf (Zlv (K:=K) PySem.F.plainAttrs_str PySem.F.slot_str_strip PySem.F.type_str_strip Zgc (ZB (ZY (K:=K)) (Zu [108,101,97,100,32] (by decide +kernel)) (pv 0))) Zj)))
 (Zs (Xr (YE (K:=K) PySem.F.plainAttrs_list PySem.F.slot_list_append PySem.F.type_list_append X4 (pv 6) (Zf (ZB (ZY (K:=K)) (Zu [102,105,114,115,116,32] (by decide +kernel)) (Xv Qa (by rfl) T.n_str boot_str (Zf (pv 1) Zj))) Zj)))
 (Zs ((Vk PassesOwn.never (by rfl) (U4 (by rfl) T.n_range (Zf (ZZ (Yi (K:=K)) (by rfl) T.n_len boot_len (Zf (pv 3) Zj)) Zj)) (Yy (i:=7) Jt) (Zs (Xr (YE (K:=K) PySem.F.plainAttrs_list PySem.F.slot_list_append PySem.F.type_list_append X4 (pv 6) (Zf (ZB (ZY (K:=K)) (Zu [112,108,97,99,101,32] (by decide +kernel)) (Xv Qa (by rfl) T.n_str boot_str (Zf (ZC (ZD (K:=K)) (pv 3) (pv 7) (λ_ _=>rfl)) Zj))) Zj)))
 (Zw ((Vk PassesOwn.never (by rfl) (XO (K:=K) (ZC (ZD (K:=K)) (pv 4) (pv 7) (λ_ _=>rfl))) (Zhd (K:=K) (n:=2) (U3 (Yy (i:=8) Jt) (U3 (Yy (i:=9) Jt) Zcq))) (Zw (Xr (YE (K:=K) PySem.F.plainAttrs_list PySem.F.slot_list_append PySem.F.type_list_append X4 (pv 6) (Zf (ZB (ZY (K:=K)) (ZB (ZY (K:=K)) (ZB (ZY (K:=K)) (Zu [119,97,121,32] (by decide +kernel)) (pv 8)) (Zu [32] (by decide +kernel))) (Xv Qa (by rfl) T.n_str boot_str (Zf (pv 9) Zj))) Zj))))))))))
 (Zw (ZE (YE (K:=K) PySem.F.plainAttrs_str PySem.F.slot_str_join PySem.F.type_str_join (Qi (K:=K)) (Zu [10] (by decide +kernel)) (Zf (pv 6) Zj))))))))),[],?_⟩
 unfold Zj7;exact(Zr (show VS _ _ [] _ _ _ _ from(ZN 5 (VF.cl (YF (Zd (ZQ Z6 (Zd (Zi Zv (Zc 4) (Ze (d:=(.int 0)) (by rfl) (by rfl))) Zh)) (Zd (ZQ Z6 (Zd (Zi Zv (Zi Zv (Zi Zv (Zc 4) (Ze (d:=(.int 0)) (by rfl) (by rfl))) (Ze (d:=(.int 0)) (by rfl) (by rfl))) (Ze (d:=(.int 0)) (by rfl) (by rfl))) Zh)) (Zd (Zc 2) (Zd (ZQ Z6 (Zd (Zc 3) Zh)) Zh))))))))
 (Zr (show VS _ _ [6] _ _ _ _ from(Vo 6 (YF (Zd (Zi ZV (Ze (d:=(.str [116,97,98,108,101,32])) (by rfl) (by rfl)) (XA Qj (Ze (d:=(.str [32])) (by rfl) (by rfl)) (Zd (VF.cl (XT (by rfl) (XS (Zc 5)) (YG 0) Va (ZQ Qe (Zd (Zc 0) Zh)))) Zh))) Zh))))
 (Zr (YV 6 (by rfl) (Zju Zgd (Zi ZV (Ze (d:=(.str [108,101,97,100,32])) (by rfl) (by rfl)) (Zc 0))))
 (Zr (YV 6 (by rfl) (Zi ZV (Ze (d:=(.str [102,105,114,115,116,32])) (by rfl) (by rfl)) (ZQ Qe (Zd (Zc 1) Zh))))
 (Zr (XR (Uf (Zd (ZQ Z6 (Zd (Zc 3) Zh)) Zh) VQ) (YG 7) (Zr (YV 6 (by rfl) (Zi ZV (Ze (d:=(.str [112,108,97,99,101,32])) (by rfl) (by rfl)) (ZQ Qe (Zd (Zi Zv (Zc 3) (Zc 7)) Zh))))
 (XR (XS (Zi Zv (Zc 4) (Zc 7))) (Zea (Qf 8 (by rfl) (by rfl) (Qf 9 (by rfl) (by rfl) Zcu))) (YV 6 (by rfl) (Zi ZV (Zi ZV (Zi ZV (Ze (d:=(.str [119,97,121,32])) (by rfl) (by rfl)) (Zc 8)) (Ze (d:=(.str [32])) (by rfl) (by rfl))) (ZQ Qe (Zd (Zc 9) Zh)))))))
 (VS.frz (ow1:=[]) 6 (ZF (XA Qj (Ze (d:=(.str [10])) (by rfl) (by rfl)) (Zd (Zc 6) Zh)))))))))
theorem Zmh(T:Txt K mg t):FnOk P w K mg base CX0 2 t.a_QS t.d_QS ["script"] (spD ⟨t.c,K⟩ 1 Zka):=by
 have G_QF:=(ZiV (P:=P) (w:=w) (base:=base) T).mono (k:=1) (by decide);have G_QR:=(Zmg (P:=P) (w:=w) (base:=base) T).mono (k:=1) (by decide);refine Yx (φ:=Zj9) T.p_QS.f ZlS (by conv=>lhs;whnf) (by conv=>lhs;whnf) (λcdv A outer s H E hr => ?_) rfl rfl;refine⟨_,(Zs (ZO (i:=1) Vx (by rfl) (by first|exact Or.inl rfl|exact Or.inr rfl) (ZB (ZY (K:=K)) Zm (ZB Xs (ZG (G_QF) hr (by rfl) T.p_QF.g T.p_QF.k T.p_QF.b .nil ZM (Zf (pv 0) (Zf Zm Zj))) Zm)))
 (Zs (ZO (i:=2) Vx (by rfl) (by first|exact Or.inl rfl|exact Or.inr rfl) (ZB (ZY (K:=K)) Zm (ZB Xs (ZG (G_QF) hr (by rfl) T.p_QF.g T.p_QF.k T.p_QF.b .nil ZM (Zf (pv 0) (Zf Zm Zj))) Zm)))
 (Zs (ZO (i:=3) Vx (by rfl) (by first|exact Or.inl rfl|exact Or.inr rfl) (ZB (ZY (K:=K)) Zm (ZB Xs (ZG (G_QF) hr (by rfl) T.p_QF.g T.p_QF.k T.p_QF.b .nil ZM (Zf (pv 0) (Zf Zm Zj))) Zm)))
 (Zs (ZO (i:=4) Vx (by rfl) (by first|exact Or.inl rfl|exact Or.inr rfl) (YT Zj))
 (Zs ((Vk PassesOwn.never (by rfl) (U4 (by rfl) T.n_range (Zf (pv 1) Zj)) (Yy (i:=5) Vx) (Zs (ZO (i:=6) Vx (by rfl) (by first|exact Or.inl rfl|exact Or.inr rfl) (YT Zj))
 (Zs ((Vk PassesOwn.never (by rfl) (U4 (by rfl) T.n_range (Zf (pv 2) Zj)) (Yy (i:=7) Vx) (Zs (ZO (i:=8) Vx (by rfl) (by first|exact Or.inl rfl|exact Or.inr rfl) (ZG (G_QF) hr (by rfl) T.p_QF.g T.p_QF.k T.p_QF.b .nil ZM (Zf (pv 0) (Zf (ZB (ZY (K:=K)) (ZB (ZY (K:=K)) Zm (ZB (ZgF (K:=K)) (pv 5) (pv 2))) (pv 7)) Zj))))
 (Zw (Xr (YE (K:=K) PySem.F.plainAttrs_list PySem.F.slot_list_append PySem.F.type_list_append X4 (pv 6) (Zf (JU (Zf (YE (K:=K) PySem.F.plainAttrs_str PySem.F.slot_str_join PySem.F.type_str_join (Qi (K:=K)) (Zu [] (by decide +kernel)) (Zf (VY (by rfl) (CompSd.mk1 (tn:=["k"]) (cn:=["cell"]) (js:=[8]) (osc:=defScope QC) (oN:=["script", "many", "n", "q", "ways", "place", "row", "sign", "cell", "homes", "lead"]) (by rfl) (by rfl) (by rfl) (by decide +kernel)) (U4 (by rfl) T.n_range (Zf (pv 3) Zj)) (λC s₂ H₂ fp=>Yy (i:=0) Zne) (λC s₂ H₂ fp=>X6) (λC s₂ H₂ fp=>(ZC (ZD (K:=K)) (Zu [97,98,55] (by decide +kernel)) (ZB Xs (ZB Qn (pv 1) (ZC (ZD (K:=K)) (YT (Zf Zm (Zf Zm (Zf Zm Zj)))) (pv 0) (λ_ _=>rfl))) Zm) (λ_ _=>rfl)))) Zj)) (Zf (ZB Xs (ZB Qn (pv 8) Zm) (pv 1)) Zj))) Zj)))))))
 (Zw (Xr (YE (K:=K) PySem.F.plainAttrs_list PySem.F.slot_list_append PySem.F.type_list_append X4 (pv 4) (Zf (pv 6) Zj))))))))
 (Zs (Zcz (i:=9) Vx (by rfl) (by rfl) (by rfl) (CompSd.mk1 (tn:=["k"]) (cn:=["script"]) (js:=[0]) (osc:=defScope QC) (oN:=["script", "many", "n", "q", "ways", "place", "row", "sign", "cell", "homes", "lead"]) (by rfl) (by rfl) (by rfl) (by decide +kernel)) (U4 (by rfl) T.n_range (Zf (pv 1) Zj)) (λC s₂ H₂ fp=>Yy (i:=0) Znf) (λC s₂ H₂ fp=>X6) (λC s₂ H₂ fp=>(ZB Xs (ZG (G_QF) hr (by rfl) T.p_QF.g T.p_QF.k T.p_QF.b .nil ZM (Zf (pv 1) (Zf (ZB (ZY (K:=K)) Zm (pv 0)) Zj))) Zm)))
 (Zs (ZO (i:=10) Vx (by rfl) (by first|exact Or.inl rfl|exact Or.inr rfl) (XM (XN (K:=K)) (Zu [97,98,55] (by decide +kernel)) XI (XJ (ZB Xs (ZG (G_QF) hr (by rfl) T.p_QF.g T.p_QF.k T.p_QF.b .nil ZM (Zf (pv 0) (Zf Zm Zj))) Zm))))
 (Zw (ZE (YE (K:=K) PySem.F.plainAttrs_str PySem.F.slot_str_split PySem.F.type_str_split Q4 (ZG (G_QR) hr (by rfl) T.p_QR.g T.p_QR.k T.p_QR.b .nil ZM (Zf (pv 10) (Zf (ZB Xs (ZG (G_QF) hr (by rfl) T.p_QF.g T.p_QF.k T.p_QF.b .nil ZM (Zf (pv 0) (Zf Zm Zj))) (pv 1)) (Zf (ZB Xs (ZG (G_QF) hr (by rfl) T.p_QF.g T.p_QF.k T.p_QF.b .nil ZM (Zf (pv 0) (Zf Zm Zj))) Zm) (Zf (pv 9) (Zf (pv 4) Zj)))))) (Zf (Zu [10] (by decide +kernel)) Zj))))))))))),[],?_⟩
 unfold Zj9;exact(Zr (show VS _ _ [] _ _ _ _ from(ZN 1 (Zi ZV (Ze (d:=(.int 1)) (by rfl) (by rfl)) (Zi XB (Zy [] (by rfl) (Zd (Zc 0) (Zd (Ze (d:=(.int 0)) (by rfl) (by rfl)) Zh))) (Ze (d:=(.int 3)) (by rfl) (by rfl))))))
 (Zr (show VS _ _ [] _ _ _ _ from(ZN 2 (Zi ZV (Ze (d:=(.int 1)) (by rfl) (by rfl)) (Zi XB (Zy [] (by rfl) (Zd (Zc 0) (Zd (Ze (d:=(.int 1)) (by rfl) (by rfl)) Zh))) (Ze (d:=(.int 3)) (by rfl) (by rfl))))))
 (Zr (show VS _ _ [] _ _ _ _ from(ZN 3 (Zi ZV (Ze (d:=(.int 1)) (by rfl) (by rfl)) (Zi XB (Zy [] (by rfl) (Zd (Zc 0) (Zd (Ze (d:=(.int 2)) (by rfl) (by rfl)) Zh))) (Ze (d:=(.int 3)) (by rfl) (by rfl))))))
 (Zr (show VS _ _ [4] _ _ _ _ from(Vo 4 (YF Zh)))
 (Zr (XR (Uf (Zd (Zc 1) Zh) VQ) (YG 5) (Zr (show VS _ _ [4,6] _ _ _ _ from(Vo 6 (YF Zh)))
 (Zr (XR (Uf (Zd (Zc 2) Zh) VQ) (YG 7) (Zr (show VS _ _ [4,6] _ _ _ _ from(ZN 8 (Zy [] (by rfl) (Zd (Zc 0) (Zd (Zi ZV (Zi ZV (Ze (d:=(.int 12)) (by rfl) (by rfl)) (Zi ZeI (Zc 5) (Zc 2))) (Zc 7)) Zh)))))
 (YV 6 (by rfl) (Zd8 (Zd (XA Qj (Ze (d:=(.str [])) (by rfl) (by rfl)) (Zd (VF.cl (XT (by rfl) (Uf (Zd (Zc 3) Zh) VQ) (YG 0) Va (Zi Zv (Ze (d:=(.str [97,98,55])) (by rfl) (by rfl)) (Zi XB (Zi Qo (Zc 1) (Zi Zv (VF.cl (YF (Zd (Ze (d:=(.int 3)) (by rfl) (by rfl)) (Zd (Ze (d:=(.int 9)) (by rfl) (by rfl)) (Zd (Ze (d:=(.int 27)) (by rfl) (by rfl)) Zh))))) (Zc 0))) (Ze (d:=(.int 3)) (by rfl) (by rfl)))))) Zh)) (Zd (Zi XB (Zi Qo (Zc 8) (Ze (d:=(.int 81)) (by rfl) (by rfl))) (Zc 1)) Zh))))))
 (VS.frz (ow1:=[4]) 6 (YV 4 (by rfl) (Zc 6))))))
 (VS.frz (ow1:=[]) 4 (Zr (show VS _ _ [] _ _ _ _ from(ZN 9 (VF.cl (XT (by rfl) (Uf (Zd (Zc 1) Zh) VQ) (YG 0) Va (Zi XB (Zy [] (by rfl) (Zd (Zc 1) (Zd (Zi ZV (Ze (d:=(.int 9)) (by rfl) (by rfl)) (Zc 0)) Zh))) (Ze (d:=(.int 100)) (by rfl) (by rfl)))))))
 (Zr (show VS _ _ [] _ _ _ _ from(ZN 10 (XW (Or.inl rfl) (Ze (d:=(.str [97,98,55])) (by rfl) (by rfl)) XU (XV (Zi XB (Zy [] (by rfl) (Zd (Zc 0) (Zd (Ze (d:=(.int 3)) (by rfl) (by rfl)) Zh))) (Ze (d:=(.int 4)) (by rfl) (by rfl)))))))
 (ZF (XA Qk (Zy [] (by rfl) (Zd (Zc 10) (Zd (Zi XB (Zy [] (by rfl) (Zd (Zc 0) (Zd (Ze (d:=(.int 4)) (by rfl) (by rfl)) Zh))) (Zc 1)) (Zd (Zi XB (Zy [] (by rfl) (Zd (Zc 0) (Zd (Ze (d:=(.int 5)) (by rfl) (by rfl)) Zh))) (Ze (d:=(.int 20)) (by rfl) (by rfl))) (Zd (Zc 9) (Zd (Zc 4) Zh)))))) (Zd (Ze (d:=(.str [10])) (by rfl) (by rfl)) Zh)))))))))))
theorem Zmi(T:Txt K mg t):FnOk P w K mg base CX0 1 t.a_QX t.d_QX ["cell"] (spD ⟨t.c,K⟩ 1 QB):=by
 refine Yx (φ:=Zkb) T.p_QX.f ZlT (by conv=>lhs;whnf) (by conv=>lhs;whnf) (λcdv A outer s H E hr => ?_) rfl rfl;refine⟨_,(Zs (ZO (i:=1) ZkJ (by rfl) (by first|exact Or.inl rfl|exact Or.inr rfl) (YT (Zf (Zu [] (by decide +kernel)) (Zf (Zu [116,97,98,108,101,32,49,32,49,32,48,32,49] (by decide +kernel)) (Zf (Zu [116,97,98,108,101,32,50,32,49,32,48,32,50] (by decide +kernel)) (Zf (Zu [116,97,98,108,101,32,48,32,49,32,48,32,49] (by decide +kernel)) (Zf (Zu [116,97,98,108,101,32,49,32,49,32,48] (by decide +kernel)) (Zf (Zu [108,101,97,100] (by decide +kernel)) (Zf (Zu [108,101,97,100,32] (by decide +kernel)) (Zf (Zu [108,101,97,100,32,97,32,98] (by decide +kernel)) (Zf (Zu [108,101,97,100,32,65] (by decide +kernel)) Zj)))))))))))
 (Zs (ZO (i:=1) ZkJ (by rfl) (by first|exact Or.inl rfl|exact Or.inr rfl) (ZB (ZY (K:=K)) (pv 1) (YT (Zf (Zu [102,105,114,115,116,32,48] (by decide +kernel)) (Zf (Zu [102,105,114,115,116,32,50] (by decide +kernel)) (Zf (Zu [102,105,114,115,116,32,48,48] (by decide +kernel)) (Zf (Zu [102,105,114,115,116] (by decide +kernel)) (Zf (Zu [102,105,114,115,116,32,45,49] (by decide +kernel)) (Zf (Zu [112,108,97,99,101,32,48] (by decide +kernel)) (Zf (Zu [112,108,97,99,101,32,49,48,48,48,48,48,48] (by decide +kernel)) (Zf (Zu [112,108,97,99,101,32,57,57,57,57,57,57] (by decide +kernel)) Zj)))))))))))
 (Zs (ZO (i:=1) ZkJ (by rfl) (by first|exact Or.inl rfl|exact Or.inr rfl) (ZB (ZY (K:=K)) (pv 1) (YT (Zf (Zu [112,108,97,99,101] (by decide +kernel)) (Zf (Zu [112,108,97,99,101,32,49,32,49] (by decide +kernel)) (Zf (Zu [119,97,121,32,97,32,48] (by decide +kernel)) (Zf (Zu [119,97,121,32,97,98,32,48] (by decide +kernel)) (Zf (Zu [119,97,121,32,97,98,99,32,48] (by decide +kernel)) (Zf (Zu [119,97,121,32,97,32,51] (by decide +kernel)) (Zf (Zu [119,97,121,32,55,32,43,48] (by decide +kernel)) (Zf (Zu [119,97,121,32,32,97,32,48] (by decide +kernel)) (Zf (Zu [119,97,121,32,97] (by decide +kernel)) Zj))))))))))))
 (Zs (ZO (i:=1) ZkJ (by rfl) (by first|exact Or.inl rfl|exact Or.inr rfl) (ZB (ZY (K:=K)) (pv 1) (YT (Zf (Zu [32,119,97,121,32,97,32,48] (by decide +kernel)) (Zf (Zu [87,97,121,32,97,32,48] (by decide +kernel)) (Zf (Zu [119,97,121,32,65,32,48] (by decide +kernel)) (Zf (Zu [119,97,121,32,45,32,48] (by decide +kernel)) (Zf (Zu [119,97,121,32,97,95,32,48] (by decide +kernel)) (Zf (Zu [119,97,121,32,32,48] (by decide +kernel)) (Zf (Zu [108,101,97,100,32,97,45] (by decide +kernel)) Zj))))))))))
 (Zw (ZE (ZC (ZD (K:=K)) (pv 1) (ZB Xs (pv 0) (ZZ (Yi (K:=K)) (by rfl) T.n_len boot_len (Zf (pv 1) Zj))) (λ_ _=>rfl)))))))),[],?_⟩
 unfold Zkb;exact(Zr (show VS _ _ [] _ _ _ _ from(ZN 1 (VF.cl (YF (Zd (Ze (d:=(.str [])) (by rfl) (by rfl)) (Zd (Ze (d:=(.str [116,97,98,108,101,32,49,32,49,32,48,32,49])) (by rfl) (by rfl)) (Zd (Ze (d:=(.str [116,97,98,108,101,32,50,32,49,32,48,32,50])) (by rfl) (by rfl)) (Zd (Ze (d:=(.str [116,97,98,108,101,32,48,32,49,32,48,32,49])) (by rfl) (by rfl)) (Zd (Ze (d:=(.str [116,97,98,108,101,32,49,32,49,32,48])) (by rfl) (by rfl)) (Zd (Ze (d:=(.str [108,101,97,100])) (by rfl) (by rfl)) (Zd (Ze (d:=(.str [108,101,97,100,32])) (by rfl) (by rfl)) (Zd (Ze (d:=(.str [108,101,97,100,32,97,32,98])) (by rfl) (by rfl)) (Zd (Ze (d:=(.str [108,101,97,100,32,65])) (by rfl) (by rfl)) Zh)))))))))))))
 (Zr (show VS _ _ [] _ _ _ _ from(ZN 1 (VF.cl (Uo (Zc 1) (VF.cl (YF (Zd (Ze (d:=(.str [102,105,114,115,116,32,48])) (by rfl) (by rfl)) (Zd (Ze (d:=(.str [102,105,114,115,116,32,50])) (by rfl) (by rfl)) (Zd (Ze (d:=(.str [102,105,114,115,116,32,48,48])) (by rfl) (by rfl)) (Zd (Ze (d:=(.str [102,105,114,115,116])) (by rfl) (by rfl)) (Zd (Ze (d:=(.str [102,105,114,115,116,32,45,49])) (by rfl) (by rfl)) (Zd (Ze (d:=(.str [112,108,97,99,101,32,48])) (by rfl) (by rfl)) (Zd (Ze (d:=(.str [112,108,97,99,101,32,49,48,48,48,48,48,48])) (by rfl) (by rfl)) (Zd (Ze (d:=(.str [112,108,97,99,101,32,57,57,57,57,57,57])) (by rfl) (by rfl)) Zh))))))))))))))
 (Zr (show VS _ _ [] _ _ _ _ from(ZN 1 (VF.cl (Uo (Zc 1) (VF.cl (YF (Zd (Ze (d:=(.str [112,108,97,99,101])) (by rfl) (by rfl)) (Zd (Ze (d:=(.str [112,108,97,99,101,32,49,32,49])) (by rfl) (by rfl)) (Zd (Ze (d:=(.str [119,97,121,32,97,32,48])) (by rfl) (by rfl)) (Zd (Ze (d:=(.str [119,97,121,32,97,98,32,48])) (by rfl) (by rfl)) (Zd (Ze (d:=(.str [119,97,121,32,97,98,99,32,48])) (by rfl) (by rfl)) (Zd (Ze (d:=(.str [119,97,121,32,97,32,51])) (by rfl) (by rfl)) (Zd (Ze (d:=(.str [119,97,121,32,55,32,43,48])) (by rfl) (by rfl)) (Zd (Ze (d:=(.str [119,97,121,32,32,97,32,48])) (by rfl) (by rfl)) (Zd (Ze (d:=(.str [119,97,121,32,97])) (by rfl) (by rfl)) Zh)))))))))))))))
 (Zr (show VS _ _ [] _ _ _ _ from(ZN 1 (VF.cl (Uo (Zc 1) (VF.cl (YF (Zd (Ze (d:=(.str [32,119,97,121,32,97,32,48])) (by rfl) (by rfl)) (Zd (Ze (d:=(.str [87,97,121,32,97,32,48])) (by rfl) (by rfl)) (Zd (Ze (d:=(.str [119,97,121,32,65,32,48])) (by rfl) (by rfl)) (Zd (Ze (d:=(.str [119,97,121,32,45,32,48])) (by rfl) (by rfl)) (Zd (Ze (d:=(.str [119,97,121,32,97,95,32,48])) (by rfl) (by rfl)) (Zd (Ze (d:=(.str [119,97,121,32,32,48])) (by rfl) (by rfl)) (Zd (Ze (d:=(.str [108,101,97,100,32,97,45])) (by rfl) (by rfl)) Zh)))))))))))))
 (ZF (Zi Zv (Zc 1) (Zi XB (Zc 0) (ZQ Z6 (Zd (Zc 1) Zh)))))))))
theorem Zmj(T:Txt K mg t):FnOk P w K mg base CX0 2 t.a_QH t.d_QH ["rows", "cell"] (spD ⟨t.c,K⟩ 2 Jj):=by
 have G_QX:=(Zmi (P:=P) (w:=w) (base:=base) T).mono (k:=1) (by decide);refine Yx (φ:=Zkc) T.p_QH.f ZlU (by conv=>lhs;whnf) (by conv=>lhs;whnf) (λcdv A outer s H E hr => ?_) rfl rfl;refine⟨_,(Zs (ZO (i:=2) ZmX (by rfl) (by first|exact Or.inl rfl|exact Or.inr rfl) (ZB Xs (ZB Qn (pv 1) Zm) (ZZ (Yi (K:=K)) (by rfl) T.n_len boot_len (Zf (pv 0) Zj))))
 (Zs (ZO (i:=3) ZmX (by rfl) (by first|exact Or.inl rfl|exact Or.inr rfl) (ZB Xs (pv 1) Zm))
 (Zs (Yg (ZS (Yv (cA:=⟨t.c,K⟩) (hr.units)) (pv 3) Zm (ZK _)) (Zw (ZE (ZB (ZY (K:=K)) (ZB (ZY (K:=K)) (XM (XN (K:=K)) (pv 0) XI (XJ (pv 2))) (XM (XN (K:=K)) (pv 0) (XJ (ZB (ZY (K:=K)) (pv 2) Zm)) XI)) (XM (XN (K:=K)) (YT (Zf (Zu [] (by decide +kernel)) Zj)) XI (XJ (Xv ZaO (by rfl) T.n_int boot_int (Zf (Xu (Yv (cA:=⟨t.c,K⟩) (hr.units)) (ZZ (Yi (K:=K)) (by rfl) T.n_len boot_len (Zf (pv 0) Zj)) Zm (ZK _)) Zj))))))) Ye)
 (Zs (Yg (ZS (Yv (cA:=⟨t.c,K⟩) (hr.units)) (pv 3) Zm (ZK _)) (Zw (ZE (ZB (ZY (K:=K)) (ZB (ZY (K:=K)) (XM (XN (K:=K)) (pv 0) XI (XJ (pv 2))) (YT (Zf (ZC (ZD (K:=K)) (pv 0) (pv 2) (λ_ _=>rfl)) Zj))) (XM (XN (K:=K)) (pv 0) (XJ (pv 2)) XI)))) Ye)
 (Zs (Yg (ZS (Yv (cA:=⟨t.c,K⟩) (hr.units)) (pv 3) Zm (ZK _)) (Zw (ZE (ZB (ZY (K:=K)) (ZB (ZY (K:=K)) (XM (XN (K:=K)) (pv 0) XI (XJ (pv 2))) (YT (Zf (ZG (G_QX) hr (by rfl) T.p_QX.g T.p_QX.k T.p_QX.b .nil ZM (Zf (ZB Qn (pv 1) Zm) Zj)) Zj))) (XM (XN (K:=K)) (pv 0) (XJ (ZB (ZY (K:=K)) (pv 2) Zm)) XI)))) Ye)
 (Zs (Yg (ZS (Yv (cA:=⟨t.c,K⟩) (hr.units)) (pv 3) Zm (ZK _)) (Zw (ZE (ZB (ZY (K:=K)) (ZB (ZY (K:=K)) (XM (XN (K:=K)) (pv 0) XI (XJ (pv 2))) (YT (Zf (ZG (G_QX) hr (by rfl) T.p_QX.g T.p_QX.k T.p_QX.b .nil ZM (Zf (ZB Qn (pv 1) Zm) Zj)) Zj))) (XM (XN (K:=K)) (pv 0) (XJ (pv 2)) XI)))) Ye)
 (Zs (Yg (ZS (Yv (cA:=⟨t.c,K⟩) (hr.units)) (pv 3) Zm (ZK _)) (Zw (ZE (ZB (ZY (K:=K)) (pv 0) (YT (Zf (ZG (G_QX) hr (by rfl) T.p_QX.g T.p_QX.k T.p_QX.b .nil ZM (Zf (ZB Qn (pv 1) Zm) Zj)) Zj))))) Ye)
 (Zw (ZE (pv 0)))))))))),[],?_⟩
 unfold Zkc;exact(Zr (show VS _ _ [] _ _ _ _ from(ZN 2 (Zi XB (Zi Qo (Zc 1) (Ze (d:=(.int 7)) (by rfl) (by rfl))) (ZQ Z6 (Zd (Zc 0) Zh)))))
 (Zr (show VS _ _ [] _ _ _ _ from(ZN 3 (Zi XB (Zc 1) (Ze (d:=(.int 7)) (by rfl) (by rfl)))))
 (Zr (Z9 (ZP (Zi Yw (Zc 3) (Ze (d:=(.int 1)) (by rfl) (by rfl)))) (ZF (Zi ZV (Zi ZV (XW (Or.inl rfl) (Zc 0) XU (XV (Zc 2))) (XW (Or.inl rfl) (Zc 0) (XV (Zi ZV (Zc 2) (Ze (d:=(.int 1)) (by rfl) (by rfl)))) XU)) (XW (Or.inl rfl) (VF.cl (YF (Zd (Ze (d:=(.str [])) (by rfl) (by rfl)) Zh))) XU (XV (ZQ Zd9 (Zd (Zi Yw (ZQ Z6 (Zd (Zc 0) Zh)) (Ze (d:=(.int 1)) (by rfl) (by rfl))) Zh)))))) Z8)
 (Zr (Z9 (ZP (Zi Yw (Zc 3) (Ze (d:=(.int 2)) (by rfl) (by rfl)))) (ZF (Zi ZV (VF.cl (Uo (XW (Or.inl rfl) (Zc 0) XU (XV (Zc 2))) (VF.cl (YF (Zd (Zi Zv (Zc 0) (Zc 2)) Zh))))) (XW (Or.inl rfl) (Zc 0) (XV (Zc 2)) XU))) Z8)
 (Zr (Z9 (ZP (Zi Yw (Zc 3) (Ze (d:=(.int 3)) (by rfl) (by rfl)))) (ZF (Zi ZV (VF.cl (Uo (XW (Or.inl rfl) (Zc 0) XU (XV (Zc 2))) (VF.cl (YF (Zd (Zy [] (by rfl) (Zd (Zi Qo (Zc 1) (Ze (d:=(.int 700)) (by rfl) (by rfl))) Zh)) Zh))))) (XW (Or.inl rfl) (Zc 0) (XV (Zi ZV (Zc 2) (Ze (d:=(.int 1)) (by rfl) (by rfl)))) XU))) Z8)
 (Zr (Z9 (ZP (Zi Yw (Zc 3) (Ze (d:=(.int 4)) (by rfl) (by rfl)))) (ZF (Zi ZV (VF.cl (Uo (XW (Or.inl rfl) (Zc 0) XU (XV (Zc 2))) (VF.cl (YF (Zd (Zy [] (by rfl) (Zd (Zi Qo (Zc 1) (Ze (d:=(.int 700)) (by rfl) (by rfl))) Zh)) Zh))))) (XW (Or.inl rfl) (Zc 0) (XV (Zc 2)) XU))) Z8)
 (Zr (Z9 (ZP (Zi Yw (Zc 3) (Ze (d:=(.int 5)) (by rfl) (by rfl)))) (ZF (VF.cl (Uo (Zc 0) (VF.cl (YF (Zd (Zy [] (by rfl) (Zd (Zi Qo (Zc 1) (Ze (d:=(.int 700)) (by rfl) (by rfl))) Zh)) Zh)))))) Z8)
 (ZF (Zc 0)))))))))
theorem ZiW(T:Txt K mg t):FnOk P w K mg base CX0 1 t.a_QK t.d_QK ["word"] (spD ⟨t.c,K⟩ 1 V2):=by
 refine Yx (φ:=Zkd) T.p_QK.f ZlV (by conv=>lhs;whnf) (by conv=>lhs;whnf) (λcdv A outer s H E hr => ?_) rfl rfl;refine⟨_,(Zs (Yg (PW.pt (Xf (ZS V8 (ZZ (Yi (K:=K)) (by rfl) T.n_len boot_len (Zf (pv 0) Zj)) Zm (ZK _)) (Xf (ZS QP (ZZ (Yi (K:=K)) (by rfl) T.n_len boot_len (Zf (pv 0) Zj)) Zm (ZK _)) (X3 (PW.pt (Uy (ZS (Yv (cA:=⟨t.c,K⟩) (hr.units)) (ZC (ZD (K:=K)) (pv 0) Zm (λ_ _=>rfl)) (Zu [48] (by decide +kernel)) (ZK _)) (U1 (ZS QP (ZZ (Yi (K:=K)) (by rfl) T.n_len boot_len (Zf (pv 0) Zj)) Zm (ZK _))))))))) (Zw (ZE (Zg6 Zd5 Zm))) Ye)
 (Zs ((Vk PassesOwn.never (by rfl) (XO (K:=K) (pv 0)) (Yy (i:=1) Zng) (Zw (Yg (ZS (Zc7 (K:=K)) (pv 1) (Zu [48,49,50,51,52,53,54,55,56,57] (by decide +kernel)) (by rfl)) (Zw (ZE (Zg6 Zd5 Zm))) Ye))))
 (Zw (ZE (Xv ZaO (by rfl) T.n_int boot_int (Zf (pv 0) Zj)))))),[],?_⟩
 unfold Zkd;exact(Zr (Z9 (Xi (ZP (Zi Y9 (ZQ Z6 (Zd (Zc 0) Zh)) (Ze (d:=(.int 1)) (by rfl) (by rfl)))) (Xi (ZP (Zi Y9 (ZQ Z6 (Zd (Zc 0) Zh)) (Ze (d:=(.int 6)) (by rfl) (by rfl)))) (QX (ZP (Zi Yw (Zi Zv (Zc 0) (Ze (d:=(.int 0)) (by rfl) (by rfl))) (Ze (d:=(.str [48])) (by rfl) (by rfl)))) (ZP (Zi Y9 (ZQ Z6 (Zd (Zc 0) Zh)) (Ze (d:=(.int 1)) (by rfl) (by rfl))))))) (ZF (Zgx (Ze (d:=(.int 1)) (by rfl) (by rfl)))) Z8)
 (Zr (XR (XS (Zc 0)) (YG 1) (Z9 (ZP (Zi Qc (Zc 1) (Ze (d:=(.str [48,49,50,51,52,53,54,55,56,57])) (by rfl) (by rfl)))) (ZF (Zgx (Ze (d:=(.int 1)) (by rfl) (by rfl)))) Z8))
 (ZF (ZQ Zd9 (Zd (Zc 0) Zh)))))
theorem Zmk(T:Txt K mg t):FnOk P w K mg base CX0 1 t.a_QO t.d_QO ["word"] (spD ⟨t.c,K⟩ 1 UV):=by
 refine Yx (φ:=Zke) T.p_QO.f ZlW (by conv=>lhs;whnf) (by conv=>lhs;whnf) (λcdv A outer s H E hr => ?_) rfl rfl;refine⟨_,(Zs (ZO (i:=1) Znh (by rfl) (by first|exact Or.inl rfl|exact Or.inr rfl) (Zu [97,98,99,100,101,102,103,104,105,106,107,108,109,110,111,112,113,114,115,116,117,118,119,120,121,122,48,49,50,51,52,53,54,55,56,57] (by decide +kernel)))
 (Zw (ZE (V6 (Xu (X8 (cA:=⟨t.c,K⟩) (hr.units)) (pv 0) (Zu [] (by decide +kernel)) (ZK _)) (U2 (Xu (Yv (cA:=⟨t.c,K⟩) (hr.units)) (ZZ (Yi (K:=K)) (by rfl) T.n_len boot_len (Zf (VY (by rfl) (CompSd.mk1 (tn:=["sign"]) (cn:=["some"]) (js:=[1]) (osc:=defScope Jr) (oN:=["word", "some"]) (by rfl) (by rfl) (by rfl) (by decide +kernel)) (XO (K:=K) (pv 0)) (λC s₂ H₂ fp=>Yy (i:=0) Zni) (λC s₂ H₂ fp=>(Zhw (ZS (Zc7 (K:=K)) (pv 0) (pv 1) (by rfl)))) (λC s₂ H₂ fp=>(pv 0))) Zj)) Zm (ZK _))))))),[],?_⟩
 unfold Zke;exact(Zr (show VS _ _ [] _ _ _ _ from(ZN 1 (Ze (d:=(.str [97,98,99,100,101,102,103,104,105,106,107,108,109,110,111,112,113,114,115,116,117,118,119,120,121,122,48,49,50,51,52,53,54,55,56,57])) (by rfl) (by rfl))))
 (ZF (Ub (Zi X9 (Zc 0) (Ze (d:=(.str [])) (by rfl) (by rfl))) (Zi Yw (ZQ Z6 (Zd (VF.cl (XT (by rfl) (XS (Zc 0)) (YG 0) (ZP (Zi Qc (Zc 0) (Zc 1))) (Zc 0))) Zh)) (Ze (d:=(.int 0)) (by rfl) (by rfl))))))
theorem Zml(T:Txt K mg t):FnOk P w K mg base CX0 2 t.a_QQ t.d_QQ ["row"] (spD ⟨t.c,K⟩ 1 Zkg):=by
 have G_QK:=(ZiW (P:=P) (w:=w) (base:=base) T).mono (k:=1) (by decide);refine Yx (φ:=Zkf) T.p_QQ.f ZlX (by conv=>lhs;whnf) (by conv=>lhs;whnf) (λcdv A outer s H E hr => ?_) rfl rfl;refine⟨_,(Zs (ZO (i:=1) ZmY (by rfl) (by first|exact Or.inl rfl|exact Or.inr rfl) (YE (K:=K) PySem.F.plainAttrs_str PySem.F.slot_str_split PySem.F.type_str_split Q4 (pv 0) (Zf (Zu [32] (by decide +kernel)) Zj)))
 (Zs (Yg (PW.pt (Xf (ZS (X8 (cA:=⟨t.c,K⟩) (hr.units)) (ZZ (Yi (K:=K)) (by rfl) T.n_len boot_len (Zf (pv 1) Zj)) Zm (ZK _)) (X3 (ZS (X8 (cA:=⟨t.c,K⟩) (hr.units)) (ZC (ZD (K:=K)) (pv 1) Zm (λ_ _=>rfl)) (Zu [116,97,98,108,101] (by decide +kernel)) (ZK _))))) (Zw (ZE Xe)) Ye)
 (Zs (Zcz (i:=2) ZmY (by rfl) (by rfl) (by rfl) (CompSd.mk1 (tn:=["word"]) (cn:=[]) (js:=[]) (osc:=defScope Js) (oN:=["row", "words", "found"]) (by rfl) (by rfl) (by rfl) (by decide +kernel)) (XO (K:=K) (XM (XN (K:=K)) (pv 1) (XJ Zm) XI)) (λC s₂ H₂ fp=>Yy (i:=0) nd9) (λC s₂ H₂ fp=>X6) (λC s₂ H₂ fp=>(ZG (G_QK) hr (by rfl) T.p_QK.g T.p_QK.k T.p_QK.b .nil ZM (Zf (pv 0) Zj))))
 (Zs (Yg (PW.pt (Xf (ZS V8 (ZZ (Zjt (K:=K)) (by rfl) T.n_min boot_min (Zf (pv 2) Zj)) Zm (ZK _)) (Xf (ZS (Yv (cA:=⟨t.c,K⟩) (hr.units)) (ZC (ZD (K:=K)) (pv 2) Zm (λ_ _=>rfl)) Zm (ZK _)) (Xf (ZS (Yv (cA:=⟨t.c,K⟩) (hr.units)) (ZC (ZD (K:=K)) (pv 2) Zm (λ_ _=>rfl)) Zm (ZK _)) (X3 (ZS (Yv (cA:=⟨t.c,K⟩) (hr.units)) (ZC (ZD (K:=K)) (pv 2) Zm (λ_ _=>rfl)) Zm (ZK _))))))) (Zw (ZE Xe)) Ye)
 (Zw (ZE (pv 2))))))),[],?_⟩
 unfold Zkf;exact(Zr (show VS _ _ [] _ _ _ _ from(ZN 1 (XA Qk (Zc 0) (Zd (Ze (d:=(.str [32])) (by rfl) (by rfl)) Zh))))
 (Zr (Z9 (Xi (ZP (Zi X9 (ZQ Z6 (Zd (Zc 1) Zh)) (Ze (d:=(.int 5)) (by rfl) (by rfl)))) (ZP (Zi X9 (Zi Zv (Zc 1) (Ze (d:=(.int 0)) (by rfl) (by rfl))) (Ze (d:=(.str [116,97,98,108,101])) (by rfl) (by rfl))))) (ZF (Ze (d:=.non) (by rfl) (by rfl))) Z8)
 (Zr (show VS _ _ [] _ _ _ _ from(ZN 2 (VF.cl (XT (by rfl) (XS (XW (Or.inl rfl) (Zc 1) (XV (Ze (d:=(.int 1)) (by rfl) (by rfl))) XU)) (YG 0) Va (Zy [] (by rfl) (Zd (Zc 0) Zh))))))
 (Zr (Z9 (Xi (ZP (Zi Y9 (ZQ ZhV (Zd (Zc 2) Zh)) (Ze (d:=(.int 0)) (by rfl) (by rfl)))) (Xi (ZP (Zi Yw (Zi Zv (Zc 2) (Ze (d:=(.int 0)) (by rfl) (by rfl))) (Ze (d:=(.int 0)) (by rfl) (by rfl)))) (Xi (ZP (Zi Yw (Zi Zv (Zc 2) (Ze (d:=(.int 1)) (by rfl) (by rfl))) (Ze (d:=(.int 0)) (by rfl) (by rfl)))) (ZP (Zi Yw (Zi Zv (Zc 2) (Ze (d:=(.int 3)) (by rfl) (by rfl))) (Ze (d:=(.int 0)) (by rfl) (by rfl))))))) (ZF (Ze (d:=.non) (by rfl) (by rfl))) Z8)
 (ZF (Zc 2))))))
theorem Zmm(T:Txt K mg t):FnOk P w K mg base CX0 2 t.a_QI t.d_QI ["row", "k", "head"] (spD ⟨t.c,K⟩ 3 Zki):=by
 have G_QK:=(ZiW (P:=P) (w:=w) (base:=base) T).mono (k:=1) (by decide);have G_QO:=(Zmk (P:=P) (w:=w) (base:=base) T).mono (k:=1) (by decide);refine Yx (φ:=Zkh) T.p_QI.f ZlY (by conv=>lhs;whnf) (by conv=>lhs;whnf) (λcdv A outer s H E hr => ?_) rfl rfl;refine⟨_,(Zs (ZO (i:=3) Znj (by rfl) (by first|exact Or.inl rfl|exact Or.inr rfl) (YE (K:=K) PySem.F.plainAttrs_str PySem.F.slot_str_split PySem.F.type_str_split Q4 (pv 0) (Zf (Zu [32] (by decide +kernel)) Zj)))
 (Zs (Yg (PW.pt (Uy (ZS (Yv (cA:=⟨t.c,K⟩) (hr.units)) (pv 1) Zm (ZK _)) (U1 (ZS (Yv (cA:=⟨t.c,K⟩) (hr.units)) (pv 0) (Zu [108,101,97,100] (by decide +kernel)) (ZK _))))) (Zw (ZE JN)) Ye)
 (Zs (Yg (ZS (Yv (cA:=⟨t.c,K⟩) (hr.units)) (pv 1) Zm (ZK _)) (Zw (ZE (V6 (Xu (Yv (cA:=⟨t.c,K⟩) (hr.units)) (ZZ (Yi (K:=K)) (by rfl) T.n_len boot_len (Zf (pv 3) Zj)) Zm (ZK _)) (V6 (Xu (Yv (cA:=⟨t.c,K⟩) (hr.units)) (ZC (ZD (K:=K)) (pv 3) Zm (λ_ _=>rfl)) (Zu [108,101,97,100] (by decide +kernel)) (ZK _)) (U2 (ZG (G_QO) hr (by rfl) T.p_QO.g T.p_QO.k T.p_QO.b .nil ZM (Zf (ZC (ZD (K:=K)) (pv 3) Zm (λ_ _=>rfl)) Zj))))))) Ye)
 (Zs (Yg (ZS (Yv (cA:=⟨t.c,K⟩) (hr.units)) (pv 1) Zm (ZK _)) (Zs (Yg (PW.pt (Xf (ZS (X8 (cA:=⟨t.c,K⟩) (hr.units)) (ZZ (Yi (K:=K)) (by rfl) T.n_len boot_len (Zf (pv 3) Zj)) Zm (ZK _)) (X3 (ZS (X8 (cA:=⟨t.c,K⟩) (hr.units)) (ZC (ZD (K:=K)) (pv 3) Zm (λ_ _=>rfl)) (Zu [102,105,114,115,116] (by decide +kernel)) (ZK _))))) (Zw (ZE JN)) Ye)
 (Zw (ZE (Zc1 Zg7 V8 Zm (ZG (G_QK) hr (by rfl) T.p_QK.g T.p_QK.k T.p_QK.b .nil ZM (Zf (ZC (ZD (K:=K)) (pv 3) Zm (λ_ _=>rfl)) Zj)) (ZC (ZD (K:=K)) (pv 2) Zm (λ_ _=>rfl)))))) Ye)
 (Zs (Yg (ZS (Yv (cA:=⟨t.c,K⟩) (hr.units)) (ZB Xs (ZB Zgm (pv 1) Zm) (ZB (ZY (K:=K)) (ZC (ZD (K:=K)) (pv 2) Zm (λ_ _=>rfl)) Zm)) Zm (ZK _)) (Zw (ZE (V6 (Xu (Yv (cA:=⟨t.c,K⟩) (hr.units)) (ZZ (Yi (K:=K)) (by rfl) T.n_len boot_len (Zf (pv 3) Zj)) Zm (ZK _)) (V6 (Xu (Yv (cA:=⟨t.c,K⟩) (hr.units)) (ZC (ZD (K:=K)) (pv 3) Zm (λ_ _=>rfl)) (Zu [112,108,97,99,101] (by decide +kernel)) (ZK _)) (U2 (Xu Zg8 (ZG (G_QK) hr (by rfl) T.p_QK.g T.p_QK.k T.p_QK.b .nil ZM (Zf (ZC (ZD (K:=K)) (pv 3) Zm (λ_ _=>rfl)) Zj)) Zm (ZK _))))))) Ye)
 (Zs (Yg (PW.pt (Xf (ZS (X8 (cA:=⟨t.c,K⟩) (hr.units)) (ZZ (Yi (K:=K)) (by rfl) T.n_len boot_len (Zf (pv 3) Zj)) Zm (ZK _)) (X3 (ZS (X8 (cA:=⟨t.c,K⟩) (hr.units)) (ZC (ZD (K:=K)) (pv 3) Zm (λ_ _=>rfl)) (Zu [119,97,121] (by decide +kernel)) (ZK _))))) (Zw (ZE JN)) Ye)
 (Zs (Yg (PW.pt (Xf (QM (V5 (ZG (G_QO) hr (by rfl) T.p_QO.g T.p_QO.k T.p_QO.b .nil ZM (Zf (ZC (ZD (K:=K)) (pv 3) Zm (λ_ _=>rfl)) Zj)))) (X3 (ZS (X8 (cA:=⟨t.c,K⟩) (hr.units)) (ZZ (Yi (K:=K)) (by rfl) T.n_len boot_len (Zf (ZC (ZD (K:=K)) (pv 3) Zm (λ_ _=>rfl)) Zj)) (ZC (ZD (K:=K)) (pv 2) Zm (λ_ _=>rfl)) (ZK _))))) (Zw (ZE JN)) Ye)
 (Zw (ZE (Zc1 Zg7 V8 Zm (ZG (G_QK) hr (by rfl) T.p_QK.g T.p_QK.k T.p_QK.b .nil ZM (Zf (ZC (ZD (K:=K)) (pv 3) Zm (λ_ _=>rfl)) Zj)) (ZC (ZD (K:=K)) (pv 2) Zm (λ_ _=>rfl)))))))))))),[],?_⟩
 unfold Zkh;exact(Zr (show VS _ _ [] _ _ _ _ from(ZN 3 (XA Qk (Zc 0) (Zd (Ze (d:=(.str [32])) (by rfl) (by rfl)) Zh))))
 (Zr (Z9 (QX (ZP (Zi Yw (Zc 1) (Ze (d:=(.int 1)) (by rfl) (by rfl)))) (ZP (Zi Yw (Zc 0) (Ze (d:=(.str [108,101,97,100])) (by rfl) (by rfl))))) (ZF (Ze (d:=(.bl true)) (by rfl) (by rfl))) Z8)
 (Zr (Z9 (ZP (Zi Yw (Zc 1) (Ze (d:=(.int 1)) (by rfl) (by rfl)))) (ZF (Ub (Zi Yw (ZQ Z6 (Zd (Zc 3) Zh)) (Ze (d:=(.int 2)) (by rfl) (by rfl))) (Ub (Zi Yw (Zi Zv (Zc 3) (Ze (d:=(.int 0)) (by rfl) (by rfl))) (Ze (d:=(.str [108,101,97,100])) (by rfl) (by rfl))) (Zy [] (by rfl) (Zd (Zi Zv (Zc 3) (Ze (d:=(.int 1)) (by rfl) (by rfl))) Zh))))) Z8)
 (Zr (Z9 (ZP (Zi Yw (Zc 1) (Ze (d:=(.int 2)) (by rfl) (by rfl)))) (Zr (Z9 (Xi (ZP (Zi X9 (ZQ Z6 (Zd (Zc 3) Zh)) (Ze (d:=(.int 2)) (by rfl) (by rfl)))) (ZP (Zi X9 (Zi Zv (Zc 3) (Ze (d:=(.int 0)) (by rfl) (by rfl))) (Ze (d:=(.str [102,105,114,115,116])) (by rfl) (by rfl))))) (ZF (Ze (d:=(.bl false)) (by rfl) (by rfl))) Z8)
 (ZF (Zda (Ze (d:=(.int 0)) (by rfl) (by rfl)) (Zy [] (by rfl) (Zd (Zi Zv (Zc 3) (Ze (d:=(.int 1)) (by rfl) (by rfl))) Zh)) (Zi Zv (Zc 2) (Ze (d:=(.int 3)) (by rfl) (by rfl)))))) Z8)
 (Zr (Z9 (ZP (Zi Yw (Zi XB (Zi Zgw (Zc 1) (Ze (d:=(.int 3)) (by rfl) (by rfl))) (Zi ZV (Zi Zv (Zc 2) (Ze (d:=(.int 0)) (by rfl) (by rfl))) (Ze (d:=(.int 1)) (by rfl) (by rfl)))) (Ze (d:=(.int 0)) (by rfl) (by rfl)))) (ZF (Ub (Zi Yw (ZQ Z6 (Zd (Zc 3) Zh)) (Ze (d:=(.int 2)) (by rfl) (by rfl))) (Ub (Zi Yw (Zi Zv (Zc 3) (Ze (d:=(.int 0)) (by rfl) (by rfl))) (Ze (d:=(.str [112,108,97,99,101])) (by rfl) (by rfl))) (Zi Y9 (Zy [] (by rfl) (Zd (Zi Zv (Zc 3) (Ze (d:=(.int 1)) (by rfl) (by rfl))) Zh)) (Ze (d:=(.int 0)) (by rfl) (by rfl)))))) Z8)
 (Zr (Z9 (Xi (ZP (Zi X9 (ZQ Z6 (Zd (Zc 3) Zh)) (Ze (d:=(.int 3)) (by rfl) (by rfl)))) (ZP (Zi X9 (Zi Zv (Zc 3) (Ze (d:=(.int 0)) (by rfl) (by rfl))) (Ze (d:=(.str [119,97,121])) (by rfl) (by rfl))))) (ZF (Ze (d:=(.bl false)) (by rfl) (by rfl))) Z8)
 (Zr (Z9 (Xi (J9 (Xc (Zy [] (by rfl) (Zd (Zi Zv (Zc 3) (Ze (d:=(.int 1)) (by rfl) (by rfl))) Zh)))) (ZP (Zi X9 (ZQ Z6 (Zd (Zi Zv (Zc 3) (Ze (d:=(.int 1)) (by rfl) (by rfl))) Zh)) (Zi Zv (Zc 2) (Ze (d:=(.int 1)) (by rfl) (by rfl)))))) (ZF (Ze (d:=(.bl false)) (by rfl) (by rfl))) Z8)
 (ZF (Zda (Ze (d:=(.int 0)) (by rfl) (by rfl)) (Zy [] (by rfl) (Zd (Zi Zv (Zc 3) (Ze (d:=(.int 2)) (by rfl) (by rfl))) Zh)) (Zi Zv (Zc 2) (Ze (d:=(.int 3)) (by rfl) (by rfl))))))))))))
theorem Zmn(T:Txt K mg t):FnOk P w K mg base CX0 3 t.a_QV t.d_QV ["rows"] (spD ⟨t.c,K⟩ 1 UW):=by
 have G_QQ:=(Zml (P:=P) (w:=w) (base:=base) T).mono (k:=2) (by decide);have G_QI:=(Zmm (P:=P) (w:=w) (base:=base) T).mono (k:=2) (by decide);refine Yx (φ:=Zkj) T.p_QV.f ZlZ (by conv=>lhs;whnf) (by conv=>lhs;whnf) (λcdv A outer s H E hr => ?_) rfl rfl;refine⟨_,(Zs (ZO (i:=1) Zlf (by rfl) (by first|exact Or.inl rfl|exact Or.inr rfl) (ZG (G_QQ) hr (by rfl) T.p_QQ.g T.p_QQ.k T.p_QQ.b .nil ZM (Zf (ZC (ZD (K:=K)) (pv 0) Zm (λ_ _=>rfl)) Zj)))
 (Zs (Yg (VH (Ux (pv 1))) (Zw (ZE Zm)) Ye)
 (Zs (ZO (i:=2) Zlf (by rfl) (by first|exact Or.inl rfl|exact Or.inr rfl) (ZB (ZY (K:=K)) Zm (ZB (ZgF (K:=K)) (ZC (ZD (K:=K)) (pv 1) Zm (λ_ _=>rfl)) (ZB (ZY (K:=K)) (ZC (ZD (K:=K)) (pv 1) Zm (λ_ _=>rfl)) Zm))))
 (Zs ((Vk PassesOwn.never (by rfl) (ZaK (by rfl) T.n_range (Zf Zm (Zf (ZZ (Yi (K:=K)) (by rfl) T.n_len boot_len (Zf (pv 0) Zj)) Zj))) (Yy (i:=3) Zlf) (Zw (Yg (PW.pt (Xf (ZS Zg8 (pv 3) (pv 2) (ZK _)) (X3 (QM (V5 (ZG (G_QI) hr (by rfl) T.p_QI.g T.p_QI.k T.p_QI.b .nil ZM (Zf (ZC (ZD (K:=K)) (pv 0) (pv 3) (λ_ _=>rfl)) (Zf (pv 3) (Zf (pv 1) Zj))))))))) (Zw (ZE (ZB (ZY (K:=K)) (pv 3) Zm))) Ye))))
 (Zs (Yg (ZS V8 (ZZ (Yi (K:=K)) (by rfl) T.n_len boot_len (Zf (pv 0) Zj)) (pv 2) (ZK _)) (Zw (ZE (ZB (ZY (K:=K)) (ZZ (Yi (K:=K)) (by rfl) T.n_len boot_len (Zf (pv 0) Zj)) Zm))) Ye)
 (Zw (ZE Zm))))))),[],?_⟩
 unfold Zkj;exact(Zr (show VS _ _ [] _ _ _ _ from(ZN 1 (Zy [] (by rfl) (Zd (Zi Zv (Zc 0) (Ze (d:=(.int 0)) (by rfl) (by rfl))) Zh))))
 (Zr (Z9 (Xc (VP (Zc 1))) (ZF (Ze (d:=(.int 1)) (by rfl) (by rfl))) Z8)
 (Zr (show VS _ _ [] _ _ _ _ from(ZN 2 (Zi ZV (Ze (d:=(.int 3)) (by rfl) (by rfl)) (Zi ZeI (Zi Zv (Zc 1) (Ze (d:=(.int 3)) (by rfl) (by rfl))) (Zi ZV (Zi Zv (Zc 1) (Ze (d:=(.int 0)) (by rfl) (by rfl))) (Ze (d:=(.int 1)) (by rfl) (by rfl)))))))
 (Zr (XR (QZ (Zd (Ze (d:=(.int 1)) (by rfl) (by rfl)) (Zd (ZQ Z6 (Zd (Zc 0) Zh)) Zh)) Q0) (YG 3) (Z9 (Xi (ZP (Zi Y9 (Zc 3) (Zc 2))) (J9 (Xc (Zy [] (by rfl) (Zd (Zi Zv (Zc 0) (Zc 3)) (Zd (Zc 3) (Zd (Zc 1) Zh))))))) (ZF (Zi ZV (Zc 3) (Ze (d:=(.int 1)) (by rfl) (by rfl)))) Z8))
 (Zr (Z9 (ZP (Zi Y9 (ZQ Z6 (Zd (Zc 0) Zh)) (Zc 2))) (ZF (Zi ZV (ZQ Z6 (Zd (Zc 0) Zh)) (Ze (d:=(.int 1)) (by rfl) (by rfl)))) Z8)
 (ZF (Ze (d:=(.int 0)) (by rfl) (by rfl))))))))
theorem Zmo(T:Txt K mg t):FnOk P w K mg base CX0 6 t.a_QD t.d_QD ["text"] (spD ⟨t.c,K⟩ 1 Zkk):=by
 have G_QN:FnOk P w K mg base (CXd P w) 5 t.a_QN t.d_QN ["text"] (spX ⟨t.c,K⟩ 1 V1 Vg):=(ZiU T).mono (by decide);refine Yx (φ:=Zle) T.p_QD.f Zl0 (by conv=>lhs;whnf) (by conv=>lhs;whnf) (λcdv A outer s H E hr => ?_) rfl rfl;refine⟨_,(Zs (ZO (i:=1) ZkK (by rfl) (by first|exact Or.inl rfl|exact Or.inr rfl) Zm)
 (Zs (ZhJ (i:=2) (n:="e") (ts:=ZgI K 2 1 _ (.ref (t.c "BadTable")) (.ty "ValueError") [(.ref (t.c "BadRow")),(.ref (t.c "Unread"))]) ZkK (by rfl) (by rfl) ⟨rfl,rfl⟩ (by rfl) T.g_GrooveError (λE=>(Zfw (Zfv (G_QN) hr (by rfl) T.p_QN.g T.p_QN.k T.p_QN.b .nil (λ_ _ z=>z) (Zf (pv 0) Zj)))) (λC ea dO TC=>Zs (ZO (i:=1) ZkK (by rfl) (by first|exact Or.inl rfl|exact Or.inr rfl) (Zg6 Zd5 Zm)) (Zw (Yg (PW.pt (Uy (V5 (ZZ (ZgD (K:=K) TC) (by rfl) T.n_isinstance boot_isinstance (Zf (pv 2) (Zf (QL (v:=.ref (t.c "BadTable")) (by rfl) T.g_BadTable (by rfl)) Zj)))) (Uy (V5 (ZZ (ZgD (K:=K) TC) (by rfl) T.n_isinstance boot_isinstance (Zf (pv 2) (Zf (Zcp (v:=.ty "ValueError") (by rfl) T.n_ValueError PyProof.Rows.Boot.«ValueError» rfl) Zj)))) (U1 (QM (V5 (ZZ (ZhK (K:=K) TC) (by rfl) T.n_isinstance boot_isinstance (Zf (pv 2) (Zf (JU (Zf (QL (v:=.ref (t.c "BadRow")) (by rfl) T.g_BadRow (by rfl)) (Zf (QL (v:=.ref (t.c "Unread")) (by rfl) T.g_Unread (by rfl)) Zj))) Zj))))))))) (Zw (ZO (i:=1) ZkK (by rfl) (by first|exact Or.inl rfl|exact Or.inr rfl) (ZhL (pv 2) TC))) Ye))))
 (Zw (ZE (pv 1))))),[],?_⟩
 unfold Zle;exact(Zr (show VS _ _ [] _ _ _ _ from(ZN 1 (Ze (d:=(.int 0)) (by rfl) (by rfl))))
 (Zr (ZhR (v1:=(.ref (t.c "BadTable"))) (v2:=(.ty "ValueError")) (vs:=[(.ref (t.c "BadRow")),(.ref (t.c "Unread"))]) "BadTable" 2 1 (by decide) (by rfl) (by rfl) (by rfl) (by rfl) T.ex_BadTable T.xm_BadTable_GrooveError T.xi_BadTable.hd T.xi_BadTable.no T.ie_BadTable (by rfl) T.ie_ValueError (by rfl) (.cons T.ie_BadRow (.cons T.ie_Unread .nil)) (by rfl) (by rfl) (Nat.le_of_ble_eq_true rfl) (λ_ _ _ q=>⟨_,rfl,q⟩) (λE=>(Zhz (YY [] (by rfl) (Zd (Zc 0) Zh)))) (λE=>(Zf6 (UK [] (by rfl) (Zd (Zc 0) Zh)))))
 (ZF (Zc 1))))
theorem Zmp(T:Txt K mg t):FnOk P w K mg base CX0 7 t.a_Q5 t.d_Q5 ["script"] (spD ⟨t.c,K⟩ 1 Zkm):=by
 have G_QF:=(ZiV (P:=P) (w:=w) (base:=base) T).mono (k:=6) (by decide);have G_QH:=(Zmj (P:=P) (w:=w) (base:=base) T).mono (k:=6) (by decide);have G_QV:=(Zmn (P:=P) (w:=w) (base:=base) T).mono (k:=6) (by decide);have G_QC:=(Zmf (P:=P) (w:=w) (base:=base) T).mono (k:=6) (by decide);have G_QD:=(Zmo (P:=P) (w:=w) (base:=base) T).mono (k:=6) (by decide)
 have G_QS:=(Zmh (P:=P) (w:=w) (base:=base) T).mono (k:=6) (by decide);have G_QN:FnOk P w K mg base (CXd P w) 6 t.a_QN t.d_QN ["text"] (spX ⟨t.c,K⟩ 1 V1 Vg):=(ZiU T).mono (by decide);have G_QM:=(Zl8 (P:=P) (w:=w) (base:=base) T).mono (k:=6) (by decide);refine Yx (φ:=Zkl) T.p_Q5.f Zl1 (by conv=>lhs;whnf) (by conv=>lhs;whnf) (λcdv A outer s H E hr => ?_) rfl rfl;refine⟨_,(Zs (ZO (i:=1) QD (by rfl) (by first|exact Or.inl rfl|exact Or.inr rfl) (ZG (G_QS) hr (by rfl) T.p_QS.g T.p_QS.k T.p_QS.b .nil ZM (Zf (pv 0) Zj)))
 (Zs ((Vk PassesOwn.never (by rfl) (ZaK (by rfl) T.n_range (Zf Zm (Zf Zm Zj))) (Yy (i:=2) QD) (Zw (ZO (i:=1) QD (by rfl) (by first|exact Or.inl rfl|exact Or.inr rfl) (ZG (G_QH) hr (by rfl) T.p_QH.g T.p_QH.k T.p_QH.b .nil ZM (Zf (pv 1) (Zf (ZG (G_QF) hr (by rfl) T.p_QF.g T.p_QF.k T.p_QF.b .nil ZM (Zf (pv 0) (Zf (pv 2) Zj))) Zj)))))))
 (Zs (ZO (i:=3) QD (by rfl) (by first|exact Or.inl rfl|exact Or.inr rfl) (YE (K:=K) PySem.F.plainAttrs_str PySem.F.slot_str_join PySem.F.type_str_join (Qi (K:=K)) (Zu [10] (by decide +kernel)) (Zf (pv 1) Zj)))
 (Zs (ZO (i:=4) QD (by rfl) (by first|exact Or.inl rfl|exact Or.inr rfl) (ZG (G_QV) hr (by rfl) T.p_QV.g T.p_QV.k T.p_QV.b .nil ZM (Zf (pv 1) Zj)))
 (Zs (Yg (ZS (Yv (cA:=⟨t.c,K⟩) (hr.units)) (pv 4) Zm (ZK _)) (Zw (ZE (Xu (Yv (cA:=⟨t.c,K⟩) (hr.units)) (ZG (G_QM) hr (by rfl) T.p_QM.g T.p_QM.k T.p_QM.b .nil ZM (Zf (ZG (G_QN) hr (by rfl) T.p_QN.g T.p_QN.k T.p_QN.b .nil Zjo (Zf (pv 3) Zj)) Zj)) (pv 3) (ZK _)))) Ye)
 (Zs (ZO (i:=5) QD (by rfl) (by first|exact Or.inl rfl|exact Or.inr rfl) (ZG (G_QD) hr (by rfl) T.p_QD.g T.p_QD.k T.p_QD.b .nil ZM (Zf (pv 3) Zj)))
 (Zw (ZE (V6 (ZG (G_QC) hr (by rfl) T.p_QC.g T.p_QC.k T.p_QC.b .nil ZM (Zf (pv 5) Zj)) (U2 (Xu (Yv (cA:=⟨t.c,K⟩) (hr.units)) (pv 5) (pv 4) (ZK _)))))))))))),[],?_⟩
 unfold Zkl;exact(Zr (show VS _ _ [] _ _ _ _ from(ZN 1 (Zy [] (by rfl) (Zd (Zc 0) Zh))))
 (Zr (XR (QZ (Zd (Ze (d:=(.int 6)) (by rfl) (by rfl)) (Zd (Ze (d:=(.int 9)) (by rfl) (by rfl)) Zh)) Q0) (YG 2) (show VS _ _ [] _ _ _ _ from(ZN 1 (Zy [] (by rfl) (Zd (Zc 1) (Zd (Zy [] (by rfl) (Zd (Zc 0) (Zd (Zc 2) Zh))) Zh))))))
 (Zr (show VS _ _ [] _ _ _ _ from(ZN 3 (XA Qj (Ze (d:=(.str [10])) (by rfl) (by rfl)) (Zd (Zc 1) Zh))))
 (Zr (show VS _ _ [] _ _ _ _ from(ZN 4 (Zy [] (by rfl) (Zd (Zc 1) Zh))))
 (Zr (Z9 (ZP (Zi Yw (Zc 4) (Ze (d:=(.int 0)) (by rfl) (by rfl)))) (ZF (Zi Yw (Zy [] (by rfl) (Zd (YY [] (by rfl) (Zd (Zc 3) Zh)) Zh)) (Zc 3))) Z8)
 (Zr (show VS _ _ [] _ _ _ _ from(ZN 5 (Zy [] (by rfl) (Zd (Zc 3) Zh))))
 (ZF (Ub (Zy [] (by rfl) (Zd (Zc 5) Zh)) (Zi Yw (Zc 5) (Zc 4))))))))))
end
end K50
namespace K50
open DL L2
theorem Zbj(ns:List Int)(k:Nat):YZ [.lst (ns.map D.int),.int k]=some (.int (ns.getD k 0)):=by
 by_cases h:k<ns.length
 · have hz : atI (ns.map D.int) (k : Int) = some (.int (ns.getD k 0)) := by
    refine JV ?_;rw [List.getElem?_map,List.getElem?_eq_getElem h,List.getD_eq_getElem?_getD,List.getElem?_eq_getElem h];rfl
   simp [YZ,Ji,h,hz,DL.run,DL.runI,Zg,sIf,Zp,ZiC,sNext,Zq,UH,Xj,ZiD,sNever,xB,bD,Xd,YL,xOr,Za,eC,eOp,Y6,eOr,QY,eIf,Yu,Vb,Y7,Uc,eUn,Vn,eNil,Zb,ZH,XQ,eCB,lenD,ZmP,ZmQ,Zl,Uh,XX,Yb,eSl,xP,xNoP,addD,subD,ZmN,ZiB,ZmO,ZJ,ixD,isD,eBM,Qh,Q1,kind,plainKinds,Uq,VZ,ZeM,Zeb,Zec,Zed,Qv,Qw,ZgL,ZgM,ZgN,List.lookup,QO,CMul,PySem.sizeLine_eq,List.replicate]
 · have hz:ns.getD k 0=0:=by rw [List.getD_eq_getElem?_getD,List.getElem?_eq_none (by omega)];rfl
   simp [YZ,Ji,h,hz,DL.run,DL.runI,Zg,sIf,Zp,ZiC,sNext,Zq,UH,Xj,ZiD,sNever,xB,bD,Xd,YL,xOr,Za,eC,eOp,Y6,eOr,QY,eIf,Yu,Vb,Y7,Uc,eUn,Vn,eNil,Zb,ZH,XQ,eCB,lenD,ZmP,ZmQ,Zl,Uh,XX,Yb,eSl,xP,xNoP,addD,subD,ZmN,ZiB,ZmO,ZJ,ixD,isD,eBM,Qh,Q1,kind,plainKinds,Uq,VZ,ZeM,Zeb,Zec,Zed,Qv,Qw,ZgL,ZgM,ZgN,List.lookup,QO,CMul,PySem.sizeLine_eq,List.replicate]
theorem Vy(i:Int){m:Nat}(h:0<m):∃a:Nat,modW (.int i) (.int (m:Int))=some (.int (a:Int))/\a<m:=by
 obtain⟨h1,h2⟩:=ZhX (a:=i) (b:=(m:Int)) (by omega);obtain⟨a,ha⟩:=Zjv h1;exact⟨a,by rw [ZeO (by omega),ha],by omega⟩
abbrev nD(a:Nat):D := .int (a:Int)
theorem Ut{α:Type}{γ:D->DL.Env->Option DL.Env}{ε:DL.Env->Option D}{δ0:DL.Env}(g f:α->D):∀(xs:List α),(∀x∈xs,∃δ1,γ (g x) δ0=some δ1/\ε δ1=some (f x))->YJ γ (λ_=>some true) ε δ0 (xs.map g)=some (xs.map f)
 | [],_=>rfl
 |x::xs,h=>by
  obtain⟨δ1,h1,h2⟩:=h x List.mem_cons_self;have ih:=Ut g f xs λy hy=>h y (List.mem_cons_of_mem _ hy)
  rw [List.map_cons,List.map_cons];unfold YJ;rw [h1];dsimp only;rw [h2,ih]
structure Num(n:Nat)(w:List Nat):Prop where
 ne:w≠[]
 fig:∀c∈w,48<=c/\c<=57
 val:Y5 w=n
 ld:0<n->w.head? ≠ some 48
 z0:n=0->w.length=1
theorem Za9:∀d,d<10->(Nat.digitChar d).toNat=48+d:=by decide
theorem Zav{n:Nat}(h:n<10):Zo n=[48+n]:=by
 unfold Zo;rw [Nat.toDigits_of_lt_base h,List.map_cons,List.map_nil,Za9 n h]
theorem Zdm{n:Nat}(h:10<=n):Zo n=Zo (n / 10)++[48+n % 10]:=by
 unfold Zo;rw [Nat.toDigits_of_base_le (by decide) h,List.map_append,List.map_cons,List.map_nil,Za9 (n % 10) (by omega)]
theorem Zdn(n:Nat):Num n (Zo n):=by
 induction n using Nat.strongRecOn with
 |ind n ih=>
  by_cases h:n<10
  · rw [Zav h]
    refine⟨by simp,λc hc => ?_,?_,λh0 z => ?_,λ_=>rfl⟩
    · rw [List.mem_singleton.mp hc];omega
    · show 0*10+(48+n-48)=n
      omega
    · have z:48+n=48:=Option.some.inj z
      omega
  · have i:=ih (n / 10) (by omega)
    rw [Zdm (by omega)];refine⟨by simp,λc hc => ?_,?_,λ_ z => ?_,λz=>by omega⟩
    · rcases List.mem_append.mp hc with z|z
      · exact i.fig c z
      · rw [List.mem_singleton.mp z];omega
    · have hv:=i.val
      unfold Y5 at hv ⊢;rw [List.foldl_append,hv];show n / 10*10+(48+n % 10-48)=n;omega
    · have hne:=i.ne
      cases hw:Zo (n / 10)with
      |nil=>exact hne hw
      |cons c r=>
       rw [hw]at z;have:=i.ld (by omega);rw [hw]at this;exact this z
theorem X0{n:Nat}(h:n<1000000):(Zo n).length<=6:=by
 unfold Zo;rw [List.length_map];have e:(10:Nat) ^ 6=1000000:=by decide
 exact(Nat.length_toDigits_le_iff (b:=10) (k:=6) (by decide) (by decide)).mpr (by rw [e];exact h)
theorem Jv{n:Nat}(h:n<1000000):strD [nD n]=some (.str (Zo n)):=by
 unfold strD;dsimp only;rw [if_pos ⟨by omega,by omega⟩,Int.toNat_natCast]
theorem ZeP{n:Nat}(h:n<1000000):Xm (nD n)=some (.str (Zo n)):=by
 unfold Xm;dsimp only;rw [if_pos ⟨by omega,by omega⟩,Int.toNat_natCast]
theorem X1{a b:DL.Env->Option Bool}{δ:DL.Env}{x y:Bool}(h1:a δ=some x)(h2:x=false->b δ=some y):xOr a b δ=some (x||y):=by
 cases x with
 |true=>exact Qx h1
 |false=>exact Zee h1 (h2 rfl)
theorem ZcE{a b:DL.Env->Option Bool}{δ:DL.Env}{x y:Bool}(h1:a δ=some x)(h2:x=true->b δ=some y):YL a b δ=some (x&&y):=by
 cases x with
 |true=>exact Zbv h1 (h2 rfl)
 |false=>exact ZcA h1
theorem Zjw{t:DL.Env->Option Bool}{a b:DL.Env->Option Out}{δ:DL.Env}{x:Bool}(h:t δ=some x):sIf t a b δ=if x=true then a δ else b δ:=by
 cases x with
 |true=>exact Yj h
 |false=>exact Ys h
theorem UX{t:DL.Env->Option Bool}{a b:DL.Env->Option D}{δ:DL.Env}{x:Bool}(h:t δ=some x):eIf t a b δ=if x=true then a δ else b δ:=by unfold eIf;rw [h];cases x<;>rfl
theorem Jw{a b:DL.Env->Option D}{δ:DL.Env}{x y:Bool}(h1:a δ=some (.bl x))(h2:x=true->b δ=some (.bl y)):Y6 a b δ=some (.bl (x&&y)):=by
 unfold Y6;rw [h1];cases x with
 |true=>exact h2 rfl
 |false=>rfl
theorem Vz{i:Nat}{δ:DL.Env}{w:List Nat}(h:Za i δ=some (.str w))(hl:w.length<=1000):eCB lenD (Zb (Za i) eNil) δ=some (nD w.length):=(Yd (Zk h nil_of)).trans (len_str (by omega))
theorem ZcW(a b:Nat):ZJ (λi j=>decide (i<j)) (nD a) (nD b)=some (.bl (decide (a<b))):=by
 show some (D.bl (decide ((a:Int)<(b:Int))))=_;rw [decide_eq_decide.mpr (show(a:Int)<(b:Int) ↔ a<b by omega)]
theorem Jx(a b:Nat):ZJ (λi j=>decide (j<i)) (nD a) (nD b)=some (.bl (decide (b<a))):=by
 show some (D.bl (decide ((b:Int)<(a:Int))))=_;rw [decide_eq_decide.mpr (show(b:Int)<(a:Int) ↔ b<a by omega)]
theorem bools_of(f:Nat->Bool):∀w:List Nat,Ud (w.map λc=>D.bl (f c))=some (w.map f)
 | []=>rfl
 |c::w=>by rw [List.map_cons,Ud,bools_of f w];rfl
theorem ZgP(cs:List Nat)(w:List Nat)(hl:w.length<=1000){ε:DL.Env->Option D}{δ:DL.Env}(hε:ε δ=some (.str w)) :
 eCB (UG λbs=>bs.all id) (Zb (Yp (Z4 ε) (Zx 0) (λ_=>some true) (eOp (inD false) (Za 0) (eC (.str cs))) 1 []) eNil) δ=some (.bl (w.all λc=>decide (c∈cs))):=by
 have hc:YJ (Zx 0) (λ_=>some true) (eOp (inD false) (Za 0) (eC (.str cs))) [none] (w.map λc=>D.str [c])=some (w.map λc=>D.bl (decide (c∈cs))):=by
  refine Ut (λc=>D.str [c]) (λc=>D.bl (decide (c∈cs))) w λc hcw=>⟨_,rfl,(Zn rfl rfl).trans ?_⟩
  show some (D.bl (false != decide (c∈cs)))=_;cases decide (c∈cs)<;>rfl
 have hi:Z4 ε δ=some (w.map λc=>D.str [c]):=by unfold Z4;rw [hε]
 rw [Yd (Zk (Vs hi rfl hc (by rw [List.length_map];omega)) nil_of)];unfold UG;dsimp only;rw [bools_of (λc=>decide (c∈cs))];dsimp only;rw [List.all_map];rfl
def Nm(w:List Nat):Bool := !(decide (w.length<1)||decide (6<w.length))&&(w.all λc=>decide (c∈cs_FIGURES)) && !(decide (1<w.length)&&decide (w.head? = some 48))
def Yk(w:List Nat):Option Nat:=if Nm w=true then some (Y5 w)else none
def oD:Option Nat->D
 |some n=>nD n
 |none => .non
theorem fig_in{c:Nat}:c∈cs_FIGURES ↔ 48<=c/\c<=57:=by
 constructor
 · revert c
   decide
 · intro h
   have:∀d,d<10->48+d∈cs_FIGURES:=by decide
   have:=this (c-48) (by omega)
   rwa [show 48+(c-48)=c by omega]at this
theorem Zh0{c:Nat}(h:48<=c/\c<=57):UC c=true:=by
 have:∀d,d<10->UC (48+d)=true:=by decide
 have:=this (c-48) (by omega)
 rwa [show 48+(c-48)=c by omega]at this
theorem Zdo{w:List Nat}(hl:w.length<=6)(h1:¬w.length<1)(h2:(w.all λc=>decide (c∈cs_FIGURES))=true):intD [.str w]=some (nD (Y5 w)):=by
 show(if w.length<=640/\w≠[]/\w.all UC=true then some (D.int (Y5 w:Nat))else none)=_;rw [if_pos ⟨by omega,λz=>by rw [z]at h1;exact h1 (by decide),List.all_eq_true.mpr λd hd=>Zh0 (fig_in.mp (of_decide_eq_true (List.all_eq_true.mp h2 d hd)))⟩]
noncomputable def wi1:DL.Env->Option Out:=(sIf (xOr (xB (eOp (ZJ λi j=>decide (i<j)) (eCB lenD (Zb (Za 0) eNil)) (eC (.int 1)))) (xB (eOp (ZJ λi j=>decide (j<i)) (eCB lenD (Zb (Za 0) eNil)) (Za 1)))) (Zp (eC .non)) sNext)
noncomputable def wi2:DL.Env->Option Out:=(sIf (Xd (xB (eCB (UG λbs=>bs.all id) (Zb (Yp (Z4 (Za 0)) (Zx 0) (λ_=>some true) (eOp (inD false) (Za 0) (eC (.str cs_FIGURES))) 1 []) eNil)))) (Zp (eC .non)) sNext)
noncomputable def wi3:DL.Env->Option Out:=(sIf (YL (xB (eOp (ZJ λi j=>decide (j<i)) (eCB lenD (Zb (Za 0) eNil)) (eC (.int 1)))) (xB (eOp eqD (eOp ixD (Za 0) (eC (.int 0))) (eC (.str [48]))))) (Zp (eC .non)) sNext)
theorem Zmq:ZjW=Zg wi1 (Zg wi2 (Zg wi3 (Zp (eCB intD (Zb (Za 0) eNil))))):=rfl
theorem ZeQ{w:List Nat}{i:Nat}{δ:DL.Env}(h:Za i δ=some (.str w))(hl:w.length<=1000)(h1:¬w.length<1):eOp eqD (eOp ixD (Za i) (eC (.int 0))) (eC (.str [48])) δ=some (.bl (decide (w.head? = some 48))):=by
 cases w with
 |nil=>exact absurd (show [].length<1 by decide) h1
 |cons c r=>
  refine((Zn (x:=.str [c]) ((Zn (x:=.str (c::r)) (y:=nD 0) h rfl).trans (ix_str rfl (by omega))) rfl).trans (VZ _ _)).trans ?_;have:([c]=[48]) ↔ ((c::r).head? = some 48):=by simp
  rw [decide_eq_decide.mpr this]
theorem Zbw(w:List Nat)(hl:w.length<=1000):UR [.str w,.int 6]=some (oD (Yk w)):=by
 have e1:xOr (xB (eOp (ZJ λi j=>decide (i<j)) (eCB lenD (Zb (Za 0) eNil)) (eC (.int 1)))) (xB (eOp (ZJ λi j=>decide (j<i)) (eCB lenD (Zb (Za 0) eNil)) (Za 1))) [some (.str w),some (.int 6)]=some (decide (w.length<1)||decide (6<w.length)):=
  X1 (ZA ((Zn (y:=nD 1) (Vz rfl hl) rfl).trans (ZcW _ _))) λ_=>ZA ((Zn (y:=nD 6) (Vz rfl hl) rfl).trans (Jx _ _))
 refine Yt (δ:=[some (.str w),some (.int 6)]) rfl ?_;unfold Yk Nm;rw [Zmq];cases hb:(decide (w.length<1)||decide (6<w.length))with
 |true=>
  rw [hb]at e1;exact Yc ((Yj e1).trans rfl)
 |false=>
  rw [hb]at e1;have hb':¬w.length<1/\¬6<w.length:=by simpa using hb
  refine(Zt (a:=wi1) (δ':=[some (.str w),some (.int 6)]) ((Ys e1).trans rfl)).trans ?_;have e2:=Zbi (ZA (ZgP cs_FIGURES w hl (ε:=Za 0) (δ:=[some (.str w),some (.int 6)]) rfl));cases hc:(w.all λc=>decide (c∈cs_FIGURES))with
  |false=>
   rw [hc]at e2;exact Yc ((Yj e2).trans rfl)
  |true=>
   rw [hc]at e2;refine(Zt (a:=wi2) (δ':=[some (.str w),some (.int 6)]) ((Ys e2).trans rfl)).trans ?_
   have e3:YL (xB (eOp (ZJ λi j=>decide (j<i)) (eCB lenD (Zb (Za 0) eNil)) (eC (.int 1)))) (xB (eOp eqD (eOp ixD (Za 0) (eC (.int 0))) (eC (.str [48])))) [some (.str w),some (.int 6)]=some (decide (1<w.length)&&decide (w.head? = some 48)):=
    ZcE (ZA ((Zn (y:=nD 1) (Vz rfl hl) rfl).trans (Jx _ _))) λ_=>ZA (ZeQ rfl hl hb'.1)
   cases hd:(decide (1<w.length)&&decide (w.head? = some 48))with
   |true=>
    rw [hd]at e3;exact Yc ((Yj e3).trans rfl)
   |false=>
    rw [hd]at e3;refine(Zt (a:=wi3) (δ':=[some (.str w),some (.int 6)]) ((Ys e3).trans rfl)).trans ?_;exact Yr ((Yd (Zk (x:=.str w) rfl nil_of)).trans (Zdo (by omega) hb'.1 hc))
def nI(w:List Nat):Int:=match Yk w with
 |some n=>n
 |none => -1
theorem Zb5(w:List Nat)(d:D)(hd:∀δ,Zp (eUn Vn (eC (.int 1))) δ=some (.rt d)):∀(r:List Nat)(v:Option D),(∃v',Yn (Zx 1) (sIf (xB (eOp (inD true) (Za 1) (eC (.str cs_FIGURES)))) (Zp (eUn Vn (eC (.int 1)))) sNext) (r.map λc=>D.str [c]) [some (.str w),v]=some (if(r.all λc=>decide (c∈cs_FIGURES))=true then .nx [some (.str w),v']else .rt d))
 | [],v=>⟨v,rfl⟩
 |c::r,v=>by
  have e:xB (eOp (inD true) (Za 1) (eC (.str cs_FIGURES))) [some (.str w),some (.str [c])]=some (!decide (c∈cs_FIGURES)):=ZA ((Zn (x:=.str [c]) rfl rfl).trans (by
   show some (D.bl (true != decide (c∈cs_FIGURES)))=_;cases decide (c∈cs_FIGURES)<;>rfl))
  rw [List.map_cons];unfold Yn;rw [show Zx 1 (D.str [c]) [some (.str w),v]=some [some (.str w),some (.str [c])]from rfl];dsimp only;rw [Zjw e,List.all_cons];cases hc:decide (c∈cs_FIGURES)with
  |false=>
   rw [if_pos (by rfl),hd];exact⟨v,rfl⟩
  |true=>
   obtain⟨v',h⟩:=Zb5 w d hd r (some (.str [c]));exact⟨v',h⟩
noncomputable def ln1:DL.Env->Option Out:=(sIf (xOr (xB (eOp (ZJ λi j=>decide (i<j)) (eCB lenD (Zb (Za 0) eNil)) (eC (.int 1)))) (xOr (xB (eOp (ZJ λi j=>decide (j<i)) (eCB lenD (Zb (Za 0) eNil)) (eC (.int 6)))) (YL (xB (eOp eqD (eOp ixD (Za 0) (eC (.int 0))) (eC (.str [48])))) (xB (eOp (ZJ λi j=>decide (j<i)) (eCB lenD (Zb (Za 0) eNil)) (eC (.int 1))))))) (Zp (eUn Vn (eC (.int 1)))) sNext)
noncomputable def ln2:DL.Env->Option Out:=(Yo (Z4 (Za 0)) (Zx 1) (sIf (xB (eOp (inD true) (Za 1) (eC (.str cs_FIGURES)))) (Zp (eUn Vn (eC (.int 1)))) sNext))
theorem Zmr:Zkd=Zg ln1 (Zg ln2 (Zp (eCB intD (Zb (Za 0) eNil)))):=rfl
theorem Zb6(w:List Nat)(hl:w.length<=1000):V2 [.str w]=some (.int (nI w)):=by
 have e1:xOr (xB (eOp (ZJ λi j=>decide (i<j)) (eCB lenD (Zb (Za 0) eNil)) (eC (.int 1)))) (xOr (xB (eOp (ZJ λi j=>decide (j<i)) (eCB lenD (Zb (Za 0) eNil)) (eC (.int 6)))) (YL (xB (eOp eqD (eOp ixD (Za 0) (eC (.int 0))) (eC (.str [48])))) (xB (eOp (ZJ λi j=>decide (j<i)) (eCB lenD (Zb (Za 0) eNil)) (eC (.int 1)))))) [some (.str w),none]=some (decide (w.length<1)||(decide (6<w.length)||(decide (w.head? = some 48)&&decide (1<w.length)))):=
  X1 (ZA ((Zn (y:=nD 1) (Vz rfl hl) rfl).trans (ZcW _ _))) λh=>X1 (ZA ((Zn (y:=nD 6) (Vz rfl hl) rfl).trans (Jx _ _))) λ_=>ZcE (ZA (ZeQ rfl hl (of_decide_eq_false h))) λ_=>ZA ((Zn (y:=nD 1) (Vz rfl hl) rfl).trans (Jx _ _))
 have hm:∀δ,Zp (eUn Vn (eC (.int 1))) δ=some (.rt (.int (-1))):=λ_=>rfl
 refine Yt (δ:=[some (.str w),none]) rfl ?_;rw [Zmr];unfold nI Yk Nm;cases hb:(decide (w.length<1)||(decide (6<w.length)||(decide (w.head? = some 48)&&decide (1<w.length))))with
 |true=>
  rw [hb]at e1
  have:(!(decide (w.length<1)||decide (6<w.length))&&(w.all λc=>decide (c∈cs_FIGURES)) && !(decide (1<w.length)&&decide (w.head? = some 48)))=false:=by
   cases h1:decide (w.length<1)<;>cases h2:decide (6<w.length)<;>cases h3:decide (w.head? = some 48)<;>cases h4:decide (1<w.length)<;>rw [h1,h2,h3,h4]at hb<;>simp at hb ⊢
  rw [this];exact Yc ((Yj e1).trans rfl)
 |false=>
  rw [hb]at e1;obtain⟨v',h⟩:=Zb5 w _ hm w none;refine(Zt (a:=ln1) (δ':=[some (.str w),none]) ((Ys e1).trans rfl)).trans ?_
  have hb':decide (w.length<1)=false/\decide (6<w.length)=false/\(decide (w.head? = some 48)&&decide (1<w.length))=false:=by
   revert hb;cases decide (w.length<1)<;>cases decide (6<w.length)<;>cases(decide (w.head? = some 48)&&decide (1<w.length))<;>simp
  rw [hb'.1,hb'.2.1,Bool.and_comm (decide (1<w.length)),hb'.2.2];cases hc:(w.all λc=>decide (c∈cs_FIGURES))with
  |false=>
   rw [hc]at h;exact Yc (Xq rfl h)
  |true=>
   rw [hc]at h;refine(Zt (a:=ln2) (δ':=[some (.str w),v']) (Xq rfl h)).trans ?_;exact Yr ((Yd (Zk (x:=.str w) rfl nil_of)).trans (Zdo (by have:=of_decide_eq_false hb'.2.1;omega) (of_decide_eq_false hb'.1) hc))
theorem Zdp:∀(k:Nat)(w:List Nat),w.length=k+1->(∀c∈w,48<=c/\c<=57)->(1<w.length->w.head? ≠ some 48)->Zo (Y5 w)=w/\Y5 w<10 ^ (k+1)
 |0,w,hl,hc,_=>by
  match w,hl with
  | [c],_=>
   have h:=hc c List.mem_cons_self;have e:Y5 [c]=c-48:=by show 0*10+(c-48)=_;omega
   rw [e,Zav (by omega),show 48+(c-48)=c by omega];exact⟨rfl,by omega⟩
 |k+1,w,hl,hc,hh=>by
  have hne:w≠[]:=λz=>by rw [z]at hl;cases hl
  obtain⟨u,c,rfl⟩:∃u c,w=u++[c]:=⟨w.dropLast,w.getLast hne,(List.dropLast_concat_getLast hne).symm⟩
  have hu:u.length=k+1:=by simpa using hl
  have h1:u.head? ≠ some 48:=by
   have:=hh (by rw [hl];omega);cases u with
   |nil=>cases hu
   |cons x y=>simpa using this
  obtain⟨ih,ih2⟩:=Zdp k u hu (λx hx=>hc x (List.mem_append_left _ hx)) (λ_=>h1);have hv:Y5 (u++[c])=Y5 u*10+(c-48):=by unfold Y5;rw [List.foldl_append];rfl
  have h2:=hc c (List.mem_append_right _ List.mem_cons_self)
  have h3:Y5 u≠0:=λz=>by
   rw [z]at ih;rw [<-ih]at h1;exact h1 rfl
  rw [hv,Zdm (by omega),show(Y5 u*10+(c-48)) / 10=Y5 u by omega,ih,show 48+(Y5 u*10+(c-48)) % 10=c by omega];exact⟨rfl,by rw [Nat.pow_succ];omega⟩
theorem Uu{w:List Nat}{n:Nat}(h:Yk w=some n):Zo n=w/\n<1000000:=by
 unfold Yk at h
 split at h
 · rename_i hn
   cases h;unfold Nm at hn;simp only [Bool.and_eq_true,Bool.not_eq_true',Bool.or_eq_false_iff,decide_eq_false_iff_not,List.all_eq_true,decide_eq_true_eq,Bool.and_eq_false_iff]at hn;obtain⟨⟨⟨h1,h2⟩,h3⟩,h4⟩:=hn;have hl:w.length=(w.length-1)+1:=by omega
   obtain⟨a,b⟩:=Zdp (w.length-1) w hl (λc hc=>fig_in.mp (h3 c hc)) (λhz=>by rcases h4 with q|q;exact absurd hz q;exact q);rw [<-hl]at b;exact⟨a,Nat.lt_of_lt_of_le b (Nat.pow_le_pow_right (by decide) (show w.length<=6 by omega))⟩
 · cases h
end K50
namespace K50
open DL L2
def ZR(nm:List Nat)(ws:List (List Nat)):List Nat:=ZL [32] (nm::ws)
abbrev YC:List Nat:=[116,97,98,108,101]
abbrev LEAD:List Nat:=[108,101,97,100]
abbrev YN:List Nat:=[102,105,114,115,116]
abbrev PLACE:List Nat:=[112,108,97,99,101]
abbrev WAY:List Nat:=[119,97,121]
theorem Jy(c:Nat):∀l:List (List Nat),(ZL [c] l).length<=(l.map List.length).sum+l.length
 | []=>Nat.le_refl _
 | [x]=>by simp [ZL]
 |x::y::r=>by
  have:=Jy c (y::r);rw [ZL,List.length_append,List.length_append];simp only [List.map_cons,List.sum_cons,List.length_cons,List.length_nil]at this ⊢;omega
theorem Jz{m:Nat}:∀{l:List (List Nat)},(∀r∈l,r.length<=m)->(l.map List.length).sum<=m*l.length
 | [],_=>Nat.le_refl _
 |x::l,h=>by
  have ih:=Jz (l:=l) λr hr=>h r (List.mem_cons_of_mem _ hr)
  have:=h x List.mem_cons_self;rw [List.map_cons,List.sum_cons,List.length_cons,Nat.mul_add];omega
theorem Zdq{c:Nat}:∀{l:List (List Nat)}{s:List Nat},c∈ZL s l->c∈s\/∃w∈l,c∈w
 | [],_,h=>nomatch h
 | [x],_,h => .inr ⟨x,List.mem_cons_self,h⟩
 |x::y::r,s,h=>by
  rw [ZL]at h;rcases List.mem_append.mp h with h|h
  · rcases List.mem_append.mp h with h|h
    · exact .inr ⟨x,List.mem_cons_self,h⟩
    · exact .inl h
  · rcases Zdq h with z|⟨w,h1,h2⟩
    · exact .inl z
    · exact .inr ⟨w,List.mem_cons_of_mem _ h1,h2⟩
structure Wd1(w:List Nat):Prop where
 ln:w.length<=9
 cd:∀c∈w,48<=c/\c<=122
theorem Wd1.no{w:List Nat}(h:Wd1 w){c:Nat}(hc:c<48):c∉w:=λz=>by
 have:=h.cd c z;omega
theorem UY{n:Nat}(h:n<1000000):Wd1 (Zo n):=⟨Nat.le_trans (X0 h) (by decide),λc hc=>by
 have:=(Zdn n).fig c hc;omega⟩
theorem wd_names:Wd1 YC/\Wd1 LEAD/\Wd1 YN/\Wd1 PLACE/\Wd1 WAY:=⟨⟨by decide,by decide⟩,⟨by decide,by decide⟩,⟨by decide,by decide⟩,⟨by decide,by decide⟩,⟨by decide,by decide⟩⟩
theorem Zh1{nm:List Nat}{ws:List (List Nat)}(h:∀w∈nm::ws,Wd1 w)(hl:ws.length<=4):(ZR nm ws).length<=50:=by
 have h1:=Jy 32 (nm::ws);have h2:=Jz (m:=9) (l:=nm::ws) λr hr=>(h r hr).ln
 unfold ZR;rw [List.length_cons]at h1 h2;omega
theorem Zjx{nm:List Nat}{ws:List (List Nat)}(h:∀w∈nm::ws,Wd1 w):10∉ZR nm ws:=λz=>by
 rcases Zdq z with z|⟨w,h1,h2⟩
 · exact absurd (List.mem_singleton.mp z) (by decide)
 · exact(h w h1).no (by decide) h2
theorem QE{c:Nat}:∀{cs w:List Nat},w∈ZU c cs->w.length<=cs.length
 | [],w,h=>by rw [List.mem_singleton.mp h];exact Nat.le_refl _
 |x::xs,w,h=>by
  unfold ZU at h
  split at h
  · rcases List.mem_cons.mp h with rfl|h
    · exact Nat.zero_le _
    · exact Nat.le_succ_of_le (QE h)
  · split at h
    · rename_i e
      exact absurd e (U6 c xs)
    · rename_i p ps e
      rcases List.mem_cons.mp h with rfl|h
      · exact Nat.succ_le_succ (QE (cs:=xs) (by rw [e];exact List.mem_cons_self))
      · exact Nat.le_succ_of_le (QE (cs:=xs) (by rw [e];exact List.mem_cons_of_mem _ h))
theorem Zba(c:Nat):∀cs:List Nat,ZL [c] (ZU c cs)=cs
 | []=>rfl
 |x::xs=>by
  have ih:=Zba c xs;unfold ZU
  split
  · rename_i h
    subst h;cases e:ZU x xs with
    |nil=>exact absurd e (U6 x xs)
    |cons p ps=>
     rw [e]at ih;rw [ZL,ih];rfl
  · split
    · rename_i e
      exact absurd e (U6 c xs)
    · rename_i p ps e
      rw [e]at ih;cases ps with
      |nil=>rw [ZL]at ih ⊢;rw [ih]
      |cons p2 ps=>rw [ZL]at ih ⊢;rw [List.cons_append,List.cons_append,ih]
def wb(row nm:List Nat)(k:Nat):Option (List (List Nat)):=match ZU 32 row with
 |t::ws=>if t=nm/\ws.length=k then some ws else none
 | []=>none
def wD:Option (List (List Nat))->D
 |some ws => .lst (ws.map D.str)
 |none => .non
theorem Zlg{row:List Nat}{i:Nat}{δ:DL.Env}(h:Za i δ=some (.str row))(hl:row.length<=1000):eBM splitD (Za i) (Zb (eC (.str [32])) eNil) δ=some (.lst ((ZU 32 row).map D.str)):=by
 refine(V0 (s:=row) h (Zk (x:=.str [32]) rfl nil_of)).trans ?_;show(if row.length+2<=PySem.sizeLine then some (D.lst ((ZU 32 row).map D.str))else none)=_;rw [if_pos (by rw [PySem.sizeLine_eq];omega)]
noncomputable def wb1:DL.Env->Option Out:=(Zq 3 (eBM splitD (Za 0) (Zb (eC (.str [32])) eNil)))
noncomputable def wb2:DL.Env->Option Out:=(sIf (xOr (xB (eOp neD (eOp ixD (Za 3) (eC (.int 0))) (Za 1))) (xB (eOp neD (eCB lenD (Zb (Za 3) eNil)) (eOp addX (Za 2) (eC (.int 1)))))) (Zp (eC .non)) sNext)
theorem Zms:Zj1=Zg wb1 (Zg wb2 (Zp (eSl (Za 3) (xP (eC (.int 1))) xNoP))):=rfl
theorem JA(row nm:List Nat)(k:Nat)(hl:row.length<=1000):Vw [.str row,.str nm,nD k]=some (wD (wb row nm k)):=by
 refine Yt (δ:=[some (.str row),some (.str nm),some (nD k),none]) rfl ?_;rw [Zms];refine(Zt (a:=wb1) (Z1 (Zlg rfl hl))).trans ?_;unfold wb;cases hs:ZU 32 row with
 |nil=>exact absurd hs (U6 32 row)
 |cons t ws=>
  show Zg wb2 _ [some (.str row),some (.str nm),some (nD k),some (.lst ((t::ws).map D.str))]=_
  have e:xOr (xB (eOp neD (eOp ixD (Za 3) (eC (.int 0))) (Za 1))) (xB (eOp neD (eCB lenD (Zb (Za 3) eNil)) (eOp addX (Za 2) (eC (.int 1))))) [some (.str row),some (.str nm),some (nD k),some (.lst ((t::ws).map D.str))]=some (!decide (t=nm) || !decide (ws.length=k)):=by
   refine X1 (ZA ?_) λ_=>ZA ?_
   · exact(Zn (x:=.str t) (y:=.str nm) ((Zn (x:=.lst ((t::ws).map D.str)) (y:=nD 0) rfl rfl).trans (Z0 rfl)) rfl).trans (Qw _ _)
   · refine((Zn (x:=.int (((t::ws).map D.str).length:Int)) (y:=.int ((k:Int)+1)) ((Yd (Zk (x:=.lst ((t::ws).map D.str)) rfl nil_of)).trans len_lst) ((Zn (x:=nD k) (y:=.int 1) rfl rfl).trans (add_int _ _))).trans (Qv _ _)).trans ?_
     rw [List.length_map,List.length_cons,decide_eq_decide.mpr (show(((ws.length+1:Nat):Int)=(k:Int)+1) ↔ ws.length=k by omega)]
  by_cases h:t=nm/\ws.length=k
  · rw [decide_eq_true h.1,decide_eq_true h.2]at e
    dsimp only;rw [if_pos h];refine(Zt (a:=wb2) ((Ys e).trans rfl)).trans (Yr ?_);show some (D.lst (cutL ((t::ws).map D.str) (some ((1:Nat):Int)) none))=_;rw [JX];rfl
  · dsimp only
    rw [if_neg h]
    have e':(!decide (t=nm) || !decide (ws.length=k))=true:=by
     by_cases h1:t=nm
     · have h2:¬ws.length=k:=λz=>h ⟨h1,z⟩
       rw [decide_eq_false h2,Bool.not_false,Bool.or_true]
     · rw [decide_eq_false h1];rfl
    rw [e']at e;exact Yc ((Yj e).trans rfl)
theorem QF{row nm:List Nat}{k:Nat}{ws:List (List Nat)}(h:wb row nm k=some ws):row=ZR nm ws/\ws.length=k/\∀w∈ws,w.length<=row.length:=by
 unfold wb at h;cases hs:ZU 32 row with
 |nil=>rw [hs]at h;cases h
 |cons t us=>
  rw [hs]at h;dsimp only at h
  split at h
  · rename_i hz
    cases h;obtain⟨rfl,hz⟩:=hz;refine⟨?_,hz,λw hw=>QE (c:=32) (by rw [hs];exact List.mem_cons_of_mem _ hw)⟩;unfold ZR;rw [<-hs,Zba]
  · cases h
def plain(w:List Nat):Bool:=decide (0<w.length)&&w.all λc=>decide (c∈cs_MARK_SIGNS)
theorem Zb7(w:List Nat)(hl:w.length<=1000):UT [.str w]=some (.bl (plain w)):=
 Yt (δ:=[some (.str w)]) rfl (Yr (Jw ((Zn (y:=nD 0) (Vz rfl hl) rfl).trans (Jx _ _)) λ_=>ZgP cs_MARK_SIGNS w hl rfl))
theorem Zb8{α:Type}{γ:D->DL.Env->Option DL.Env}{τ:DL.Env->Option Bool}{ε:DL.Env->Option D}{δ0:DL.Env}(g:α->D)(p:α->Bool):∀(xs:List α),(∀x∈xs,∃δ1,γ (g x) δ0=some δ1/\τ δ1=some (p x)/\ε δ1=some (g x))->YJ γ τ ε δ0 (xs.map g)=some ((xs.filter p).map g)
 | [],_=>rfl
 |x::xs,h=>by
  obtain⟨δ1,h1,h2,h3⟩:=h x List.mem_cons_self;have ih:=Zb8 g p xs λy hy=>h y (List.mem_cons_of_mem _ hy)
  rw [List.map_cons];unfold YJ;rw [h1];dsimp only;rw [h2];cases hp:p x with
  |false=>rw [List.filter_cons_of_neg (by simp [hp])];exact ih
  |true=>
   rw [List.filter_cons_of_pos hp,List.map_cons];dsimp only;rw [h3,ih]
noncomputable def lpE:DL.Env->Option D:=(Yp (Z4 (Za 0)) (Zx 0) (xB (eOp (inD true) (Za 0) (Za 1))) (Za 0) 1 [1])
theorem Zmt:Zke=Zg (Zq 1 (eC (.str cs_MARK_SIGNS))) (Zp (Y6 (eOp neD (Za 0) (eC (.str []))) (eOp eqD (eCB lenD (Zb lpE eNil)) (eC (.int 0))))):=rfl
theorem Zb9(w:List Nat)(hl:w.length<=1000):UV [.str w]=some (.bl (plain w)):=by
 have hc:YJ (Zx 0) (xB (eOp (inD true) (Za 0) (Za 1))) (Za 0) [none,some (.str cs_MARK_SIGNS)] (w.map λc=>D.str [c])=some ((w.filter λc => !decide (c∈cs_MARK_SIGNS)).map λc=>D.str [c]):=by
  refine Zb8 (λc=>D.str [c]) (λc => !decide (c∈cs_MARK_SIGNS)) w λc _=>⟨[some (.str [c]),some (.str cs_MARK_SIGNS)],rfl,ZA ((Zn (x:=.str [c]) (y:=.str cs_MARK_SIGNS) rfl rfl).trans ?_),rfl⟩
  show some (D.bl (true != decide (c∈cs_MARK_SIGNS)))=_;cases decide (c∈cs_MARK_SIGNS)<;>rfl
 refine Yt (δ:=[some (.str w),none]) rfl ?_;rw [Zmt];refine(Zt (δ':=[some (.str w),some (.str cs_MARK_SIGNS)]) rfl).trans (Yr ?_);have hf:(w.filter λc => !decide (c∈cs_MARK_SIGNS)).length<=w.length:=List.length_filter_le _ _
 have e2:eOp eqD (eCB lenD (Zb lpE eNil)) (eC (.int 0)) [some (.str w),some (.str cs_MARK_SIGNS)]=some (.bl (w.all λc=>decide (c∈cs_MARK_SIGNS))):=by
  refine((Zn (y:=.int 0) ((Yd (Zk (Vs (xs:=w.map λc=>D.str [c]) rfl rfl hc (by rw [List.length_map];omega)) nil_of)).trans len_lst) rfl).trans (Uq _ _)).trans ?_;rw [List.length_map]
  congr 2
  rw [Bool.eq_iff_iff];simp
 refine(Jw ((Zn (x:=.str w) (y:=.str []) rfl rfl).trans (Qw _ _)) λ_=>e2).trans ?_;unfold plain;cases w<;>rfl
theorem ZgQ{i:Nat}{δ:DL.Env}{o:Option Nat}(h:Za i δ=some (oD o)):Yu (Za i) δ=some (.bl o.isNone):=by unfold Yu;rw [h];cases o<;>rfl
theorem ZeR{i:Nat}{δ:DL.Env}{o:Option Nat}(h:Za i δ=some (oD o)):Vb (Za i) δ=some (.bl o.isSome):=by unfold Vb;rw [h];cases o<;>rfl
theorem Uv{i:Nat}{δ:DL.Env}{o:Option (List (List Nat))}(h:Za i δ=some (wD o)):Yu (Za i) δ=some (.bl o.isNone):=by unfold Yu;rw [h];cases o<;>rfl
theorem ZeS{i:Nat}{δ:DL.Env}{o:Option (List (List Nat))}(h:Za i δ=some (wD o)):Vb (Za i) δ=some (.bl o.isSome):=by unfold Vb;rw [h];cases o<;>rfl
def Vh(w:List Nat)(m:Nat):Option Nat:=match Yk w with
 |some n=>if n<m then some n else none
 |none=>none
theorem Za0(w:List Nat)(m:Nat)(hl:w.length<=1000):Je [.str w,nD m]=some (oD (Vh w m)):=by
 refine Yt (δ:=[some (.str w),some (nD m),none]) rfl ?_;refine(Zt (δ':=[some (.str w),some (nD m),some (oD (Yk w))]) (Z1 ((ZT (n:=2) (Zk (x:=.str w) rfl (Zk (x:=.int 6) rfl nil_of)) rfl).trans (Zbw w hl)))).trans (Yr ?_);unfold Vh;cases hn:Yk w with
 |none=>exact(UX (ZcA (ZA (ZeR (o:=none) rfl)))).trans rfl
 |some n=>
  refine(UX (Zbv (ZA (ZeR (o:=some n) rfl)) (ZA ((Zn (x:=nD n) (y:=nD m) rfl rfl).trans (ZcW n m))))).trans ?_
  by_cases h:n<m
  · rw [decide_eq_true h,if_pos rfl]
    dsimp only;rw [if_pos h];rfl
  · rw [decide_eq_false h,if_neg (by decide)]
    dsimp only;rw [if_neg h];rfl
end K50
namespace K50
open DL L2
abbrev Pr:=List Nat×Nat
def prD(p:Pr):D := .tup [.str p.1,nD p.2]
def Zz(ws:List Pr):D := .lst (ws.map prD)
def YO(ws:List Pr):D := .tup (ws.map prD)
theorem Zh2:∀c∈cs_MARK_SIGNS,48<=c/\c<=122:=by decide
structure PrOk(q m:Nat)(p:Pr):Prop where
 ln:p.1.length=q
 cd:∀c∈p.1,c∈cs_MARK_SIGNS
 lt:p.2<m
theorem Zdr{w:List Nat}(h1:w.length<=9)(h2:∀c∈w,c∈cs_MARK_SIGNS):Wd1 w:=⟨h1,λc hc=>Zh2 c (h2 c hc)⟩
noncomputable def hd1:DL.Env->Option Out:=(Zq 1 (Zl 3 Vw [] (Zb (Za 0) (Zb (eC (.str YC)) (Zb (eC (.int 4)) eNil)))))
noncomputable def hd2:DL.Env->Option Out:=(sIf (xB (Yu (Za 1))) (Zp (eC .non)) sNext)
noncomputable def hd3:DL.Env->Option Out:=(Zq 2 (Yp (Z4 (Za 1)) (Zx 0) (λ_=>some true) (Zl 2 UR [] (Zb (Za 0) (Zb (eC (.int 6)) eNil))) 1 []))
noncomputable def hdT:DL.Env->Option D:=(XQ (Zb (eOp ixD (Za 2) (eC (.int 0))) (Zb (eOp ixD (Za 2) (eC (.int 1))) (Zb (eOp ixD (Za 2) (eC (.int 3))) eNil))))
noncomputable def hd4:DL.Env->Option Out:=(sIf (xOr (xB (eOp (inD false) (eC .non) (Za 2))) (xB (eOp (inD false) (eC (.int 0)) hdT))) (Zp (eC .non)) sNext)
theorem Zh3:Zj2=Zg hd1 (Zg hd2 (Zg hd3 (Zg hd4 (Zp (Za 2))))):=rfl
def hdD(n q a m:Nat):D := .lst [nD n,nD q,nD a,nD m]
structure Hd where
 n:Nat
 q:Nat
 a:Nat
 m:Nat
def Hd.d(h:Hd):D:=hdD h.n h.q h.a h.m
def hq4:Option Nat->Option Nat->Option Nat->Option Nat->Option Hd
 |some n,some q,some a,some m=>if(decide (n=0)||(decide (q=0)||decide (m=0)))=true then none else some ⟨n,q,a,m⟩
 |_,_,_,_=>none
def hdR(row:List Nat):Option Hd:=match wb row YC 4 with
 |some [a,b,c,d]=>hq4 (Yk a) (Yk b) (Yk c) (Yk d)
 |_=>none
def hD:Option Hd->D
 |some h=>h.d
 |none => .non
theorem b0(n:Nat):((n:Int) == 0)=decide (n=0):=by
 rw [Bool.eq_iff_iff];simp
theorem ZmZ{α:Type}{l:List α}(h:l.length=4):∃a b c d,l=[a,b,c,d]:=by
 match l,h with
 | [a,b,c,d],_=>exact⟨a,b,c,d,rfl⟩
theorem one{α:Type}{l:List α}(h:l.length=1):∃a,l=[a]:=by
 match l,h with
 | [a],_=>exact⟨a,rfl⟩
theorem two{α:Type}{l:List α}(h:l.length=2):∃a b,l=[a,b]:=by
 match l,h with
 | [a,b],_=>exact⟨a,b,rfl⟩
theorem Zh4(row:List Nat)(hl:row.length<=1000):Qy [.str row]=some (hD (hdR row)):=by
 refine Yt (δ:=[some (.str row),none,none]) rfl ?_;rw [Zh3];have t1:hd1 [some (.str row),none,none]=some (.nx [some (.str row),some (wD (wb row YC 4)),none]):=Z1 ((ZT (n:=3) (Zk (x:=.str row) rfl (Zk (x:=.str YC) rfl (Zk (x:=nD 4) rfl nil_of))) rfl).trans (JA row YC 4 hl));refine(Zt t1).trans ?_;unfold hdR;cases hw:wb row YC 4 with
 |none=>exact Yc ((Yj (ZA (Uv (o:=none) rfl))).trans rfl)
 |some ws=>
  obtain⟨_,h4,hlen⟩:=QF hw;refine(Zt (a:=hd2) ((Ys (ZA (Uv (o:=some ws) rfl))).trans rfl)).trans ?_;obtain⟨a,b,c,d,rfl⟩:=ZmZ h4
  have hc:YJ (Zx 0) (λ_=>some true) (Zl 2 UR [] (Zb (Za 0) (Zb (eC (.int 6)) eNil))) [none] ([a,b,c,d].map D.str)=some ([a,b,c,d].map λw=>oD (Yk w)):=
   Ut D.str (λw=>oD (Yk w)) [a,b,c,d] λw hw=>⟨[some (.str w)],rfl,(ZT (n:=2) (Zk (x:=.str w) rfl (Zk (x:=.int 6) rfl nil_of)) rfl).trans (Zbw w (Nat.le_trans (hlen w hw) hl))⟩
  refine(Zt (a:=hd3) (Z1 (Vs (xs:=[a,b,c,d].map D.str) rfl rfl hc (by simp)))).trans ?_;dsimp only;simp only [List.map_cons,List.map_nil];generalize Yk a=na;generalize Yk b=nb;generalize Yk c=nc;generalize Yk d=nd;generalize hG:wD (some [a,b,c,d])=G;show Zg hd4 (Zp (Za 2)) [some (.str row),some G,some (.lst [oD na,oD nb,oD nc,oD nd])]=_
  have e1:eOp (inD false) (eC .non) (Za 2) [some (.str row),some G,some (.lst [oD na,oD nb,oD nc,oD nd])]=some (.bl (na.isNone||(nb.isNone||(nc.isNone||(nd.isNone||false))))):=by
   refine(Zn (x:=.non) rfl rfl).trans ?_;cases na<;>cases nb<;>cases nc<;>cases nd<;>rfl
  cases na with
  |none=>exact Yc ((Yj (Qx (ZA e1))).trans rfl)
  |some n=>
  cases nb with
  |none=>exact Yc ((Yj (Qx (ZA e1))).trans rfl)
  |some q=>
  cases nc with
  |none=>exact Yc ((Yj (Qx (ZA e1))).trans rfl)
  |some a'=>
  cases nd with
  |none=>exact Yc ((Yj (Qx (ZA e1))).trans rfl)
  |some m=>
   have ht:hdT [some (.str row),some G,some (.lst [nD n,nD q,nD a',nD m])]=some (.tup [nD n,nD q,nD m]):=
    Zef (Zk ((Zn (x:=.lst [nD n,nD q,nD a',nD m]) (y:=nD 0) rfl rfl).trans (Z0 rfl)) (Zk ((Zn (x:=.lst [nD n,nD q,nD a',nD m]) (y:=nD 1) rfl rfl).trans (Z0 rfl)) (Zk ((Zn (x:=.lst [nD n,nD q,nD a',nD m]) (y:=nD 3) rfl rfl).trans (Z0 rfl)) nil_of))) (by simp)
   have e2:eOp (inD false) (eC (.int 0)) hdT [some (.str row),some G,some (.lst [nD n,nD q,nD a',nD m])]=some (.bl (decide (n=0)||(decide (q=0)||decide (m=0)))):=by
    refine(Zn (x:=.int 0) rfl ht).trans ?_;show some (D.bl (((n:Int) == 0)||(((q:Int) == 0)||(((m:Int) == 0)||false))))=_;rw [b0,b0,b0,Bool.or_false]
   have e3:=Zee (ZA e1) (ZA e2);unfold hq4;dsimp only;cases hz:(decide (n=0)||(decide (q=0)||decide (m=0)))with
   |true=>
    rw [hz]at e3;exact Yc ((Yj e3).trans rfl)
   |false=>
    rw [hz]at e3;exact(Zt (a:=hd4) ((Ys e3).trans rfl)).trans rfl
noncomputable def lh2:DL.Env->Option Out:=(sIf (xOr (xB (eOp neD (eCB lenD (Zb (Za 1) eNil)) (eC (.int 5)))) (xB (eOp neD (eOp ixD (Za 1) (eC (.int 0))) (eC (.str YC))))) (Zp (eC .non)) sNext)
noncomputable def lh3:DL.Env->Option Out:=(Zq 2 (Yp (Z4 (eSl (Za 1) (xP (eC (.int 1))) xNoP)) (Zx 0) (λ_=>some true) (Zl 1 V2 [] (Zb (Za 0) eNil)) 1 []))
noncomputable def lh4:DL.Env->Option Out:=(sIf (xOr (xB (eOp (ZJ λi j=>decide (i<j)) (eCB minQD (Zb (Za 2) eNil)) (eC (.int 0)))) (xOr (xB (eOp eqD (eOp ixD (Za 2) (eC (.int 0))) (eC (.int 0)))) (xOr (xB (eOp eqD (eOp ixD (Za 2) (eC (.int 1))) (eC (.int 0)))) (xB (eOp eqD (eOp ixD (Za 2) (eC (.int 3))) (eC (.int 0))))))) (Zp (eC .non)) sNext)
theorem Zge:Zkf=Zg (Zq 1 (eBM splitD (Za 0) (Zb (eC (.str [32])) eNil))) (Zg lh2 (Zg lh3 (Zg lh4 (Zp (Za 2))))):=rfl
def mI:Option Nat->Int
 |some n=>n
 |none => -1
theorem Zhm(w:List Nat):nI w=mI (Yk w):=by unfold nI;cases Yk w<;>rfl
theorem Zds(row:List Nat)(hl:row.length<=1000):Zkg [.str row]=some (hD (hdR row)):=by
 refine Yt (δ:=[some (.str row),none,none]) rfl ?_;rw [Zge];refine(Zt (Z1 (Zlg rfl hl))).trans ?_;unfold hdR wb;cases hs:ZU 32 row with
 |nil=>exact absurd hs (U6 32 row)
 |cons t ws=>
  show Zg lh2 _ [some (.str row),some (.lst ((t::ws).map D.str)),none]=_
  have e:xOr (xB (eOp neD (eCB lenD (Zb (Za 1) eNil)) (eC (.int 5)))) (xB (eOp neD (eOp ixD (Za 1) (eC (.int 0))) (eC (.str YC)))) [some (.str row),some (.lst ((t::ws).map D.str)),none]=some (!decide (ws.length=4) || !decide (t=YC)):=by
   refine X1 (ZA ?_) λ_=>ZA ?_
   · refine((Zn (x:=.int (((t::ws).map D.str).length:Int)) (y:=.int 5) ((Yd (Zk (x:=.lst ((t::ws).map D.str)) rfl nil_of)).trans len_lst) rfl).trans (Qv _ _)).trans ?_
     rw [List.length_map,List.length_cons,decide_eq_decide.mpr (show(((ws.length+1:Nat):Int)=5) ↔ ws.length=4 by omega)]
   · exact(Zn (x:=.str t) (y:=.str YC) ((Zn (x:=.lst ((t::ws).map D.str)) (y:=nD 0) rfl rfl).trans (Z0 rfl)) rfl).trans (Qw _ _)
  dsimp only
  by_cases h:t=YC/\ws.length=4
  · rw [decide_eq_true h.1,decide_eq_true h.2]at e
    rw [if_pos h];obtain⟨a,b,c,d,rfl⟩:=ZmZ h.2;refine(Zt (a:=lh2) ((Ys e).trans rfl)).trans ?_;have hlen:∀w∈[a,b,c,d],w.length<=1000:=λw hw=>Nat.le_trans (QE (c:=32) (by rw [hs];exact List.mem_cons_of_mem _ hw)) hl
    have hc:YJ (Zx 0) (λ_=>some true) (Zl 1 V2 [] (Zb (Za 0) eNil)) [none] ([a,b,c,d].map D.str)=some ([a,b,c,d].map λw=>D.int (nI w)):=
     Ut D.str (λw=>D.int (nI w)) [a,b,c,d] λw hw=>⟨[some (.str w)],rfl,(ZT (n:=1) (Zk (x:=.str w) rfl nil_of) rfl).trans (Zb6 w (hlen w hw))⟩
    have hi:Z4 (eSl (Za 1) (xP (eC (.int 1))) xNoP) [some (.str row),some (.lst ((t::[a,b,c,d]).map D.str)),none]=some ([a,b,c,d].map D.str):=by
     unfold Z4;rw [show eSl (Za 1) (xP (eC (.int 1))) xNoP [some (.str row),some (.lst ((t::[a,b,c,d]).map D.str)),none]=some (D.lst (cutL ((t::[a,b,c,d]).map D.str) (some ((1:Nat):Int)) none))from rfl,JX];rfl
    refine(Zt (a:=lh3) (Z1 (Vs hi rfl hc (by simp)))).trans ?_;dsimp only;simp only [List.map_cons,List.map_nil,Zhm];generalize Yk a=na;generalize Yk b=nb;generalize Yk c=nc;generalize Yk d=nd;generalize hG:D.lst [D.str t,D.str a,D.str b,D.str c,D.str d]=G;show Zg lh4 (Zp (Za 2)) [some (.str row),some G,some (.lst [.int (mI na),.int (mI nb),.int (mI nc),.int (mI nd)])]=_
    have e1:eOp (ZJ λi j=>decide (i<j)) (eCB minQD (Zb (Za 2) eNil)) (eC (.int 0)) [some (.str row),some G,some (.lst [.int (mI na),.int (mI nb),.int (mI nc),.int (mI nd)])]=some (.bl (decide (XY [mI na,mI nb,mI nc,mI nd]<0))):=rfl
    have e2:xOr (xB (eOp eqD (eOp ixD (Za 2) (eC (.int 0))) (eC (.int 0)))) (xOr (xB (eOp eqD (eOp ixD (Za 2) (eC (.int 1))) (eC (.int 0)))) (xB (eOp eqD (eOp ixD (Za 2) (eC (.int 3))) (eC (.int 0))))) [some (.str row),some G,some (.lst [.int (mI na),.int (mI nb),.int (mI nc),.int (mI nd)])]=some (decide (mI na=0)||(decide (mI nb=0)||decide (mI nd=0))):=
     X1 (ZA ((Zn (x:=.int (mI na)) (y:=.int 0) ((Zn (x:=.lst [.int (mI na),.int (mI nb),.int (mI nc),.int (mI nd)]) (y:=nD 0) rfl rfl).trans (Z0 rfl)) rfl).trans (Uq _ _))) λ_=>
     X1 (ZA ((Zn (x:=.int (mI nb)) (y:=.int 0) ((Zn (x:=.lst [.int (mI na),.int (mI nb),.int (mI nc),.int (mI nd)]) (y:=nD 1) rfl rfl).trans (Z0 rfl)) rfl).trans (Uq _ _))) λ_=>
     ZA ((Zn (x:=.int (mI nd)) (y:=.int 0) ((Zn (x:=.lst [.int (mI na),.int (mI nb),.int (mI nc),.int (mI nd)]) (y:=nD 3) rfl rfl).trans (Z0 rfl)) rfl).trans (Uq _ _))
    have e3:=X1 (ZA e1) λ_=>e2
    have hmin:decide (XY [mI na,mI nb,mI nc,mI nd]<0)=(na.isNone||(nb.isNone||(nc.isNone||nd.isNone))):=by
     rw [Bool.eq_iff_iff];cases na<;>cases nb<;>cases nc<;>cases nd<;>simp [XY,mI]<;>omega
    rw [hmin]at e3;cases na with
    |none=>exact Yc ((Yj e3).trans rfl)
    |some n=>
    cases nb with
    |none=>exact Yc ((Yj e3).trans rfl)
    |some q=>
    cases nc with
    |none=>exact Yc ((Yj e3).trans rfl)
    |some a'=>
    cases nd with
    |none=>exact Yc ((Yj e3).trans rfl)
    |some m=>
     have z0:∀k:Nat,decide (mI (some k)=0)=decide (k=0):=λk=>decide_eq_decide.mpr (by show((k:Int)=0) ↔ _;omega)
     rw [z0,z0,z0]at e3;unfold hq4;dsimp only;cases hz:(decide (n=0)||(decide (q=0)||decide (m=0)))with
     |true=>
      rw [hz]at e3;exact Yc ((Yj e3).trans rfl)
     |false=>
      rw [hz]at e3;exact(Zt (a:=lh4) ((Ys e3).trans rfl)).trans rfl
  · rw [if_neg h]
    have e':(!decide (ws.length=4) || !decide (t=YC))=true:=by
     by_cases h1:t=YC
     · have h2:¬ws.length=4:=λz=>h ⟨h1,z⟩
       rw [decide_eq_false h2];rfl
     · rw [decide_eq_false h1,Bool.not_false,Bool.or_true]
    rw [e']at e;exact Yc ((Yj e).trans rfl)
end K50
namespace K50
open DL L2
theorem ZeT{τ:DL.Env->Option Bool}{a b:DL.Env->Option D}{δ:DL.Env}(h:τ δ=some true):eIf τ a b δ=a δ:=by unfold eIf;rw [h]
theorem JB{τ:DL.Env->Option Bool}{a b:DL.Env->Option D}{δ:DL.Env}(h:τ δ=some false):eIf τ a b δ=b δ:=by unfold eIf;rw [h]
def X2(row nm:List Nat):Option (List Nat):=match wb row nm 1 with
 |some [w]=>some w
 |_=>none
def ldR(row:List Nat):Option (List Nat):=if row=LEAD then some []else match X2 row LEAD with
 |some w=>if plain w=true then some w else none
 |none=>none
def fsR(row:List Nat)(m:Nat):Option Nat:=match X2 row YN with
 |some w=>Vh w m
 |none=>none
def hmR(row:List Nat):Option Nat:=match X2 row PLACE with
 |some w=>Yk w
 |none=>none
def wyP(w x:List Nat)(q m:Nat):Option Pr:=if w.length=q/\plain w=true then(match Vh x m with
 |some p=>some (w,p)
 |none=>none)else none
def wyR(row:List Nat)(q m:Nat):Option Pr:=match wb row WAY 2 with
 |some [w,x]=>wyP w x q m
 |_=>none
def sD:Option (List Nat)->D
 |some w => .str w
 |none => .non
def pD:Option Pr->D
 |some p=>prD p
 |none => .non
theorem ZcX{row nm:List Nat}:(∃w,wb row nm 1=some [w]/\X2 row nm=some w/\w.length<=row.length)\/(wb row nm 1=none/\X2 row nm=none):=by
 unfold X2;cases hw:wb row nm 1 with
 |none=>exact .inr ⟨rfl,rfl⟩
 |some ws=>
  obtain⟨_,h1,h2⟩:=QF hw;obtain⟨w,rfl⟩:=one h1;exact .inl ⟨w,rfl,rfl,h2 w List.mem_cons_self⟩
noncomputable def le1:DL.Env->Option Out:=(sIf (xB (eOp eqD (Za 0) (eC (.str LEAD)))) (Zp (eC (.str []))) sNext)
noncomputable def le2:DL.Env->Option Out:=(Zq 1 (Zl 3 Vw [] (Zb (Za 0) (Zb (eC (.str LEAD)) (Zb (eC (.int 1)) eNil)))))
theorem Zh5:Zj3=Zg le1 (Zg le2 (Zp (eIf (YL (xB (Vb (Za 1))) (xB (Zl 1 UT [] (Zb (eOp ixD (Za 1) (eC (.int 0))) eNil)))) (eOp ixD (Za 1) (eC (.int 0))) (eC .non)))):=rfl
theorem Zh6(row:List Nat)(hl:row.length<=1000):Qz [.str row]=some (sD (ldR row)):=by
 refine Yt (δ:=[some (.str row),none]) rfl ?_;rw [Zh5];have e1:xB (eOp eqD (Za 0) (eC (.str LEAD))) [some (.str row),none]=some (decide (row=LEAD)):=ZA ((Zn (x:=.str row) (y:=.str LEAD) rfl rfl).trans (VZ _ _));unfold ldR
 by_cases h:row=LEAD
 · rw [decide_eq_true h]at e1
   rw [if_pos h];exact Yc ((Yj e1).trans rfl)
 · rw [decide_eq_false h]at e1
   rw [if_neg h];refine(Zt (a:=le1) ((Ys e1).trans rfl)).trans ?_;have t2:le2 [some (.str row),none]=some (.nx [some (.str row),some (wD (wb row LEAD 1))]):=Z1 ((ZT (n:=3) (Zk (x:=.str row) rfl (Zk (x:=.str LEAD) rfl (Zk (x:=nD 1) rfl nil_of))) rfl).trans (JA row LEAD 1 hl));refine(Zt t2).trans (Yr ?_);rcases ZcX (row:=row) (nm:=LEAD)with⟨w,h1,h2,h3⟩|⟨h1,h2⟩
   · rw [h1,h2]
     have e0:eOp ixD (Za 1) (eC (.int 0)) [some (.str row),some (wD (some [w]))]=some (.str w):=(Zn (x:=.lst [.str w]) (y:=nD 0) rfl rfl).trans (Z0 rfl);refine(UX (Zbv (ZA (ZeS (o:=some [w]) rfl)) (ZA ((ZT (n:=1) (Zk e0 nil_of) rfl).trans (Zb7 w (by omega)))))).trans ?_;dsimp only;cases plain w with
     |true=>exact e0
     |false=>rfl
   · rw [h1,h2]
     exact(UX (ZcA (ZA (ZeS (o:=none) rfl)))).trans rfl
theorem Zgf(row:List Nat)(m:Nat)(hl:row.length<=1000):QA [.str row,nD m]=some (oD (fsR row m)):=by
 refine Yt (δ:=[some (.str row),some (nD m),none]) rfl ?_;refine(Zt (δ':=[some (.str row),some (nD m),some (wD (wb row YN 1))]) (Z1 ((ZT (n:=3) (Zk (x:=.str row) rfl (Zk (x:=.str YN) rfl (Zk (x:=nD 1) rfl nil_of))) rfl).trans (JA row YN 1 hl)))).trans (Yr ?_);unfold fsR;rcases ZcX (row:=row) (nm:=YN)with⟨w,h1,h2,h3⟩|⟨h1,h2⟩
 · rw [h1,h2]
   refine(JB (ZA (Uv (o:=some [w]) rfl))).trans ?_;exact(ZT (n:=2) (Zk ((Zn (x:=.lst [.str w]) (y:=nD 0) rfl rfl).trans (Z0 rfl)) (Zk (x:=nD m) rfl nil_of)) rfl).trans (Za0 w m (by omega))
 · rw [h1,h2]
   exact(UX (ZA (Uv (o:=none) rfl))).trans rfl
theorem Zh7(row:List Nat)(hl:row.length<=1000):Ur [.str row]=some (oD (hmR row)):=by
 refine Yt (δ:=[some (.str row),none]) rfl ?_;refine(Zt (δ':=[some (.str row),some (wD (wb row PLACE 1))]) (Z1 ((ZT (n:=3) (Zk (x:=.str row) rfl (Zk (x:=.str PLACE) rfl (Zk (x:=nD 1) rfl nil_of))) rfl).trans (JA row PLACE 1 hl)))).trans (Yr ?_);unfold hmR;rcases ZcX (row:=row) (nm:=PLACE)with⟨w,h1,h2,h3⟩|⟨h1,h2⟩
 · rw [h1,h2]
   refine(JB (ZA (Uv (o:=some [w]) rfl))).trans ?_;exact(ZT (n:=2) (Zk ((Zn (x:=.lst [.str w]) (y:=nD 0) rfl rfl).trans (Z0 rfl)) (Zk (x:=.int 6) rfl nil_of)) rfl).trans (Zbw w (by omega))
 · rw [h1,h2]
   exact(UX (ZA (Uv (o:=none) rfl))).trans rfl
noncomputable def wy1:DL.Env->Option Out:=(Zq 3 (Zl 3 Vw [] (Zb (Za 0) (Zb (eC (.str WAY)) (Zb (eC (.int 2)) eNil)))))
noncomputable def wy2:DL.Env->Option Out:=(sIf (xOr (xB (Yu (Za 3))) (xOr (xB (eOp neD (eCB lenD (Zb (eOp ixD (Za 3) (eC (.int 0))) eNil)) (Za 1))) (Xd (xB (Zl 1 UT [] (Zb (eOp ixD (Za 3) (eC (.int 0))) eNil)))))) (Zp (eC .non)) sNext)
noncomputable def wy3:DL.Env->Option Out:=(Zq 4 (Zl 2 Je [] (Zb (eOp ixD (Za 3) (eC (.int 1))) (Zb (Za 2) eNil))))
theorem Zjy:Zj4=Zg wy1 (Zg wy2 (Zg wy3 (Zp (eIf (xB (Yu (Za 4))) (eC .non) (XQ (Zb (eOp ixD (Za 3) (eC (.int 0))) (Zb (Za 4) eNil))))))):=rfl
theorem Zjz(row:List Nat)(q m:Nat)(hl:row.length<=1000):UU [.str row,nD q,nD m]=some (pD (wyR row q m)):=by
 refine Yt (δ:=[some (.str row),some (nD q),some (nD m),none,none]) rfl ?_;rw [Zjy];have t1:wy1 [some (.str row),some (nD q),some (nD m),none,none]=some (.nx [some (.str row),some (nD q),some (nD m),some (wD (wb row WAY 2)),none]):=Z1 ((ZT (n:=3) (Zk (x:=.str row) rfl (Zk (x:=.str WAY) rfl (Zk (x:=nD 2) rfl nil_of))) rfl).trans (JA row WAY 2 hl));refine(Zt t1).trans ?_
 unfold wyR;cases hw:wb row WAY 2 with
 |none=>exact Yc ((Yj (Qx (ZA (Uv (o:=none) rfl)))).trans rfl)
 |some ws=>
  obtain⟨_,h2,hlen⟩:=QF hw;obtain⟨w,x,rfl⟩:=two h2;have hlw:=hlen w List.mem_cons_self;have hlx:=hlen x (List.mem_cons_of_mem _ List.mem_cons_self);have e0:∀v4,eOp ixD (Za 3) (eC (.int 0)) [some (.str row),some (nD q),some (nD m),some (wD (some [w,x])),v4]=some (.str w):=λv4=>(Zn (x:=.lst [.str w,.str x]) (y:=nD 0) rfl rfl).trans (Z0 rfl)
  have e:xOr (xB (Yu (Za 3))) (xOr (xB (eOp neD (eCB lenD (Zb (eOp ixD (Za 3) (eC (.int 0))) eNil)) (Za 1))) (Xd (xB (Zl 1 UT [] (Zb (eOp ixD (Za 3) (eC (.int 0))) eNil))))) [some (.str row),some (nD q),some (nD m),some (wD (some [w,x])),none]=some (!decide (w.length=q) || !plain w):=by
   refine Zee (ZA (Uv (o:=some [w,x]) rfl)) (X1 (ZA ?_) λ_=>Zbi (ZA ((ZT (n:=1) (Zk (e0 none) nil_of) rfl).trans (Zb7 w (by omega)))));refine((Zn (x:=nD w.length) (y:=nD q) ((Yd (Zk (e0 none) nil_of)).trans (len_str (by omega))) rfl).trans (Qv _ _)).trans ?_;rw [decide_eq_decide.mpr (show((w.length:Int)=(q:Int)) ↔ w.length=q by omega)]
  dsimp only;unfold wyP
  by_cases h:w.length=q/\plain w=true
  · rw [decide_eq_true h.1,h.2]at e
    rw [if_pos h];refine(Zt (a:=wy2) ((Ys e).trans rfl)).trans ?_;have e1:eOp ixD (Za 3) (eC (.int 1)) [some (.str row),some (nD q),some (nD m),some (wD (some [w,x])),none]=some (.str x):=(Zn (x:=.lst [.str w,.str x]) (y:=nD 1) rfl rfl).trans (Z0 rfl);have t3:wy3 [some (.str row),some (nD q),some (nD m),some (wD (some [w,x])),none]=some (.nx [some (.str row),some (nD q),some (nD m),some (wD (some [w,x])),some (oD (Vh x m))]):=Z1 ((ZT (n:=2) (Zk e1 (Zk (x:=nD m) rfl nil_of)) rfl).trans (Za0 x m (by omega)))
    refine(Zt t3).trans (Yr ?_);cases Vh x m with
    |none=>exact(UX (ZA (ZgQ (o:=none) rfl))).trans rfl
    |some p=>exact(JB (ZA (ZgQ (o:=some p) rfl))).trans (Zef (Zk (e0 _) (Zk rfl nil_of)) (by simp))
  · rw [if_neg h]
    have e':(!decide (w.length=q) || !plain w)=true:=by
     by_cases h1:w.length=q
     · have h2 : plain w = false := by
        cases hp:plain w with
        |false=>rfl
        |true=>exact absurd ⟨h1,hp⟩ h
       rw [h2,Bool.not_false,Bool.or_true]
     · rw [decide_eq_false h1];rfl
    rw [e']at e;exact Yc ((Yj e).trans rfl)
def stB(row:List Nat)(k:Nat)(h:Hd):Bool:=if k=1 then(ldR row).isSome else if k=2 then(fsR row h.m).isSome else if(k-3) % (h.n+1)=0 then(hmR row).isSome else(wyR row h.q h.m).isSome
noncomputable def ls1:DL.Env->Option Out:=(sIf (YL (xB (eOp eqD (Za 1) (eC (.int 1)))) (xB (eOp eqD (Za 0) (eC (.str LEAD))))) (Zp (eC (.bl true))) sNext)
noncomputable def lsR(nm:List Nat)(e:DL.Env->Option D):DL.Env->Option D:=(Y6 (eOp eqD (eCB lenD (Zb (Za 3) eNil)) (eC (.int 2))) (Y6 (eOp eqD (eOp ixD (Za 3) (eC (.int 0))) (eC (.str nm))) e))
noncomputable def lsN(i:Nat):DL.Env->Option D:=(Zl 1 V2 [] (Zb (eOp ixD (Za 3) (eC (.int i))) eNil))
noncomputable def lsC(i:Nat):DL.Env->Option D:=(Uc (ZJ λi j=>decide (i<=j)) (ZJ λi j=>decide (i<j)) (eC (.int 0)) (lsN i) (eOp ixD (Za 2) (eC (.int 3))))
noncomputable def lsX(k:Int)(nm:List Nat):DL.Env->Option Out:=(sIf (xOr (xB (eOp neD (eCB lenD (Zb (Za 3) eNil)) (eC (.int k)))) (xB (eOp neD (eOp ixD (Za 3) (eC (.int 0))) (eC (.str nm))))) (Zp (eC (.bl false))) sNext)
noncomputable def ls2:DL.Env->Option Out:=(sIf (xB (eOp eqD (Za 1) (eC (.int 1)))) (Zp (lsR LEAD (Zl 1 UV [] (Zb (eOp ixD (Za 3) (eC (.int 1))) eNil)))) sNext)
noncomputable def ls3:DL.Env->Option Out:=(sIf (xB (eOp eqD (Za 1) (eC (.int 2)))) (Zg (lsX 2 YN) (Zp (lsC 1))) sNext)
noncomputable def ls4:DL.Env->Option Out:=(sIf (xB (eOp eqD (eOp modW (eOp subD (Za 1) (eC (.int 3))) (eOp addX (eOp ixD (Za 2) (eC (.int 0))) (eC (.int 1)))) (eC (.int 0)))) (Zp (lsR PLACE (eOp (ZJ λi j=>decide (j<=i)) (lsN 1) (eC (.int 0))))) sNext)
noncomputable def ls6:DL.Env->Option Out:=(sIf (xOr (Xd (xB (Zl 1 UV [] (Zb (eOp ixD (Za 3) (eC (.int 1))) eNil)))) (xB (eOp neD (eCB lenD (Zb (eOp ixD (Za 3) (eC (.int 1))) eNil)) (eOp ixD (Za 2) (eC (.int 1)))))) (Zp (eC (.bl false))) sNext)
theorem Zmu:Zkh=Zg (Zq 3 (eBM splitD (Za 0) (Zb (eC (.str [32])) eNil))) (Zg ls1 (Zg ls2 (Zg ls3 (Zg ls4 (Zg (lsX 3 WAY) (Zg ls6 (Zp (lsC 2)))))))):=rfl
end K50
namespace K50
open DL L2
abbrev LE(row:List Nat)(k:Nat)(h:Hd)(ws:List (List Nat)):DL.Env:=[some (.str row),some (nD k),some h.d,some (.lst (ws.map D.str))]
section
variable{row:List Nat}{k:Nat}{h:Hd}{t:List Nat}{ws:List (List Nat)}
theorem ZiX:eCB lenD (Zb (Za 3) eNil) (LE row k h (t::ws))=some (nD (ws.length+1)):=(Yd (Zk (x:=.lst ((t::ws).map D.str)) rfl nil_of)).trans (len_lst.trans (by rw [List.length_map,List.length_cons]))
theorem QG{i:Nat}{w:List Nat}(hw:(t::ws)[i]? = some w):eOp ixD (Za 3) (eC (.int (i:Int))) (LE row k h (t::ws))=some (.str w):=(Zn (x:=.lst ((t::ws).map D.str)) (y:=nD i) rfl rfl).trans (Z0 (by rw [List.getElem?_map,hw];rfl))
theorem UZ(a b:Nat):eqD (nD a) (nD b)=some (.bl (decide (a=b))):=by rw [Uq,decide_eq_decide.mpr (show((a:Int)=(b:Int)) ↔ a=b by omega)]
theorem ZgR(a b:Nat):neD (nD a) (nD b)=some (.bl (!decide (a=b))):=by rw [Qv,decide_eq_decide.mpr (show((a:Int)=(b:Int)) ↔ a=b by omega)]
theorem l_k(c:Nat):eOp eqD (Za 1) (eC (.int (c:Int))) (LE row k h (t::ws))=some (.bl (decide (k=c))):=(Zn (x:=nD k) (y:=nD c) rfl rfl).trans (UZ k c)
theorem ZcY{nm:List Nat}{e:DL.Env->Option D}{b:Bool}(he:ws.length=1->e (LE row k h (t::ws))=some (.bl b)):lsR nm e (LE row k h (t::ws))=some (.bl (decide (ws.length=1)&&(decide (t=nm)&&b))):=by
 refine Jw ?_ λh1=>Jw ?_ λ_=>he (of_decide_eq_true h1)
 · refine((Zn (y:=nD 2) ZiX rfl).trans (UZ _ _)).trans ?_
   rw [decide_eq_decide.mpr (show ws.length+1=2 ↔ ws.length=1 by omega)]
 · exact(Zn (x:=.str t) (y:=.str nm) (QG (i:=0) rfl) rfl).trans (VZ _ _)
theorem ZgS(c:Nat)(nm:List Nat):xOr (xB (eOp neD (eCB lenD (Zb (Za 3) eNil)) (eC (.int ((c+1:Nat):Int))))) (xB (eOp neD (eOp ixD (Za 3) (eC (.int 0))) (eC (.str nm)))) (LE row k h (t::ws))=some (!decide (ws.length=c) || !decide (t=nm)):=by
 refine X1 (ZA ?_) λ_=>ZA ((Zn (x:=.str t) (y:=.str nm) (QG (i:=0) rfl) rfl).trans (Qw _ _))
 refine((Zn (y:=nD (c+1)) ZiX rfl).trans (ZgR _ _)).trans ?_;rw [decide_eq_decide.mpr (show ws.length+1=c+1 ↔ ws.length=c by omega)]
theorem Zei{i:Nat}{w:List Nat}(hw:(t::ws)[i]? = some w)(hl:w.length<=1000):lsN i (LE row k h (t::ws))=some (.int (nI w)):=(ZT (n:=1) (Zk (QG hw) nil_of) rfl).trans (Zb6 w hl)
theorem ZiY(w:List Nat):decide (0<=nI w)=(Yk w).isSome:=by
 rw [Zhm];cases Yk w with
 |none=>rfl
 |some n=>exact decide_eq_true (by show(0:Int)<=(n:Int);omega)
theorem ZgT{i:Nat}{w:List Nat}(hw:(t::ws)[i]? = some w)(hl:w.length<=1000):lsC i (LE row k h (t::ws))=some (.bl (Vh w h.m).isSome):=by
 have e1:eOp (ZJ λi j=>decide (i<=j)) (eC (.int 0)) (lsN i) (LE row k h (t::ws))=some (.bl (decide (0<=nI w))):=(Zn (x:=.int 0) rfl (Zei hw hl)).trans rfl;have e2:eOp (ZJ λi j=>decide (i<j)) (lsN i) (eOp ixD (Za 2) (eC (.int 3))) (LE row k h (t::ws))=some (.bl (decide (nI w<(h.m:Int)))):=(Zn (Zei hw hl) ((Zn (x:=h.d) (y:=nD 3) rfl rfl).trans (Z0 rfl))).trans rfl
 unfold lsC Uc;rw [e1,e2];unfold Vh;rw [ZiY,Zhm];cases Yk w with
 |none=>rfl
 |some n=>
  show some (D.bl (decide ((n:Int)<(h.m:Int))))=_
  by_cases hz:n<h.m
  · rw [decide_eq_true (show(n:Int)<(h.m:Int) by omega)]
    dsimp only;rw [if_pos hz];rfl
  · rw [decide_eq_false (show ¬(n:Int)<(h.m:Int) by omega)]
    dsimp only;rw [if_neg hz];rfl
theorem ZfI(hs:ZU 32 row=t::ws)(nm:List Nat)(c:Nat):wb row nm c=if t=nm/\ws.length=c then some ws else none:=by unfold wb;rw [hs]
theorem ZgU{a b:Bool}{A B:Prop} [Decidable A] [Decidable B](h:¬(B/\A)):(!decide A || !decide B)=true:=by
 by_cases h1:A
 · have h2:¬B:=λz=>h ⟨z,h1⟩
   rw [decide_eq_false h2,Bool.not_false,Bool.or_true]
 · rw [decide_eq_false h1];rfl
theorem ZdW(hl:row.length<=1000)(hk:1<=k)(hk2:k<=1000):Zki [.str row,nD k,h.d]=some (.bl (stB row k h)):=by
 refine Yt (δ:=[some (.str row),some (nD k),some h.d,none]) rfl ?_;rw [Zmu];refine(Zt (Z1 (Zlg rfl hl))).trans ?_;unfold stB;cases hs:ZU 32 row with
 |nil=>exact absurd hs (U6 32 row)
 |cons t ws=>
  show Zg ls1 _ (LE row k h (t::ws))=_;have hlw:∀w∈t::ws,w.length<=1000:=λw hw=>Nat.le_trans (QE (c:=32) (by rw [hs];exact hw)) hl
  have e1:YL (xB (eOp eqD (Za 1) (eC (.int 1)))) (xB (eOp eqD (Za 0) (eC (.str LEAD)))) (LE row k h (t::ws))=some (decide (k=1)&&decide (row=LEAD)):=ZcE (ZA (l_k 1)) λ_=>ZA ((Zn (x:=.str row) (y:=.str LEAD) rfl rfl).trans (VZ _ _))
  by_cases h1:k=1
  · rw [if_pos h1]
    unfold ldR
    by_cases h2:row=LEAD
    · rw [decide_eq_true h1,decide_eq_true h2]at e1
      rw [if_pos h2];exact Yc ((Yj e1).trans rfl)
    · rw [decide_eq_true h1,decide_eq_false h2]at e1
      rw [if_neg h2];refine(Zt (a:=ls1) ((Ys e1).trans rfl)).trans ?_;have e2:xB (eOp eqD (Za 1) (eC (.int 1))) (LE row k h (t::ws))=some (decide (k=1)):=ZA (l_k 1);rw [decide_eq_true h1]at e2;refine Yc ((Yj e2).trans (Yr ?_));unfold X2;rw [ZfI hs];cases ws with
      |nil=>
       refine(ZcY (b:=false) (λz=>by cases z)).trans ?_;rw [if_neg (λz=>by cases z.2)];rfl
      |cons w r=>
       refine(ZcY (b:=plain w) λz=>(ZT (n:=1) (Zk (QG (i:=1) rfl) nil_of) rfl).trans (Zb9 w (hlw w (List.mem_cons_of_mem _ List.mem_cons_self)))).trans ?_
       by_cases h3:t=LEAD/\(w::r).length=1
       · obtain⟨h4,h5⟩:=h3
         have hr:r=[]:=by
          cases r with
          |nil=>rfl
          |cons _ _=>simp at h5
         subst hr;rw [if_pos ⟨h4,rfl⟩,decide_eq_true h4];dsimp only;cases plain w<;>rfl
       · rw [if_neg h3]
         by_cases h4:(w::r).length=1
         · have h5:¬t=LEAD:=λz=>h3 ⟨z,h4⟩
           rw [decide_eq_false h5,decide_eq_true h4];rfl
         · rw [decide_eq_false h4]
           rfl
  · rw [if_neg h1]
    rw [decide_eq_false h1]at e1;refine(Zt (a:=ls1) ((Ys e1).trans rfl)).trans ?_;have e2:xB (eOp eqD (Za 1) (eC (.int 1))) (LE row k h (t::ws))=some (decide (k=1)):=ZA (l_k 1);rw [decide_eq_false h1]at e2;refine(Zt (a:=ls2) ((Ys e2).trans rfl)).trans ?_;have e3:xB (eOp eqD (Za 1) (eC (.int 2))) (LE row k h (t::ws))=some (decide (k=2)):=ZA (l_k 2)
    by_cases h2:k=2
    · rw [if_pos h2]
      rw [decide_eq_true h2]at e3;refine Yc ((Yj e3).trans ?_);have e4:=ZgS (row:=row) (k:=k) (h:=h) (t:=t) (ws:=ws) 1 YN;unfold fsR X2;rw [ZfI hs]
      by_cases h3:t=YN/\ws.length=1
      · obtain⟨h4,h5⟩:=h3
        rw [decide_eq_true h4,decide_eq_true h5]at e4;obtain⟨w,rfl⟩:=one h5;rw [if_pos ⟨h4,rfl⟩];refine(Zt (a:=lsX 2 YN) ((Ys e4).trans rfl)).trans (Yr ?_);exact ZgT (i:=1) rfl (hlw w (List.mem_cons_of_mem _ List.mem_cons_self))
      · rw [ZgU (a:=true) (b:=true) h3]at e4
        rw [if_neg h3];exact Yc ((Yj e4).trans rfl)
    · rw [if_neg h2]
      rw [decide_eq_false h2]at e3;refine(Zt (a:=ls3) ((Ys e3).trans rfl)).trans ?_
      have hmod:eOp modW (eOp subD (Za 1) (eC (.int 3))) (eOp addX (eOp ixD (Za 2) (eC (.int 0))) (eC (.int 1))) (LE row k h (t::ws))=some (nD ((k-3) % (h.n+1))):=by
       have s1:eOp subD (Za 1) (eC (.int 3)) (LE row k h (t::ws))=some (nD (k-3)):=by
        refine(Zn (x:=nD k) (y:=.int 3) rfl rfl).trans ?_;show some (D.int ((k:Int)-3))=_;rw [show(k:Int)-3=((k-3:Nat):Int) by omega]
       have s2:eOp addX (eOp ixD (Za 2) (eC (.int 0))) (eC (.int 1)) (LE row k h (t::ws))=some (nD (h.n+1)):=(Zn (x:=nD h.n) (y:=.int 1) ((Zn (x:=h.d) (y:=nD 0) rfl rfl).trans (Z0 rfl)) rfl).trans (add_int _ _);refine(Zn s1 s2).trans ?_;rw [ZeO (by omega)]
       congr 2
       rw [Int.fmod_eq_emod_of_nonneg _ (by omega)];rfl
      have e4:xB (eOp eqD (eOp modW (eOp subD (Za 1) (eC (.int 3))) (eOp addX (eOp ixD (Za 2) (eC (.int 0))) (eC (.int 1)))) (eC (.int 0))) (LE row k h (t::ws))=some (decide ((k-3) % (h.n+1)=0)):=ZA ((Zn (y:=nD 0) hmod rfl).trans (UZ _ _))
      by_cases h3:(k-3) % (h.n+1)=0
      · rw [if_pos h3]
        rw [decide_eq_true h3]at e4;refine Yc ((Yj e4).trans (Yr ?_));unfold hmR X2;rw [ZfI hs];cases ws with
        |nil=>
         refine(ZcY (b:=false) (λz=>by cases z)).trans ?_;rw [if_neg (λz=>by cases z.2)];rfl
        |cons w r=>
         refine(ZcY (b:=(Yk w).isSome) λz=>((Zn (y:=.int 0) (Zei (i:=1) rfl (hlw w (List.mem_cons_of_mem _ List.mem_cons_self))) rfl).trans (show _=some (D.bl (decide (0<=nI w)))from rfl)).trans (by rw [ZiY])).trans ?_
         by_cases h3:t=PLACE/\(w::r).length=1
         · obtain⟨h4,h5⟩:=h3
           have hr:r=[]:=by
            cases r with
            |nil=>rfl
            |cons _ _=>simp at h5
           subst hr;rw [if_pos ⟨h4,rfl⟩,decide_eq_true h4];rfl
         · rw [if_neg h3]
           by_cases h4:(w::r).length=1
           · have h5:¬t=PLACE:=λz=>h3 ⟨z,h4⟩
             rw [decide_eq_false h5,decide_eq_true h4];rfl
           · rw [decide_eq_false h4]
             rfl
      · rw [if_neg h3]
        rw [decide_eq_false h3]at e4;refine(Zt (a:=ls4) ((Ys e4).trans rfl)).trans ?_;have e5:=ZgS (row:=row) (k:=k) (h:=h) (t:=t) (ws:=ws) 2 WAY;unfold wyR;rw [ZfI hs]
        by_cases h6:t=WAY/\ws.length=2
        · obtain⟨h4,h5⟩:=h6
          rw [decide_eq_true h4,decide_eq_true h5]at e5;obtain⟨w,x,rfl⟩:=two h5;rw [if_pos ⟨h4,rfl⟩];refine(Zt (a:=lsX 3 WAY) ((Ys e5).trans rfl)).trans ?_;have hw:=hlw w (List.mem_cons_of_mem _ List.mem_cons_self);have hx:=hlw x (List.mem_cons_of_mem _ (List.mem_cons_of_mem _ List.mem_cons_self))
          have e6:xOr (Xd (xB (Zl 1 UV [] (Zb (eOp ixD (Za 3) (eC (.int 1))) eNil)))) (xB (eOp neD (eCB lenD (Zb (eOp ixD (Za 3) (eC (.int 1))) eNil)) (eOp ixD (Za 2) (eC (.int 1))))) (LE row k h (t::[w,x]))=some (!plain w || !decide (w.length=h.q)):=
           X1 (Zbi (ZA ((ZT (n:=1) (Zk (QG (i:=1) rfl) nil_of) rfl).trans (Zb9 w hw)))) λ_=>ZA ((Zn (x:=nD w.length) (y:=nD h.q) ((Yd (Zk (QG (i:=1) rfl) nil_of)).trans (len_str (by omega))) ((Zn (x:=h.d) (y:=nD 1) rfl rfl).trans (Z0 rfl))).trans (ZgR _ _))
          dsimp only;unfold wyP
          by_cases h7:w.length=h.q/\plain w=true
          · rw [decide_eq_true h7.1,h7.2]at e6
            rw [if_pos h7];refine(Zt (a:=ls6) ((Ys e6).trans rfl)).trans (Yr ?_);refine(ZgT (i:=2) rfl hx).trans ?_;cases Vh x h.m<;>rfl
          · rw [if_neg h7]
            have e':(!plain w || !decide (w.length=h.q))=true:=by
             cases hp:plain w with
             |false=>rfl
             |true=>
              have:¬w.length=h.q:=λz=>h7 ⟨z,hp⟩
              rw [decide_eq_false this];rfl
            rw [e']at e6;exact Yc ((Yj e6).trans rfl)
        · rw [ZgU (a:=true) (b:=true) h6]at e5
          rw [if_neg h6];exact Yc ((Yj e5).trans rfl)
end
end K50
namespace K50
open DL L2
def YQ(lead:List Nat):List Nat:=if lead=[]then LEAD else ZR LEAD [lead]
def YR(p:Pr):List Nat:=ZR WAY [p.1,Zo p.2]
theorem ZjA{q m:Nat}{p:Pr}(h:PrOk q m p)(hq:q<=8)(hm:m<=30):∀w∈WAY::[p.1,Zo p.2],Wd1 w:=λw hw=>by
 have:=h.lt;have:=h.ln;simp only [List.mem_cons,List.not_mem_nil,or_false]at hw;rcases hw with rfl|rfl|rfl
 · exact wd_names.2.2.2.2
 · exact Zdr (by omega) h.cd
 · exact UY (by omega)
structure T where
 lead:List Nat
 f:Nat
 a:Nat
 n:Nat
 q:Nat
 m:Nat
 hs:List Nat
 W:List (List Pr)
structure T.Ok(t:T):Prop where
 m0:0<t.m
 m6:t.m<=30
 mn:t.m*(t.n+1)<=30
 n0:0<t.n
 n4:t.n<=30
 q0:0<t.q
 q4:t.q<=8
 fm:t.f<t.m
 am:t.a<1000000
 hl:t.hs.length=t.m
 hb:∀h∈t.hs,h<1000000
 wl:t.W.length=t.m
 rl:∀ws∈t.W,ws.length=t.n
 pr:∀ws∈t.W,∀p∈ws,PrOk t.q t.m p
 ll:t.lead.length<=9
 lc:∀c∈t.lead,c∈cs_MARK_SIGNS
def blk(h:Nat)(ws:List Pr):List (List Nat):=ZR PLACE [Zo h]::ws.map YR
def Yq:List Nat->List (List Pr)->List (List Nat)
 |h::hs,ws::W=>blk h ws++Yq hs W
 |_,_=>[]
def T.rows(t:T):List (List Nat):=ZR YC [Zo t.n,Zo t.q,Zo t.a,Zo t.m]::YQ t.lead::ZR YN [Zo t.f]::Yq t.hs t.W
theorem blk_len{n h:Nat}{ws:List Pr}(hw:ws.length=n):(blk h ws).length=n+1:=by
 unfold blk;rw [List.length_cons,List.length_map,hw]
theorem Zdt{n:Nat}:∀(hs:List Nat)(W:List (List Pr))(i s:Nat){h:Nat}{ws:List Pr},(∀ws∈W,ws.length=n)->hs[i]? = some h->W[i]? = some ws->s<n+1->(Yq hs W)[i*(n+1)+s]? = (blk h ws)[s]?
 | [],_,_,_,_,_,_,h1,_,_=>by simp at h1
 |_::_,[],_,_,_,_,_,_,h2,_=>by simp at h2
 |h0::hs,w0::W,0,s,h,ws,hn,h1,h2,h3=>by
  cases h1;cases h2;rw [Nat.zero_mul,Nat.zero_add];show(blk h0 w0++Yq hs W)[s]? = _;rw [List.getElem?_append_left (by rw [blk_len (hn w0 List.mem_cons_self)];exact h3)]
 |h0::hs,w0::W,i+1,s,h,ws,hn,h1,h2,h3=>by
  have hl:=blk_len (h:=h0) (hn w0 List.mem_cons_self);show(blk h0 w0++Yq hs W)[(i+1)*(n+1)+s]? = _;rw [List.getElem?_append_right (by rw [hl,Nat.succ_mul];omega),hl,show(i+1)*(n+1)+s-(n+1)=i*(n+1)+s by rw [Nat.succ_mul];omega];exact Zdt hs W i s (λx hx=>hn x (List.mem_cons_of_mem _ hx)) h1 h2 h3
theorem ZaU{n:Nat}:∀(hs:List Nat)(W:List (List Pr)),(∀ws∈W,ws.length=n)->hs.length=W.length->(Yq hs W).length=hs.length*(n+1)
 | [],_,_,_=>by show 0=_;rw [List.length_nil,Nat.zero_mul]
 |_::_,[],_,h=>by simp at h
 |h0::hs,w0::W,hn,h=>by
  show(blk h0 w0++Yq hs W).length=_;rw [List.length_append,blk_len (hn w0 List.mem_cons_self),ZaU hs W (λx hx=>hn x (List.mem_cons_of_mem _ hx)) (by simpa using h),List.length_cons,Nat.succ_mul];omega
theorem T.rows_len{t:T}(o:t.Ok):t.rows.length=3+t.m*(t.n+1):=by
 unfold T.rows;rw [List.length_cons,List.length_cons,List.length_cons,ZaU t.hs t.W o.rl (by rw [o.hl,o.wl]),o.hl];omega
theorem T.rows_at{t:T}(o:t.Ok){i s h:Nat}{ws:List Pr}(h1:t.hs[i]? = some h)(h2:t.W[i]? = some ws)(h3:s<t.n+1):t.rows[3+i*(t.n+1)+s]? = (blk h ws)[s]? := by
 unfold T.rows;rw [show 3+i*(t.n+1)+s=i*(t.n+1)+s+1+1+1 by omega,List.getElem?_cons_succ,List.getElem?_cons_succ,List.getElem?_cons_succ];exact Zdt t.hs t.W i s o.rl h1 h2 h3
def JC(r:List Nat):Prop:=r.length<=50/\10∉r
theorem Zbx{nm:List Nat}{ws:List (List Nat)}(h:∀w∈nm::ws,Wd1 w)(hl:ws.length<=4):JC (ZR nm ws):=⟨Zh1 h hl,Zjx h⟩
theorem Zej{nm w:List Nat}(h1:Wd1 nm)(h2:Wd1 w):JC (ZR nm [w]):=Zbx (λx hx=>by
 simp only [List.mem_cons,List.not_mem_nil,or_false]at hx;rcases hx with rfl|rfl<;>assumption) (by simp)
theorem ZeU{q m:Nat}(hq:q<=8)(hm:m<=30):∀(hs:List Nat)(W:List (List Pr)),(∀h∈hs,h<1000000)->(∀ws∈W,∀p∈ws,PrOk q m p)->∀r∈Yq hs W,JC r
 | [],_,_,_,r,hr=>nomatch hr
 |_::_,[],_,_,r,hr=>nomatch hr
 |h0::hs,w0::W,h1,h2,r,hr=>by
  rcases List.mem_append.mp (show r∈blk h0 w0++Yq hs W from hr)with z|z
  · rcases List.mem_cons.mp z with rfl|z
    · exact Zej wd_names.2.2.2.1 (UY (h1 h0 List.mem_cons_self))
    · obtain⟨p,hp,rfl⟩:=List.mem_map.mp z
      exact Zbx (ZjA (h2 w0 List.mem_cons_self p hp) hq hm) (by simp)
  · exact ZeU hq hm hs W (λx hx=>h1 x (List.mem_cons_of_mem _ hx)) (λx hx=>h2 x (List.mem_cons_of_mem _ hx)) r z
theorem Zmv{lead:List Nat}(h1:lead.length<=9)(h2:∀c∈lead,c∈cs_MARK_SIGNS):JC (YQ lead):=by
 unfold YQ
 by_cases h:lead=[]
 · rw [if_pos h]
   exact⟨by decide,by decide⟩
 · rw [if_neg h]
   exact Zej wd_names.2.1 (Zdr (by omega) h2)
theorem T.head_wd{t:T}(o:t.Ok):∀w∈YC::[Zo t.n,Zo t.q,Zo t.a,Zo t.m],Wd1 w:=λw hw=>by
 have:=o.n4;have:=o.q4;have:=o.m6;simp only [List.mem_cons,List.not_mem_nil,or_false]at hw;rcases hw with rfl|rfl|rfl|rfl|rfl
 · exact wd_names.1
 · exact UY (by omega)
 · exact UY (by omega)
 · exact UY o.am
 · exact UY (by omega)
theorem T.rows_ok{t:T}(o:t.Ok):∀r∈t.rows,JC r:=λr hr=>by
 have:=o.fm;have:=o.m6;unfold T.rows at hr;rcases List.mem_cons.mp hr with rfl|hr
 · exact Zbx (T.head_wd o) (by simp)
 rcases List.mem_cons.mp hr with rfl|hr
 · exact Zmv o.ll o.lc
 rcases List.mem_cons.mp hr with rfl|hr
 · exact Zej wd_names.2.2.1 (UY (by omega))
 · exact ZeU o.q4 o.m6 t.hs t.W o.hb o.pr r hr
def T.text(t:T):List Nat:=ZL [10] t.rows
theorem T.rows_few{t:T}(o:t.Ok):t.rows.length<=33:=by
 rw [t.rows_len o];have:=o.mn;omega
theorem T.sum_ok{t:T}(o:t.Ok):(t.rows.map List.length).sum<=1650:=by
 have h1:=Jz (m:=50) (l:=t.rows) λr hr=>(t.rows_ok o r hr).1
 have h2:=t.rows_few o;have:50*t.rows.length<=50*33:=Nat.mul_le_mul_left 50 h2;omega
theorem T.text_len{t:T}(o:t.Ok):t.text.length<=2000:=by
 have h0:=Jy 10 t.rows;have h1:=t.sum_ok o;have h2:=t.rows_few o;unfold T.text;omega
theorem T.split_ok{t:T}(o:t.Ok):ZU 10 t.text=t.rows:=Zal 10 t.rows (by unfold T.rows;simp) λp hp=>(t.rows_ok o p hp).2
theorem T.join_ok{t:T}(o:t.Ok):joinD [10] [.lst (t.rows.map D.str)]=some (.str t.text):=by
 have h1:=t.sum_ok o;have h2:=t.rows_few o;unfold joinD;dsimp only;rw [ZaG];dsimp only;rw [if_pos (by rw [PySem.sizeLine_eq];simp only [List.length_singleton];omega)];rfl
theorem Zca{α:Type}{l:List α}{j:Nat}{x:α}(h:l[j]? = some x):l.take (j+1)=l.take j++[x]:=by
 rw [List.take_add_one,h];rfl
def T.hd(t:T):D:=hdD t.n t.q t.a t.m
def T.obj(t:T):D := .obj "Table" ["lead", "first", "ahead", "homes", "ways"] [.str t.lead,nD t.f,nD t.a,.tup (t.hs.map nD),.tup (t.W.map YO)]
noncomputable def inC:DL.Env->Option D:=(eCB Xy (Zb (Yp (Z4 (Za 0)) (Zx 0) (λ_=>some true) (eCB Xy (Zb (Za 0) eNil)) 1 []) eNil))
theorem ZjB(ws:List Pr)(hl:ws.length<=100):inC [some (Zz ws)]=some (YO ws):=by
 have hc:YJ (Zx 0) (λ_=>some true) (eCB Xy (Zb (Za 0) eNil)) [none] (ws.map prD)=some (ws.map prD):=Ut prD prD ws λp _=>⟨[some (prD p)],rfl,(Yd (Zk (x:=prD p) rfl nil_of)).trans rfl⟩
 exact(Yd (Zk (Vs (xs:=ws.map prD) rfl rfl hc (by rw [List.length_map];omega)) nil_of)).trans rfl
theorem Zh8{t:T}(o:t.Ok):ZjX [.obj "Table" [] [],.str t.lead,nD t.f,nD t.a,.lst (t.hs.map nD),.lst (t.W.map Zz)]=some t.obj:=by
 have hw:=o.wl;have h6:=o.m6;have hn:=o.n4;have hc:YJ (Zx 0) (λ_=>some true) inC [none] (t.W.map Zz)=some (t.W.map YO):=Ut Zz YO t.W λws hws=>⟨[some (Zz ws)],rfl,ZjB ws (by have:=o.rl ws hws;omega)⟩
 have he:∀x0,eCB Xy (Zb (Yp (Z4 (Za 5)) (Zx 0) (λ_=>some true) inC 1 []) eNil) [x0,some (.str t.lead),some (nD t.f),some (nD t.a),some (.lst (t.hs.map nD)),some (.lst (t.W.map Zz))]=some (.tup (t.W.map YO)):=λx0=>
  (Yd (Zk (Vs (xs:=t.W.map Zz) rfl rfl hc (by rw [List.length_map];omega)) nil_of)).trans rfl
 have hf:Jd [some (.obj "Table" [] []),some (.str t.lead),some (nD t.f),some (nD t.a),some (.lst (t.hs.map nD)),some (.lst (t.W.map Zz))]=some (.nx [some t.obj,some (.str t.lead),some (nD t.f),some (nD t.a),some (.lst (t.hs.map nD)),some (.lst (t.W.map Zz))]):=by
  show Zg (Xj 0 Vu "lead" (Za 1)) (Zg (Xj 0 UQ "first" (Za 2)) (Zg (Xj 0 UP "ahead" (Za 3)) (Zg (Xj 0 Vt "homes" (eCB Xy (Zb (Za 4) eNil))) (Xj 0 Vv "ways" (eCB Xy (Zb (Yp (Z4 (Za 5)) (Zx 0) (λ_=>some true) inC 1 []) eNil)))))) _=_;rw [Zt (δ':=[some (.obj "Table" ["lead"] [.str t.lead]),some (.str t.lead),some (nD t.f),some (nD t.a),some (.lst (t.hs.map nD)),some (.lst (t.W.map Zz))]) rfl]
  rw [Zt (δ':=[some (.obj "Table" ["lead", "first"] [.str t.lead,nD t.f]),some (.str t.lead),some (nD t.f),some (nD t.a),some (.lst (t.hs.map nD)),some (.lst (t.W.map Zz))]) rfl];rw [Zt (δ':=[some (.obj "Table" ["lead", "first", "ahead"] [.str t.lead,nD t.f,nD t.a]),some (.str t.lead),some (nD t.f),some (nD t.a),some (.lst (t.hs.map nD)),some (.lst (t.W.map Zz))]) rfl];rw [Zt (δ':=[some (.obj "Table" ["lead", "first", "ahead", "homes"] [.str t.lead,nD t.f,nD t.a,.tup (t.hs.map nD)]),some (.str t.lead),some (nD t.f),some (nD t.a),some (.lst (t.hs.map nD)),some (.lst (t.W.map Zz))]) rfl]
  unfold Xj;rw [he];rfl
 show(match Jd ([DL.D.obj "Table" [] [],.str t.lead,nD t.f,nD t.a,.lst (t.hs.map nD),.lst (t.W.map Zz)].map some++List.replicate (6-6) none)with
  |some (.nx δ)=>Za 0 δ
  |_=>none)=_
 rw [show([DL.D.obj "Table" [] [],.str t.lead,nD t.f,nD t.a,.lst (t.hs.map nD),.lst (t.W.map Zz)].map some++List.replicate (6-6) none)=[some (.obj "Table" [] []),some (.str t.lead),some (nD t.f),some (nD t.a),some (.lst (t.hs.map nD)),some (.lst (t.W.map Zz))]from rfl,hf];rfl
end K50
namespace K50
open DL L2
def St(χ:DL.Env->Option XC)(φ:DL.Env->Option Out)(δ:DL.Env):Except XC DL.Env->Prop
 | .ok δ'=>χ δ=none/\φ δ=some (.nx δ')
 | .error c=>χ δ=some c
theorem JD{φ:DL.Env->Option Out}{δ δ':DL.Env}(h:φ δ=some (.nx δ')):St xNever φ δ (.ok δ'):=⟨rfl,h⟩
theorem Zek{χ ψ:DL.Env->Option XC}{φ φ2:DL.Env->Option Out}{δ δ1:DL.Env}{r:Except XC DL.Env}(h:St χ φ δ (.ok δ1))(h2:St ψ φ2 δ1 r):St (ZX χ φ ψ) (Zg φ φ2) δ r:=by
 have e:ZX χ φ ψ δ=ψ δ1:=by unfold ZX;rw [h.1,h.2]
 cases r with
 |ok δ'=>exact⟨e.trans h2.1,(Zt h.2).trans h2.2⟩
 |error c=>exact e.trans h2
theorem ZgV{χ ψ:DL.Env->Option XC}{φ φ2:DL.Env->Option Out}{δ:DL.Env}{c:XC}(h:St χ φ δ (.error c)):St (ZX χ φ ψ) (Zg φ φ2) δ (.error c):=by
 show ZX χ φ ψ δ=some c;unfold ZX;rw [show χ δ=some c from h]
abbrev BT(k:Nat):XC:=("BadTable",k)
theorem Zmw:(100000000:Int)<10 ^ 10:=by decide
theorem Zdu{k:Nat}{δ:DL.Env}{α:DL.Env->Option (List D)}(hk:k<=100000000)(h:α δ=some [nD k]):Uk "BadTable" α δ=some (BT k):=by
 have h1:0<=(k:Int)/\(k:Int)<10 ^ 10:=⟨Int.natCast_nonneg k,Int.lt_of_le_of_lt (Int.ofNat_le.mpr hk) Zmw⟩
 unfold Uk;rw [h];dsimp only;rw [if_pos h1,Int.toNat_natCast]
theorem ZaV{χ ψ:DL.Env->Option XC}{φ:DL.Env->Option Out}{δ:DL.Env}{c:XC}(h:χ δ=some c):ZX χ φ ψ δ=some c:=by unfold ZX;rw [h]
theorem JE{χ ψ:DL.Env->Option XC}{φ:DL.Env->Option Out}{δ δ1:DL.Env}(h:χ δ=none)(h2:φ δ=some (.nx δ1)):ZX χ φ ψ δ=ψ δ1:=by unfold ZX;rw [h,h2]
theorem ZeV{τ:DL.Env->Option Bool}{χ ψ:DL.Env->Option XC}{δ:DL.Env}(h:τ δ=some true):xIf τ χ ψ δ=χ δ:=by unfold xIf;rw [h]
theorem ZgW{τ:DL.Env->Option Bool}{χ ψ:DL.Env->Option XC}{δ:DL.Env}(h:τ δ=some false):xIf τ χ ψ δ=ψ δ:=by unfold xIf;rw [h]
theorem Zmx(k:Nat)(y:D):Y8 [nD k,y]=ZX (xIf (xB (Yu (Za 1))) (Uk "BadTable" (Zb (Za 0) eNil)) xNever) (sIf (xB (Yu (Za 1))) sNever sNext) xNever [some (nD k),some y]:=rfl
theorem Zdv{k:Nat}{y:D}(hk:k<=100000000):Y8 [nD k,y]=if Y7 y=true then some (BT k)else none:=by
 have e:xB (Yu (Za 1)) [some (nD k),some y]=some (Y7 y):=ZA rfl;rw [Zmx];cases hy:Y7 y with
 |true=>
  rw [hy]at e;rw [if_pos rfl];exact ZaV ((ZeV e).trans (Zdu hk rfl))
 |false=>
  rw [hy]at e;rw [if_neg Bool.false_ne_true];exact JE ((ZgW e).trans rfl) ((Ys e).trans rfl)
theorem Zdw{x y:D}(h:Y7 y=false):YK [x,y]=some y:=by
 have e:Yu (Za 1) [some x,some y]=some (.bl false):=by
  show some (D.bl (Y7 y))=_;rw [h]
 exact Yt (δ:=[some x,some y]) rfl ((Zt ((Ys (ZA e)).trans rfl)).trans rfl)
theorem ZaJ{n:Nat}{x:List D->Option XC}{α:DL.Env->Option (List D)}{δ:DL.Env}{ds:List D}(h:α δ=some ds)(hn:ds.length=n):YB n x [] α δ=x ds:=by
 unfold YB;rw [h];dsimp only;rw [List.append_nil,if_pos hn]
theorem Zel{i k:Nat}{κ ε:DL.Env->Option D}{δ:DL.Env}{y:D}(hk:k<=100000000)(h1:κ δ=some (nD k))(h2:ε δ=some y) :
 St (YB 2 Y8 [] (Zb κ (Zb ε eNil))) (Zq i (Zl 2 YK [] (Zb κ (Zb ε eNil)))) δ (if Y7 y=true then .error (BT k)else .ok (δ.set i (some y))):=by
 have e:=(ZaJ (n:=2) (x:=Y8) (Zk h1 (Zk h2 nil_of)) rfl).trans (Zdv hk);cases hy:Y7 y with
 |true=>
  rw [hy]at e;exact e
 |false=>
  rw [hy]at e;exact⟨e,Z1 ((ZT (n:=2) (Zk h1 (Zk h2 nil_of)) rfl).trans (Zdw hy))⟩
theorem ZgX{i k:Nat}{κ ε:DL.Env->Option D}{δ:DL.Env}{y:D}{xs:List D}(hk:k<=100000000)(h0:Za i δ=some (.lst xs))(hx:xs.length<=1000)(h1:κ δ=some (nD k))(h2:ε δ=some y) :
 St (XF i (YB 2 Y8 [] (Zb κ (Zb ε eNil)))) (Z3 i (Zl 2 YK [] (Zb κ (Zb ε eNil)))) δ (if Y7 y=true then .error (BT k)else .ok (δ.set i (some (.lst (xs++[y]))))):=by
 have e:=(ZaJ (n:=2) (x:=Y8) (Zk h1 (Zk h2 nil_of)) rfl).trans (Zdv hk);have e2:XF i (YB 2 Y8 [] (Zb κ (Zb ε eNil))) δ=YB 2 Y8 [] (Zb κ (Zb ε eNil)) δ:=by unfold XF;rw [h0]
 rw [<-e2]at e;cases hy:Y7 y with
 |true=>
  rw [hy]at e;exact e
 |false=>
  rw [hy]at e;exact⟨e,Vr h0 ((ZT (n:=2) (Zk h1 (Zk h2 nil_of)) rfl).trans (Zdw hy)) (by omega)⟩
def XG{α β:Type}(f:α->Except XC β):List α->Except XC (List β)
 | [] => .ok []
 |x::r=>match f x with
  | .error c => .error c
  | .ok b=>match XG f r with
   | .error c => .error c
   | .ok bs => .ok (b::bs)
theorem Zem {α β:Type} {γ:D->DL.Env->Option DL.Env} {φ:DL.Env->Option Out} {χ:DL.Env->Option XC} (g:α->D) (f:α->Except XC β) (I:List β->DL.Env->Prop) (all:List α)
 (h:∀(bs:List β)(dn:List α)(x:α)(r:List α)(δ:DL.Env),dn++x::r=all->bs.length=dn.length->I bs δ->∃δ1,γ (g x) δ=some δ1/\(match f x with
   | .ok b=>∃δ2,St χ φ δ1 (.ok δ2)/\I (bs++[b]) δ2
   | .error c=>St χ φ δ1 (.error c))):∀(xs dn:List α)(bs:List β)(δ:DL.Env),dn++xs=all->bs.length=dn.length->I bs δ->(match XG f xs with
   | .ok cs=>∃δ',Xn γ φ χ (xs.map g) δ=none/\Yn γ φ (xs.map g) δ=some (.nx δ')/\I (bs++cs) δ'
   | .error c=>Xn γ φ χ (xs.map g) δ=some c)
 | [],dn,bs,δ,_,_,hI=>⟨δ,rfl,rfl,by rw [List.append_nil];exact hI⟩
 |x::xs,dn,bs,δ,he,hl,hI=>by
  obtain⟨δ1,g1,g2⟩:=h bs dn x xs δ he hl hI;unfold XG;cases hf:f x with
  |error c=>
   rw [hf]at g2;dsimp only at g2 ⊢;rw [List.map_cons];unfold Xn;rw [g1];dsimp only;rw [show χ δ1=some c from g2]
  |ok b=>
   rw [hf]at g2;obtain⟨δ2,g3,g4⟩:=g2;have ih:=Zem g f I all h xs (dn++[x]) (bs++[b]) δ2 (by rw [List.append_assoc];exact he) (by rw [List.length_append,List.length_append,hl];rfl) g4;dsimp only;rw [List.map_cons]
   have fx:Xn γ φ χ (g x::xs.map g) δ=Xn γ φ χ (xs.map g) δ2:=by
    conv=>lhs;unfold Xn
    rw [g1];dsimp only;rw [g3.1,g3.2]
   have fd:Yn γ φ (g x::xs.map g) δ=Yn γ φ (xs.map g) δ2:=by
    conv=>lhs;unfold Yn
    rw [g1];dsimp only;rw [g3.2]
   rw [fx,fd];cases hs:XG f xs with
   |error c=>rw [hs]at ih;exact ih
   |ok cs=>
    rw [hs]at ih;obtain⟨δ',i1,i2,i3⟩:=ih;exact⟨δ',i1,i2,by rw [List.append_assoc]at i3;exact i3⟩
theorem Zbk(RR:List (List Nat))(j:Nat):YM [.lst (RR.map D.str),nD (j+1)]=some (.str (RR.getD j [])):=by
 have e:xB (eOp (ZJ λi j=>decide (i<=j)) (Za 1) (eCB lenD (Zb (Za 0) eNil))) [some (.lst (RR.map D.str)),some (nD (j+1))]=some (decide (j<RR.length)):=by
  refine ZA ((Zn (x:=nD (j+1)) (y:=.int ((RR.map D.str).length:Int)) rfl ((Yd (Zk (x:=.lst (RR.map D.str)) rfl nil_of)).trans len_lst)).trans ?_);show some (D.bl (decide (((j+1:Nat):Int)<=((RR.map D.str).length:Int))))=_;rw [List.length_map,decide_eq_decide.mpr (show((j+1:Nat):Int)<=(RR.length:Int) ↔ j<RR.length by omega)]
 refine Yt (δ:=[some (.lst (RR.map D.str)),some (nD (j+1))]) rfl (Yr ?_)
 by_cases h:j<RR.length
 · rw [decide_eq_true h]at e
   refine(ZeT e).trans ((Zn (x:=.lst (RR.map D.str)) (y:=nD j) rfl ((Zn (x:=nD (j+1)) (y:=.int 1) rfl rfl).trans ?_)).trans (Z0 (by rw [List.getElem?_map,List.getElem?_eq_getElem h,List.getD_eq_getElem?_getD,List.getElem?_eq_getElem h];rfl)));show some (D.int (((j+1:Nat):Int)-1))=_;rw [show((j+1:Nat):Int)-1=(j:Int) by omega]
 · rw [decide_eq_false h]at e
   refine(JB e).trans ?_;rw [List.getD_eq_getElem?_getD,List.getElem?_eq_none (by omega)];rfl
end K50
namespace K50
open DL L2
def Res(x:Option XC)(o:Option Out):Except XC D->Prop
 | .ok d=>o=some (.rt d)
 | .error c=>x=some c
theorem V4{χ ψ:DL.Env->Option XC}{φ φ2:DL.Env->Option Out}{δ δ1:DL.Env}{r:Except XC D}(h:St χ φ δ (.ok δ1))(h2:Res (ψ δ1) (φ2 δ1) r):Res (ZX χ φ ψ δ) (Zg φ φ2 δ) r:=by
 cases r with
 |ok d=>exact(Zt h.2).trans h2
 |error c=>exact(JE h.1 h.2).trans h2
theorem JF{χ ψ:DL.Env->Option XC}{φ φ2:DL.Env->Option Out}{δ:DL.Env}{c:XC}(h:St χ φ δ (.error c)):Res (ZX χ φ ψ δ) (Zg φ φ2 δ) (.error c):=ZaV h
theorem Zbl{ι:DL.Env->Option (List D)}{γ:D->DL.Env->Option DL.Env}{φ:DL.Env->Option Out}{χ:DL.Env->Option XC}{δ:DL.Env}{xs:List D}(hi:ι δ=some xs):Um ι γ φ χ δ=Xn γ φ χ xs δ:=by unfold Um;rw [hi]
def Rows(R:List (List Nat)):Prop:=∀r∈R,r.length<=1000
theorem Rows.at{R:List (List Nat)}(h:Rows R)(j:Nat):(R.getD j []).length<=1000:=by
 by_cases hj:j<R.length
 · rw [List.getD_eq_getElem?_getD,List.getElem?_eq_getElem hj]
   exact h _ (List.getElem_mem hj)
 · rw [List.getD_eq_getElem?_getD,List.getElem?_eq_none (by omega)]
   exact Nat.zero_le _
def wyE(R:List (List Nat))(h:Hd)(j:Nat):Except XC Pr:=match wyR (R.getD j []) h.q h.m with
 |some p => .ok p
 |none => .error (BT (j+1))
def Vi(R:List (List Nat))(h:Hd)(s:Nat):Except XC (List Pr):=XG (λj=>wyE R h (s+j)) (List.range h.n)
noncomputable def wsK:DL.Env->Option D:=(Za 4)
noncomputable def wsY:DL.Env->Option D:=(Zl 3 UU [] (Zb (Zl 2 YM [] (Zb (Za 0) (Zb (Za 4) eNil))) (Zb (eOp ixD (Za 2) (eC (.int 1))) (Zb (eOp ixD (Za 2) (eC (.int 3))) eNil))))
noncomputable def wsI:DL.Env->Option (List D):=(Z5 (Zb (Za 1) (Zb (eOp addX (Za 1) (eOp ixD (Za 2) (eC (.int 0)))) eNil)))
noncomputable def wsB:DL.Env->Option Out:=(Z3 3 (Zl 2 YK [] (Zb wsK (Zb wsY eNil))))
noncomputable def wsX:DL.Env->Option XC:=(XF 3 (YB 2 Y8 [] (Zb wsK (Zb wsY eNil))))
theorem Zh9:Zj5=Zg (Zq 3 (ZH eNil)) (Zg (Yo wsI (Zx 4) wsB) (Zp (Za 3))):=rfl
theorem Zdx:Jf=ZX xNever (Zq 3 (ZH eNil)) (ZX (Um wsI (Zx 4) wsB wsX) (Yo wsI (Zx 4) wsB) xNever):=rfl
theorem ZgY(a b c:D):Vf [a,b,c]=Jf [some a,some b,some c,none,none]:=rfl
theorem Zbm(s n:Nat):Yl (s:Int) 1 n=(List.range n).map λj=>nD (s+j):=by
 unfold Yl;refine List.map_congr_left λj _ => ?_
 show D.int ((s:Int)+(j:Int)*1)=D.int ((s+j:Nat):Int);rw [show(s:Int)+(j:Int)*1=((s+j:Nat):Int) by omega]
theorem Zdy{n:Nat}{dn r:List Nat}{x:Nat}(h:dn++x::r=List.range n):x=dn.length/\x<n:=by
 have h1:(List.range n)[dn.length]? = some x:=by rw [<-h,List.getElem?_append_right (Nat.le_refl _),Nat.sub_self];rfl
 have h2:dn.length<n:=by
  have:=congrArg List.length h;rw [List.length_append,List.length_range,List.length_cons]at this;omega
 rw [List.getElem?_range h2]at h1;have:=Option.some.inj h1;exact⟨this.symm,by omega⟩
theorem ZjC(o:Option Pr):Y7 (pD o)=o.isNone:=by cases o<;>rfl
theorem ZgZ(o:Option Nat):Y7 (oD o)=o.isNone:=by cases o<;>rfl
theorem ZjD(o:Option (List Nat)):Y7 (sD o)=o.isNone:=by cases o<;>rfl
theorem ZjE(o:Option Hd):Y7 (hD o)=o.isNone:=by cases o<;>rfl
theorem Zia{R:List (List Nat)}{h:Hd}{s:Nat}(hR:Rows R)(hn:h.n<=1000)(hs:s<=100000) :
 (∀c,Vi R h s = .error c->Vf [.lst (R.map D.str),nD (s+1),h.d]=some c)/\(∀ws,Vi R h s = .ok ws->Vf [.lst (R.map D.str),nD (s+1),h.d]=none/\Us [.lst (R.map D.str),nD (s+1),h.d]=some (Zz ws)):=by
 have hi:wsI [some (.lst (R.map D.str)),some (nD (s+1)),some h.d,some (.lst []),none]=some ((List.range h.n).map λj=>nD (s+1+j)):=by
  have e:Zb (Za 1) (Zb (eOp addX (Za 1) (eOp ixD (Za 2) (eC (.int 0)))) eNil) [some (.lst (R.map D.str)),some (nD (s+1)),some h.d,some (.lst []),none]=some [nD (s+1),.int (((s+1:Nat):Int)+(h.n:Int))]:=
   Zk rfl (Zk ((Zn (x:=nD (s+1)) (y:=nD h.n) rfl ((Zn (x:=h.d) (y:=nD 0) rfl rfl).trans (Z0 rfl))).trans (add_int _ _)) nil_of)
  refine(Zeg e (by omega) (by omega) (by omega) (by omega)).trans ?_;rw [show(((s+1:Nat):Int)+(h.n:Int)-((s+1:Nat):Int)).toNat=h.n by omega,Zbm]
 have key:=Zem (γ:=Zx 4) (φ:=wsB) (χ:=wsX) (λj:Nat=>nD (s+1+j)) (λj=>wyE R h (s+j)) (λws δ=>∃v4,δ=[some (.lst (R.map D.str)),some (nD (s+1)),some h.d,some (Zz ws),v4]) (List.range h.n) (by
  intro bs dn x r δ he hl ⟨v4,e⟩;subst e;obtain⟨hx,hx2⟩:=Zdy he;refine⟨_,rfl,?_⟩;have e1:=Zbk R (s+x);rw [show s+x+1=s+1+x by omega]at e1;have e2:=Zjz (R.getD (s+x) []) h.q h.m (hR.at _)
  have ey:wsY [some (.lst (R.map D.str)),some (nD (s+1)),some h.d,some (Zz bs),some (nD (s+1+x))]=some (pD (wyR (R.getD (s+x) []) h.q h.m)):=
   (ZT (n:=3) (Zk ((ZT (n:=2) (Zk (x:=.lst (R.map D.str)) rfl (Zk (x:=nD (s+1+x)) rfl nil_of)) rfl).trans e1) (Zk ((Zn (x:=h.d) (y:=nD 1) rfl rfl).trans (Z0 rfl)) (Zk ((Zn (x:=h.d) (y:=nD 3) rfl rfl).trans (Z0 rfl)) nil_of))) rfl).trans e2
  have st:=ZgX (i:=3) (k:=s+1+x) (κ:=wsK) (ε:=wsY) (δ:=[some (.lst (R.map D.str)),some (nD (s+1)),some h.d,some (Zz bs),some (nD (s+1+x))]) (xs:=bs.map prD) (by omega) rfl (by rw [List.length_map];omega) rfl ey;rw [ZjC]at st;unfold wyE;cases hw:wyR (R.getD (s+x) []) h.q h.m with
  |none=>
   rw [hw]at st;rw [show s+x+1=s+1+x by omega];exact st
  |some p=>
   rw [hw]at st;refine⟨_,st,some (nD (s+1+x)),?_⟩;show [_,_,_,some (D.lst (bs.map prD++[prD p])),_]=_;unfold Zz;rw [List.map_append];rfl) (List.range h.n) [] [] [some (.lst (R.map D.str)),some (nD (s+1)),some h.d,some (Zz []),none] rfl rfl ⟨none,rfl⟩
 have t1:(Zq 3 (ZH eNil)) [some (.lst (R.map D.str)),some (nD (s+1)),some h.d,none,none]=some (.nx [some (.lst (R.map D.str)),some (nD (s+1)),some h.d,some (.lst []),none]):=rfl;constructor
 · intro c hc
   unfold Vi at hc;rw [hc]at key;rw [ZgY,Zdx,JE rfl t1];exact ZaV ((Zbl hi).trans key)
 · intro ws hc
   unfold Vi at hc;rw [hc]at key;obtain⟨δ',k1,k2,v4,k3⟩:=key;subst k3;have k2':=Xq hi k2;refine⟨?_,?_⟩
   · rw [ZgY,Zdx,JE rfl t1]
     exact(JE ((Zbl hi).trans k1) k2').trans rfl
   · refine Yt (δ:=[some (.lst (R.map D.str)),some (nD (s+1)),some h.d,none,none]) rfl ?_
     rw [Zh9,Zt t1,Zt k2'];rfl
end K50
namespace K50
open DL L2
noncomputable def rd1:DL.Env->Option Out:=(Zq 1 (eBM splitD (Za 0) (Zb (eC (.str [10])) eNil)))
noncomputable def y2:DL.Env->Option D:=(Zl 1 Qy [] (Zb (eOp ixD (Za 1) (eC (.int 0))) eNil))
noncomputable def y3:DL.Env->Option D:=(Zl 1 Qz [] (Zb (Zl 2 YM [] (Zb (Za 1) (Zb (eC (.int 2)) eNil))) eNil))
noncomputable def y4:DL.Env->Option D:=(Zl 2 QA [] (Zb (Zl 2 YM [] (Zb (Za 1) (Zb (eC (.int 3)) eNil))) (Zb (eOp ixD (Za 2) (eC (.int 3))) eNil)))
noncomputable def y5:DL.Env->Option D:=(Zl 1 Ur [] (Zb (Zl 2 YM [] (Zb (Za 1) (Zb (Za 7) eNil))) eNil))
noncomputable def a6:DL.Env->Option (List D):=(Zb (Za 1) (Zb (eOp addX (Za 7) (eC (.int 1))) (Zb (Za 2) eNil)))
noncomputable def sn(i:Nat)(κ ε:DL.Env->Option D):DL.Env->Option Out:=(Zq i (Zl 2 YK [] (Zb κ (Zb ε eNil))))
noncomputable def sx(κ ε:DL.Env->Option D):DL.Env->Option XC:=(YB 2 Y8 [] (Zb κ (Zb ε eNil)))
noncomputable def Zm0:DL.Env->Option Out:=(Z3 5 (Zl 2 YK [] (Zb (Za 7) (Zb y5 eNil))))
noncomputable def Zm1:DL.Env->Option Out:=(Z3 6 (Zl 3 Us [] a6))
noncomputable def Znk:DL.Env->Option Out:=(Zq 7 (eOp addX (eOp addX (Za 7) (eC (.int 1))) (eOp ixD (Za 2) (eC (.int 0)))))
noncomputable def rdI:DL.Env->Option (List D):=(Z5 (Zb (eOp ixD (Za 2) (eC (.int 3))) eNil))
noncomputable def rdB:DL.Env->Option Out:=(Zg Zm0 (Zg Zm1 Znk))
noncomputable def rdX:DL.Env->Option XC:=(ZX (XF 5 (sx (Za 7) y5)) Zm0 (ZX (XF 6 (YB 3 Vf [] a6)) Zm1 xNever))
noncomputable def rdT:DL.Env->Option Bool:=(xB (eOp (ZJ λi j=>decide (j<=i)) (eCB lenD (Zb (Za 1) eNil)) (Za 7)))
noncomputable def rdR:DL.Env->Option Out:=(Zp (Uh "Table" 6 ZjX [] (Zb (Za 3) (Zb (Za 4) (Zb (eOp ixD (Za 2) (eC (.int 2))) (Zb (Za 5) (Zb (Za 6) eNil)))))))
theorem Zib:Jg=Zg rd1 (Zg (sn 2 (eC (.int 1)) y2) (Zg (sn 3 (eC (.int 2)) y3) (Zg (sn 4 (eC (.int 3)) y4) (Zg (Zq 5 (ZH eNil)) (Zg (Zq 6 (ZH eNil)) (Zg (Zq 7 (eC (.int 4))) (Zg (Yo rdI (Zx 8) rdB) (Zg (sIf rdT sNever sNext) rdR)))))))):=rfl
theorem Zgg:Jh=ZX xNever rd1 (ZX (sx (eC (.int 1)) y2) (sn 2 (eC (.int 1)) y2) (ZX (sx (eC (.int 2)) y3) (sn 3 (eC (.int 2)) y3) (ZX (sx (eC (.int 3)) y4) (sn 4 (eC (.int 3)) y4) (ZX xNever (Zq 5 (ZH eNil)) (ZX xNever (Zq 6 (ZH eNil)) (ZX xNever (Zq 7 (eC (.int 4))) (ZX (Um rdI (Zx 8) rdB rdX) (Yo rdI (Zx 8) rdB) (ZX (xIf rdT (Uk "BadTable" (Zb (Za 7) eNil)) xNever) (sIf rdT sNever sNext) xNever)))))))):=rfl
theorem ZjF(a:D):Vg [a]=Jh [some a,none,none,none,none,none,none,none,none]:=rfl
def plE(R:List (List Nat))(h:Hd)(i:Nat):Except XC (Nat×List Pr):=match hmR (R.getD (3+i*(h.n+1)) [])with
 |none => .error (BT (4+i*(h.n+1)))
 |some a=>match Vi R h (4+i*(h.n+1))with
  | .error c => .error c
  | .ok ws => .ok (a,ws)
def rdP(R:List (List Nat))(h:Hd)(lead:List Nat)(f:Nat):Except XC T:=match XG (plE R h) (List.range h.m)with
 | .error c => .error c
 | .ok ps=>if 4+h.m*(h.n+1)<=R.length then .error (BT (4+h.m*(h.n+1)))else .ok ⟨lead,f,h.a,h.n,h.q,h.m,ps.map Prod.fst,ps.map Prod.snd⟩
def rdE(R:List (List Nat)):Except XC T:=match hdR (R.getD 0 [])with
 |none => .error (BT 1)
 |some h=>match ldR (R.getD 1 [])with
  |none => .error (BT 2)
  |some lead=>match fsR (R.getD 2 []) h.m with
   |none => .error (BT 3)
   |some f=>rdP R h lead f
abbrev RE(X:D)(R:List (List Nat))(h:Hd)(lead:List Nat)(f:Nat)(ps:List (Nat×List Pr))(k:Nat)(v8:Option D):DL.Env:=[some X,some (.lst (R.map D.str)),some h.d,some (.str lead),some (nD f),some (.lst (ps.map λp=>nD p.1)),some (.lst (ps.map λp=>Zz p.2)),some (nD k),v8]
theorem Zic{R:List (List Nat)}{h:Hd}{lead:List Nat}{f:Nat}(hR:Rows R)(hn:h.n<=100)(X:D)(ps:List (Nat×List Pr))(i:Nat)(hi:i<=100)(hp:ps.length=i)(v8:Option D):match plE R h i with
 | .ok b=>St rdX rdB (RE X R h lead f ps (4+i*(h.n+1)) v8) (.ok (RE X R h lead f (ps++[b]) (4+(i+1)*(h.n+1)) v8))
 | .error c=>St rdX rdB (RE X R h lead f ps (4+i*(h.n+1)) v8) (.error c):=by
 have hb:i*(h.n+1)<=100*101:=Nat.mul_le_mul hi (by omega);have hs:(i+1)*(h.n+1)=i*(h.n+1)+(h.n+1):=Nat.succ_mul _ _;rw [hs];unfold plE;generalize i*(h.n+1)=e at *
 have ey:y5 (RE X R h lead f ps (4+e) v8)=some (oD (hmR (R.getD (3+e) []))):=by
  have e1:=Zbk R (3+e);rw [show 3+e+1=4+e by omega]at e1;exact(ZT (n:=1) (Zk ((ZT (n:=2) (Zk (x:=.lst (R.map D.str)) rfl (Zk (x:=nD (4+e)) rfl nil_of)) rfl).trans e1) nil_of) rfl).trans (Zh7 _ (hR.at _))
 have s1:=ZgX (i:=5) (k:=4+e) (κ:=Za 7) (ε:=y5) (δ:=RE X R h lead f ps (4+e) v8) (xs:=ps.map λp=>nD p.1) (by omega) rfl (by rw [List.length_map];omega) rfl ey;rw [ZgZ]at s1;cases hm:hmR (R.getD (3+e) [])with
 |none=>
  rw [hm]at s1;exact ZgV s1
 |some a=>
  rw [hm]at s1;dsimp only
  have ea:a6 [some X,some (.lst (R.map D.str)),some h.d,some (.str lead),some (nD f),some (.lst ((ps.map λp=>nD p.1)++[nD a])),some (.lst (ps.map λp=>Zz p.2)),some (nD (4+e)),v8]=some [.lst (R.map D.str),nD (4+e+1),h.d]:=
   Zk rfl (Zk ((Zn (x:=nD (4+e)) (y:=.int 1) rfl rfl).trans (add_int _ _)) (Zk rfl nil_of))
  obtain⟨w1,w2⟩:=Zia (R:=R) (h:=h) (s:=4+e) hR (by omega) (by omega)
  have xa:XF 6 (YB 3 Vf [] a6) [some X,some (.lst (R.map D.str)),some h.d,some (.str lead),some (nD f),some (.lst ((ps.map λp=>nD p.1)++[nD a])),some (.lst (ps.map λp=>Zz p.2)),some (nD (4+e)),v8]=Vf [.lst (R.map D.str),nD (4+e+1),h.d]:=
   (show XF 6 (YB 3 Vf [] a6) _=YB 3 Vf [] a6 _ from rfl).trans (ZaJ (n:=3) ea rfl)
  cases hw:Vi R h (4+e)with
  |error c=>exact Zek s1 (ZgV (xa.trans (w1 c hw)))
  |ok ws=>
   obtain⟨u1,u2⟩:=w2 ws hw;dsimp only;refine Zek s1 (Zek ⟨xa.trans u1,Vr (xs:=ps.map λp=>Zz p.2) rfl ((ZT (n:=3) ea rfl).trans u2) (by rw [List.length_map];omega)⟩ (JD ?_));refine(Z1 ((Zn (x:=.int (((4+e:Nat):Int)+1)) (y:=nD h.n) ((Zn (x:=nD (4+e)) (y:=.int 1) rfl rfl).trans (add_int _ _)) ((Zn (x:=h.d) (y:=nD 0) rfl rfl).trans (Z0 rfl))).trans (add_int _ _))).trans ?_
   show some (Out.nx [some X,some (.lst (R.map D.str)),some h.d,some (.str lead),some (nD f),some (.lst ((ps.map λp=>nD p.1)++[nD a])),some (.lst ((ps.map λp=>Zz p.2)++[Zz ws])),some (.int (((4+e:Nat):Int)+1+(h.n:Int))),v8])=_;unfold RE;rw [List.map_append,List.map_append,show(((4+e:Nat):Int)+1+(h.n:Int))=((4+(e+(h.n+1)):Nat):Int) by omega]
   rfl
def Znl(r:Except XC T):Except XC D:=match r with
 | .ok t => .ok t.obj
 | .error c => .error c
theorem Zgh{R:List (List Nat)}(hR:Rows R)(hne:R≠[])(h10:∀r∈R,10∉r)(hl:(ZL [10] R).length<=100000)(hh:∀h,hdR (R.getD 0 [])=some h->h.n<=100/\h.m<=100)(hOk:∀t,rdE R = .ok t->t.Ok) :
 Res (Vg [.str (ZL [10] R)]) (Jg [some (.str (ZL [10] R)),none,none,none,none,none,none,none,none]) (Znl (rdE R)):=by
 rw [ZjF,Zgg,Zib]
 have t1:rd1 [some (.str (ZL [10] R)),none,none,none,none,none,none,none,none]=some (.nx [some (.str (ZL [10] R)),some (.lst (R.map D.str)),none,none,none,none,none,none,none]):=by
  refine Z1 ((V0 (s:=ZL [10] R) rfl (Zk (x:=.str [10]) rfl nil_of)).trans ?_);show(if(ZL [10] R).length+2<=PySem.sizeLine then some (D.lst ((ZU 10 (ZL [10] R)).map D.str))else none)=_;rw [if_pos (by rw [PySem.sizeLine_eq];omega),Zal 10 R hne h10]
 generalize D.str (ZL [10] R)=X at *;refine V4 (JD t1) ?_
 have q2:y2 [some X,some (.lst (R.map D.str)),none,none,none,none,none,none,none]=some (hD (hdR (R.getD 0 []))):=by
  have hj:0<R.length:=List.length_pos_iff.mpr hne;exact(ZT (n:=1) (Zk ((Zn (x:=.lst (R.map D.str)) (y:=nD 0) rfl rfl).trans (Z0 (x:=.str (R.getD 0 [])) (by rw [List.getElem?_map,List.getElem?_eq_getElem hj,List.getD_eq_getElem?_getD,List.getElem?_eq_getElem hj];rfl))) nil_of) rfl).trans (Zh4 _ (hR.at 0))
 have s2:=Zel (i:=2) (k:=1) (κ:=eC (.int 1)) (by omega) rfl q2;rw [ZjE]at s2;unfold rdE at hOk ⊢;cases hd:hdR (R.getD 0 [])with
 |none=>
  rw [hd]at s2;exact JF s2
 |some h=>
  obtain⟨hn,hm⟩:=hh h hd;rw [hd]at s2 hOk;refine V4 s2 ?_;dsimp only at hOk ⊢
  have q3:y3 [some X,some (.lst (R.map D.str)),some h.d,none,none,none,none,none,none]=some (sD (ldR (R.getD 1 []))):=
   (ZT (n:=1) (Zk ((ZT (n:=2) (Zk (x:=.lst (R.map D.str)) rfl (Zk (x:=nD 2) rfl nil_of)) rfl).trans (Zbk R 1)) nil_of) rfl).trans (Zh6 _ (hR.at 1))
  have s3:=Zel (i:=3) (k:=2) (κ:=eC (.int 2)) (by omega) rfl q3;rw [ZjD]at s3;cases hld:ldR (R.getD 1 [])with
  |none=>
   rw [hld]at s3;exact JF s3
  |some lead=>
   rw [hld]at s3 hOk;refine V4 s3 ?_;dsimp only at hOk ⊢
   have q4:y4 [some X,some (.lst (R.map D.str)),some h.d,some (.str lead),none,none,none,none,none]=some (oD (fsR (R.getD 2 []) h.m)):=
    (ZT (n:=2) (Zk ((ZT (n:=2) (Zk (x:=.lst (R.map D.str)) rfl (Zk (x:=nD 3) rfl nil_of)) rfl).trans (Zbk R 2)) (Zk ((Zn (x:=h.d) (y:=nD 3) rfl rfl).trans (Z0 rfl)) nil_of)) rfl).trans (Zgf _ _ (hR.at 2))
   have s4:=Zel (i:=4) (k:=3) (κ:=eC (.int 3)) (by omega) rfl q4;rw [ZgZ]at s4;cases hfs:fsR (R.getD 2 []) h.m with
   |none=>
    rw [hfs]at s4;exact JF s4
   |some f=>
    rw [hfs]at s4 hOk;refine V4 s4 ?_;dsimp only at hOk ⊢;refine V4 (JD (δ':=[some X,some (.lst (R.map D.str)),some h.d,some (.str lead),some (nD f),some (.lst []),none,none,none]) rfl) ?_;refine V4 (JD (δ':=[some X,some (.lst (R.map D.str)),some h.d,some (.str lead),some (nD f),some (.lst []),some (.lst []),none,none]) rfl) ?_;refine V4 (JD (δ':=RE X R h lead f [] 4 none) rfl) ?_
    have hi:rdI (RE X R h lead f [] 4 none)=some ((List.range h.m).map λj=>nD j):=by
     refine(Jc (j:=(h.m:Int)) (Zk ((Zn (x:=h.d) (y:=nD 3) rfl rfl).trans (Z0 rfl)) nil_of) (by omega) (by omega)).trans ?_;rw [Int.toNat_natCast];refine(congrArg some (Zbm 0 h.m)).trans ?_;refine congrArg some (List.map_congr_left λj _ => ?_);rw [Nat.zero_add]
    have key:=Zem (γ:=Zx 8) (φ:=rdB) (χ:=rdX) (λj:Nat=>nD j) (plE R h) (λps δ=>∃v8,δ=RE X R h lead f ps (4+ps.length*(h.n+1)) v8) (List.range h.m) (by
     intro bs dn x r δ he hlb ⟨v8,e⟩;subst e;obtain⟨hx,hx2⟩:=Zdy he;refine⟨RE X R h lead f bs (4+bs.length*(h.n+1)) (some (nD x)),rfl,?_⟩;have tn:=Zic (lead:=lead) (f:=f) hR hn X bs x (by omega) (by omega) (some (nD x));rw [hlb,<-hx];cases hpl:plE R h x with
     |error c=>rw [hpl]at tn;exact tn
     |ok b=>
      rw [hpl]at tn;refine⟨_,tn,some (nD x),?_⟩;rw [List.length_append,List.length_singleton,hlb,<-hx]) (List.range h.m) [] [] (RE X R h lead f [] 4 none) rfl rfl ⟨none,by rw [List.length_nil,Nat.zero_mul]⟩
    unfold rdP at hOk ⊢;cases hsc:XG (plE R h) (List.range h.m)with
    |error c=>
     rw [hsc]at key;exact JF ((Zbl hi).trans key)
    |ok ps=>
     rw [hsc]at key hOk;obtain⟨δ',k1,k2,v8,k3⟩:=key;rw [List.nil_append]at k3;refine V4 ⟨(Zbl hi).trans k1,Xq hi k2⟩ ?_;subst k3
     have hpl:ps.length=h.m:=by
      have:∀(xs:List Nat)(cs:List (Nat×List Pr)),XG (plE R h) xs = .ok cs->cs.length=xs.length:=by
       intro xs
       induction xs with
       |nil=>intro cs z;cases z;rfl
       |cons x xs ih=>
        intro cs z;unfold XG at z
        split at z
        · cases z
        · split at z
          · cases z
          · rename_i bs hb
            cases z;rw [List.length_cons,List.length_cons,ih bs hb]
      rw [this _ _ hsc,List.length_range]
     rw [hpl];dsimp only at hOk ⊢;have hb:h.m*(h.n+1)<=100*101:=Nat.mul_le_mul hm (by omega)
     have eT:rdT (RE X R h lead f ps (4+h.m*(h.n+1)) v8)=some (decide (4+h.m*(h.n+1)<=R.length)):=by
      refine ZA ((Zn (x:=.int ((R.map D.str).length:Int)) (y:=nD (4+h.m*(h.n+1))) ((Yd (Zk (x:=.lst (R.map D.str)) rfl nil_of)).trans len_lst) rfl).trans ?_);generalize 4+h.m*(h.n+1)=z;show some (D.bl (decide ((z:Int)<=((R.map D.str).length:Int))))=_;rw [List.length_map,decide_eq_decide.mpr (show(z:Int)<=(R.length:Int) ↔ z<=R.length by omega)]
     by_cases hz:4+h.m*(h.n+1)<=R.length
     · rw [if_pos hz]
       rw [decide_eq_true hz]at eT;exact JF ((ZeV eT).trans (Zdu (by omega) rfl))
     · rw [if_neg hz]at hOk ⊢
       rw [decide_eq_false hz]at eT;refine V4 (δ1:=RE X R h lead f ps (4+h.m*(h.n+1)) v8) ⟨(ZgW eT).trans rfl,(Ys eT).trans rfl⟩ ?_;have o:=hOk _ rfl;have io:=Zh8 o;refine Yr ((ZhZ (n:=6) (Zk (x:=.str lead) rfl (Zk (x:=nD f) rfl (Zk ((Zn (x:=h.d) (y:=nD 2) rfl rfl).trans (Z0 (x:=nD h.a) rfl)) (Zk (x:=.lst (ps.map λp=>nD p.1)) rfl (Zk (x:=.lst (ps.map λp=>Zz p.2)) rfl nil_of))))) rfl).trans ?_)
       dsimp only at io;rw [List.map_map,List.map_map]at io;exact io
end K50
namespace K50
open DL L2
theorem Zby{row nm w:List Nat}(h:X2 row nm=some w):row=ZR nm [w]:=by
 rcases ZcX (row:=row) (nm:=nm)with⟨v,h1,h2,_⟩|⟨_,h2⟩
 · rw [h2]at h
   cases h;exact(QF h1).1
 · rw [h2]at h;cases h
theorem Zbb{w:List Nat}{m n:Nat}(h:Vh w m=some n):Zo n=w/\n<1000000/\n<m:=by
 unfold Vh at h;cases hn:Yk w with
 |none=>rw [hn]at h;cases h
 |some k=>
  rw [hn]at h;dsimp only at h
  split at h
  · cases h
    exact⟨(Uu hn).1,(Uu hn).2,by assumption⟩
  · cases h
theorem Zbc{w:List Nat}(h:plain w=true):0<w.length/\∀c∈w,c∈cs_MARK_SIGNS:=by
 unfold plain at h;simp only [Bool.and_eq_true,decide_eq_true_eq,List.all_eq_true]at h;exact h
theorem ZeW{row:List Nat}{h:Hd}(e:hdR row=some h):row=ZR YC [Zo h.n,Zo h.q,Zo h.a,Zo h.m]/\0<h.n/\0<h.q/\0<h.m/\h.a<1000000:=by
 unfold hdR at e
 split at e
 · rename_i a b c d hw
   unfold hq4 at e
   split at e
   · rename_i n q a' m h1 h2 h3 h4
     split at e
     · cases e
     · rename_i hz
       cases e;have hz:n≠0/\q≠0/\m≠0:=by simpa using hz
       rw [(QF hw).1,(Uu h1).1,(Uu h2).1,(Uu h3).1,(Uu h4).1];exact⟨rfl,Nat.pos_of_ne_zero hz.1,Nat.pos_of_ne_zero hz.2.1,Nat.pos_of_ne_zero hz.2.2,(Uu h3).2⟩
   · cases e
 · cases e
theorem Zid{row w:List Nat}(e:ldR row=some w):row=YQ w/\∀c∈w,c∈cs_MARK_SIGNS:=by
 unfold ldR at e
 split at e
 · rename_i h
   cases e;exact⟨h,λc hc=>nomatch hc⟩
 · split at e
   · rename_i v hv
     split at e
     · rename_i hp
       cases e;obtain⟨h1,h2⟩:=Zbc hp;refine⟨?_,h2⟩;unfold YQ;rw [if_neg (λz=>by rw [z]at h1;cases h1)];exact Zby hv
     · cases e
   · cases e
theorem Zie{row:List Nat}{m f:Nat}(e:fsR row m=some f):row=ZR YN [Zo f]/\f<m:=by
 unfold fsR at e
 split at e
 · rename_i w hw
   obtain⟨h1,_,h3⟩:=Zbb e;exact⟨by rw [Zby hw,h1],h3⟩
 · cases e
theorem ZeX{row:List Nat}{a:Nat}(e:hmR row=some a):row=ZR PLACE [Zo a]/\a<1000000:=by
 unfold hmR at e
 split at e
 · rename_i w hw
   obtain⟨h1,h2⟩:=Uu e;exact⟨by rw [Zby hw,h1],h2⟩
 · cases e
theorem ZcF{row:List Nat}{q m:Nat}{p:Pr}(e:wyR row q m=some p):row=YR p/\PrOk q m p:=by
 unfold wyR at e
 split at e
 · rename_i w x hw
   unfold wyP at e
   split at e
   · rename_i hz
     split at e
     · rename_i n hn
       cases e;obtain⟨h1,_,h3⟩:=Zbb hn;obtain⟨_,h5⟩:=Zbc hz.2;refine⟨?_,hz.1,h5,h3⟩;unfold YR;rw [(QF hw).1,h1]
     · cases e
   · cases e
 · cases e
def okR(R:List (List Nat))(h:Hd)(k:Nat):Bool:=stB (R.getD k []) k h
abbrev many(h:Hd):Nat:=3+h.m*(h.n+1)
theorem Zg0(nm:List Nat)(k:Nat)(h:0<k):wb [] nm k=none:=by
 unfold wb;show(if []=nm/\[].length=k then some []else none)=none;rw [if_neg (λz=>by have:=z.2;rw [<-this]at h;cases h)]
theorem ZjG(k:Nat)(h:Hd):stB [] k h=false:=by
 have e1:∀nm,X2 [] nm=none:=λnm=>by unfold X2;rw [Zg0 nm 1 (by decide)]
 unfold stB
 split
 · unfold ldR
   rw [if_neg (by decide),e1];rfl
 · split
   · unfold fsR
     rw [e1];rfl
   · split
     · unfold hmR
       rw [e1];rfl
     · unfold wyR
       rw [Zg0 WAY 2 (by decide)];rfl
theorem ZiZ{R:List (List Nat)}{h:Hd}{k:Nat}(e:okR R h k=true):k<R.length:=by
 refine Nat.lt_of_not_le λhk => ?_
 unfold okR at e;rw [List.getD_eq_getElem?_getD,List.getElem?_eq_none hk]at e;rw [show(none:Option (List Nat)).getD []=[]from rfl,ZjG]at e;cases e
theorem ZcG(R:List (List Nat))(h:Hd)(i:Nat):okR R h (3+i*(h.n+1))=(hmR (R.getD (3+i*(h.n+1)) [])).isSome:=by
 unfold okR stB;rw [if_neg (by omega),if_neg (by omega),if_pos (by rw [show 3+i*(h.n+1)-3=i*(h.n+1) by omega];exact Nat.mul_mod_left _ _)]
theorem Zen(R:List (List Nat))(h:Hd)(i j:Nat)(hj:j<h.n):okR R h (4+i*(h.n+1)+j)=(wyR (R.getD (4+i*(h.n+1)+j) []) h.q h.m).isSome:=by
 unfold okR stB;rw [if_neg (by omega),if_neg (by omega),if_neg];rw [show 4+i*(h.n+1)+j-3=(j+1)+i*(h.n+1) by omega,Nat.add_mul_mod_self_right,Nat.mod_eq_of_lt (by omega)];omega
theorem Zbn{α β:Type}{f:α->Except XC β}:∀{xs:List α}{bs:List β},XG f xs = .ok bs->bs.length=xs.length/\∀(i:Nat)(x:α),xs[i]? = some x->∃b,bs[i]? = some b/\f x = .ok b
 | [],bs,h=>by
  cases h;exact⟨rfl,λi x hx=>by simp at hx⟩
 |y::xs,bs,h=>by
  unfold XG at h
  split at h
  · cases h
  · rename_i b hb
    split at h
    · cases h
    · rename_i cs hc
      cases h;obtain⟨h1,h2⟩:=Zbn hc;refine⟨by rw [List.length_cons,List.length_cons,h1],λi x hx => ?_⟩;cases i with
      |zero=>cases hx;exact⟨b,rfl,hb⟩
      |succ i=>exact h2 i x hx
theorem Zbz{α β:Type}{f:α->Except XC β}{c:XC}:∀{xs:List α},XG f xs = .error c->∃(i:Nat) (x:α),xs[i]? = some x/\f x = .error c/\∀(j:Nat)(y:α),j<i->xs[j]? = some y->∃b,f y = .ok b
 | [],h=>by cases h
 |y::xs,h=>by
  unfold XG at h
  split at h
  · rename_i c' hc
    cases h;exact⟨0,y,rfl,hc,λj _ hj=>nomatch hj⟩
  · rename_i b hb
    split at h
    · rename_i c' hc
      cases h;obtain⟨i,x,h1,h2,h3⟩:=Zbz hc;refine⟨i+1,x,h1,h2,λj y' hj hy => ?_⟩;cases j with
      |zero=>cases hy;exact⟨b,hb⟩
      |succ j=>exact h3 j y' (by omega) hy
    · cases h
end K50
namespace K50
open DL L2
theorem Zcb{n i x:Nat}(h:(List.range n)[i]? = some x):i<n/\x=i:=by
 have hi:i<n:=by have:=(List.getElem?_eq_some_iff.mp h).1;simpa using this
 rw [List.getElem?_range hi]at h;exact⟨hi,(Option.some.inj h).symm⟩
section
variable{R:List (List Nat)}{h:Hd}
theorem JG{s:Nat}{ws:List Pr}(e:Vi R h s = .ok ws):ws.length=h.n/\∀j,j<h.n->∃p,ws[j]? = some p/\wyR (R.getD (s+j) []) h.q h.m=some p:=by
 unfold Vi at e;obtain⟨h1,h2⟩:=Zbn e;rw [List.length_range]at h1;refine⟨h1,λj hj => ?_⟩;obtain⟨p,h3,h4⟩:=h2 j j (List.getElem?_range hj);refine⟨p,h3,?_⟩;unfold wyE at h4
 split at h4
 · rename_i q hq
   cases h4;exact hq
 · cases h4
theorem Zif{s:Nat}{c:XC}(e:Vi R h s = .error c):∃j,j<h.n/\wyR (R.getD (s+j) []) h.q h.m=none/\c=BT (s+j+1)/\∀i,i<j->(wyR (R.getD (s+i) []) h.q h.m).isSome=true:=by
 unfold Vi at e;obtain⟨j,x,h1,h2,h3⟩:=Zbz e;obtain⟨hj,rfl⟩:=Zcb h1;refine⟨x,hj,?_⟩;unfold wyE at h2
 split at h2
 · cases h2
 · rename_i hn
   cases h2;refine⟨hn,rfl,λi hi => ?_⟩;obtain⟨p,h4⟩:=h3 i i hi (List.getElem?_range (by omega));unfold wyE at h4
   split at h4
   · rename_i q hq
     rw [hq];rfl
   · cases h4
theorem QH{i:Nat}{b:Nat×List Pr}(e:plE R h i = .ok b):hmR (R.getD (3+i*(h.n+1)) [])=some b.1/\Vi R h (4+i*(h.n+1)) = .ok b.2:=by
 unfold plE at e
 split at e
 · cases e
 · rename_i a ha
   split at e
   · cases e
   · rename_i ws hw
     cases e;exact⟨ha,hw⟩
theorem ZbA{i:Nat}{b:Nat×List Pr}(e:plE R h i = .ok b)(s:Nat)(hs:s<=h.n):okR R h (3+i*(h.n+1)+s)=true:=by
 obtain⟨h1,h2⟩:=QH e;cases s with
 |zero=>
  rw [Nat.add_zero,ZcG,h1];rfl
 |succ s=>
  obtain⟨p,_,h3⟩:=(JG h2).2 s (by omega);rw [show 3+i*(h.n+1)+(s+1)=4+i*(h.n+1)+s by omega,Zen R h i s (by omega),h3];rfl
theorem idx(n k:Nat)(hk:3<=k):∃i s,s<=n/\k=3+i*(n+1)+s:=by
 refine⟨(k-3) / (n+1),(k-3) % (n+1),?_,?_⟩
 · have:=Nat.mod_lt (k-3) (show 0<n+1 by omega)
   omega
 · have:=Nat.div_add_mod (k-3) (n+1)
   rw [Nat.mul_comm]at this;omega
theorem JH{n i s i' s':Nat}(hs':s'<=n)(h:3+i*(n+1)+s<3+i'*(n+1)+s'):i<i'\/(i=i'/\s<s'):=by
 rcases Nat.lt_trichotomy i i' with z|z|z
 · exact .inl z
 · subst z
   exact .inr ⟨rfl,by omega⟩
 · exfalso
   have:(i'+1)*(n+1)<=i*(n+1):=Nat.mul_le_mul_right _ z;rw [Nat.succ_mul]at this;omega
theorem ZjH{c:XC}(hd:hdR (R.getD 0 [])=some h)(e:rdE R = .error c):(∃k,1<=k/\k<many h/\okR R h k=false/\(∀j,1<=j->j<k->okR R h j=true)/\c=BT (k+1))\/((∀j,1<=j->j<many h->okR R h j=true)/\many h<R.length/\c=BT (many h+1)):=by
 unfold rdE at e;rw [hd]at e;dsimp only at e;have o1:okR R h 1=(ldR (R.getD 1 [])).isSome:=by unfold okR stB;rw [if_pos rfl]
 have o2:okR R h 2=(fsR (R.getD 2 []) h.m).isSome:=by unfold okR stB;rw [if_neg (by decide),if_pos rfl]
 split at e
 · rename_i hl
   cases e;exact .inl ⟨1,by omega,by unfold many;omega,by rw [o1,hl];rfl,λj h1 h2=>by omega,rfl⟩
 · rename_i lead hl
   rw [hl]at o1
   split at e
   · rename_i hf
     cases e;refine .inl ⟨2,by omega,by unfold many;omega,by rw [o2,hf];rfl,λj h1 h2 => ?_,rfl⟩;rw [show j=1 by omega];exact o1
   · rename_i f hf
     rw [hf]at o2
     have lo:∀j,1<=j->j<3->okR R h j=true:=λj h1 h2=>by
      rcases(show j=1\/j=2 by omega)with rfl|rfl
      · exact o1
      · exact o2
     unfold rdP at e
     split at e
     · rename_i c' hs
       cases e;obtain⟨i,x,h1,h2,h3⟩:=Zbz hs;obtain⟨hi,rfl⟩:=Zcb h1;have hm:(x+1)*(h.n+1)<=h.m*(h.n+1):=Nat.mul_le_mul_right _ hi;rw [Nat.succ_mul]at hm
       have before:∀i' s',i'<x->s'<=h.n->okR R h (3+i'*(h.n+1)+s')=true:=λi' s' hi' hs'=>by
        obtain⟨b,hb⟩:=h3 i' i' hi' (List.getElem?_range (by omega));exact ZbA hb s' hs'
       unfold plE at h2
       split at h2
       · rename_i hh
         cases h2;refine .inl ⟨3+x*(h.n+1),by omega,by unfold many;omega,by rw [ZcG,hh];rfl,λj h4 h5 => ?_,by rw [show 3+x*(h.n+1)+1=4+x*(h.n+1) by omega]⟩
         by_cases h6:j<3
         · exact lo j h4 h6
         · obtain⟨i',s',h7,rfl⟩:=idx h.n j (by omega)
           rcases JH (s':=0) (Nat.zero_le _) (show 3+i'*(h.n+1)+s'<3+x*(h.n+1)+0 from h5)with z|⟨_,z⟩
           · exact before i' s' z h7
           · cases z
       · rename_i a ha
         split at h2
         · rename_i c' hw
           cases h2;obtain⟨j,g1,g2,g3,g4⟩:=Zif hw;refine .inl ⟨4+x*(h.n+1)+j,by omega,by unfold many;omega,by rw [Zen R h x j g1,g2];rfl,λk h4 h5 => ?_,g3⟩
           by_cases h6:k<3
           · exact lo k h4 h6
           · obtain⟨i',s',h7,rfl⟩:=idx h.n k (by omega)
             rcases JH (s':=j+1) (by omega) (show 3+i'*(h.n+1)+s'<3+x*(h.n+1)+(j+1) by omega)with z|⟨rfl,z⟩
             · exact before i' s' z h7
             · cases s' with
               |zero=>rw [Nat.add_zero,ZcG,ha];rfl
               |succ s'=>
                rw [show 3+i'*(h.n+1)+(s'+1)=4+i'*(h.n+1)+s' by omega,Zen R h i' s' (by omega)];exact g4 s' (by omega)
         · cases h2
     · rename_i ps hs
       have all:∀j,1<=j->j<many h->okR R h j=true:=λj h1 h2=>by
        by_cases h6:j<3
        · exact lo j h1 h6
        · obtain⟨i',s',h7,rfl⟩:=idx h.n j (by omega)
          rcases JH (s':=0) (Nat.zero_le _) (show 3+i'*(h.n+1)+s'<3+h.m*(h.n+1)+0 from h2)with z|⟨_,z⟩
          · obtain⟨b,_,hb⟩:=(Zbn hs).2 i' i' (List.getElem?_range z)
            exact ZbA hb s' h7
          · cases z
       split at e
       · rename_i hz
         cases e;exact .inr ⟨all,by unfold many;omega,by unfold many;rw [show 3+h.m*(h.n+1)+1=4+h.m*(h.n+1) by omega]⟩
       · cases e
end
end K50
namespace K50
open DL L2
section
variable{R:List (List Nat)}{h:Hd}
theorem JI(n:Nat):1<=(Zo n).length:=List.length_pos_iff.mpr (Zdn n).ne
theorem ZeY(p:Pr):(YR p).length=5+p.1.length+(Zo p.2).length:=by
 unfold YR ZR;simp only [ZL,List.length_append,List.length_cons,List.length_nil];omega
theorem VB{k:Nat}(hk:k<R.length):R.getD k []∈R/\R[k]? = some (R.getD k []):=by
 rw [List.getD_eq_getElem?_getD,List.getElem?_eq_getElem hk];exact⟨List.getElem_mem hk,rfl⟩
theorem Zi0{t:T}(hd:hdR (R.getD 0 [])=some h)(e:rdE R = .ok t)(hl:R.length<=33)(hr:∀r∈R,r.length<=14):t.Ok/\t.rows=R/\R.length=many h/\∀j,1<=j->j<many h->okR R h j=true:=by
 obtain⟨g0,gn,gq,gm,ga⟩:=ZeW hd;unfold rdE at e;rw [hd]at e;dsimp only at e
 split at e
 · cases e
 rename_i lead hld
 split at e
 · cases e
 rename_i f hfs;unfold rdP at e
 split at e
 · cases e
 rename_i ps hs
 split at e
 · cases e
 rename_i hz;cases e;obtain⟨hps,hpi⟩:=Zbn hs;rw [List.length_range]at hps;have at_:∀i,i<h.m->∃b,ps[i]? = some b/\plE R h i = .ok b:=λi hi=>hpi i i (List.getElem?_range hi)
 have all:∀j,1<=j->j<many h->okR R h j=true:=λj h1 h2=>by
  by_cases h6:j<3
  · rcases(show j=1\/j=2 by omega)with rfl|rfl
    · unfold okR stB;rw [if_pos rfl,hld];rfl
    · unfold okR stB;rw [if_neg (by decide),if_pos rfl,hfs];rfl
  · obtain⟨i',s',h7,rfl⟩:=idx h.n j (by omega)
    rcases JH (s':=0) (Nat.zero_le _) (show 3+i'*(h.n+1)+s'<3+h.m*(h.n+1)+0 from h2)with z|⟨_,z⟩
    · obtain⟨b,_,hb⟩:=at_ i' z
      exact ZbA hb s' h7
    · cases z
 have hmn2:1*(h.n+1)<=h.m*(h.n+1):=Nat.mul_le_mul_right _ gm;have hmn1:h.m*2<=h.m*(h.n+1):=Nat.mul_le_mul_left _ (by omega)
 have hlen:R.length=many h:=by
  have:=ZiZ (all (many h-1) (by unfold many;omega) (by unfold many;omega));unfold many at this ⊢;omega
 have hlen':R.length=3+h.m*(h.n+1):=hlen;have hmn:h.m*(h.n+1)<=30:=by omega
 have inR:∀k,k<R.length->(R.getD k []).length<=14:=λk hk=>hr _ (VB hk).1
 have hq8:h.q<=8:=by
  obtain⟨b,_,hb⟩:=at_ 0 gm;obtain⟨p,_,hp⟩:=(JG (QH hb).2).2 0 gn;obtain⟨w1,w2⟩:=ZcF hp;have:=inR (4+0*(h.n+1)+0) (by omega);rw [w1,ZeY,w2.ln]at this;have:=JI p.2;omega
 obtain⟨l1,l2⟩:=Zid hld;obtain⟨f1,f2⟩:=Zie hfs
 have hll:lead.length<=9:=by
  have:=inR 1 (by omega);rw [l1]at this;unfold YQ at this
  split at this
  · rename_i hz;rw [hz];exact Nat.zero_le _
  · unfold ZR at this
    simp only [ZL,List.length_append,List.length_cons,List.length_nil]at this;omega
 have memP:∀b∈ps,∃i,i<h.m/\ps[i]? = some b/\plE R h i = .ok b:=λb hb=>by
  obtain⟨i,hi⟩:=List.mem_iff_getElem?.mp hb;have hi2:i<h.m:=by have:=(List.getElem?_eq_some_iff.mp hi).1;omega
  obtain⟨b',h1,h2⟩:=at_ i hi2;rw [hi]at h1;cases h1;exact⟨i,hi2,hi,h2⟩
 have o:(⟨lead,f,h.a,h.n,h.q,h.m,ps.map Prod.fst,ps.map Prod.snd⟩:T).Ok:=by
  refine⟨gm,by show h.m<=30;omega,hmn,gn,by show h.n<=30;omega,gq,hq8,f2,ga,by show(ps.map _).length=_;rw [List.length_map,hps],?_,by show(ps.map _).length=_;rw [List.length_map,hps],?_,?_,hll,l2⟩
  · intro a ha
    obtain⟨b,hb,rfl⟩:=List.mem_map.mp ha;obtain⟨i,_,_,h2⟩:=memP b hb;exact(ZeX (QH h2).1).2
  · intro ws hw
    obtain⟨b,hb,rfl⟩:=List.mem_map.mp hw;obtain⟨i,_,_,h2⟩:=memP b hb;exact(JG (QH h2).2).1
  · intro ws hw p hp
    obtain⟨b,hb,rfl⟩:=List.mem_map.mp hw;obtain⟨i,_,_,h2⟩:=memP b hb;obtain⟨w1,w2⟩:=JG (QH h2).2;obtain⟨j,hj⟩:=List.mem_iff_getElem?.mp hp;obtain⟨p',w3,w4⟩:=w2 j (by have:=(List.getElem?_eq_some_iff.mp hj).1;omega);rw [hj]at w3;cases w3;exact(ZcF w4).2
 refine⟨o,?_,hlen,all⟩;apply List.ext_getElem?;intro k
 by_cases hk:k<R.length
 · rw [(VB hk).2]
   by_cases h6:k<3
   · unfold T.rows
     rcases(show k=0\/k=1\/k=2 by omega)with rfl|rfl|rfl
     · rw [g0];rfl
     · rw [l1];rfl
     · rw [f1];rfl
   · obtain⟨i,s,h7,rfl⟩:=idx h.n k (by omega)
     rcases JH (s':=0) (Nat.zero_le _) (show 3+i*(h.n+1)+s<3+h.m*(h.n+1)+0 by omega)with z|⟨_,z⟩
     · obtain⟨b,hb,hb2⟩:=at_ i z
       obtain⟨p1,p2⟩:=QH hb2;have:=T.rows_at o (i:=i) (s:=s) (h:=b.1) (ws:=b.2) (by show(ps.map _)[i]? = _;rw [List.getElem?_map,hb];rfl) (by show(ps.map _)[i]? = _;rw [List.getElem?_map,hb];rfl) (by show s<h.n+1;omega);refine this.trans ?_;unfold blk;cases s with
       |zero=>
        rw [Nat.add_zero,(ZeX p1).1];rfl
       |succ s=>
        obtain⟨p,w3,w4⟩:=(JG p2).2 s (by omega);rw [List.getElem?_cons_succ,List.getElem?_map,w3,show 3+i*(h.n+1)+(s+1)=4+i*(h.n+1)+s by omega,(ZcF w4).1];rfl
     · cases z
 · rw [List.getElem?_eq_none (by rw [T.rows_len o];show 3+h.m*(h.n+1)<=k;omega),List.getElem?_eq_none (by omega)]
end
end K50
namespace K50
open DL L2
noncomputable def du1:DL.Env->Option Out:=(Zq 1 (Zl 1 Zkg [] (Zb (eOp ixD (Za 0) (eC (.int 0))) eNil)))
noncomputable def du3:DL.Env->Option Out:=(Zq 2 (eOp addX (eC (.int 3)) (eOp mulX (eOp ixD (Za 1) (eC (.int 3))) (eOp addX (eOp ixD (Za 1) (eC (.int 0))) (eC (.int 1))))))
noncomputable def duT:DL.Env->Option Bool:=(xOr (xB (eOp (ZJ λi j=>decide (j<=i)) (Za 3) (Za 2))) (Xd (xB (Zl 3 Zki [] (Zb (eOp ixD (Za 0) (Za 3)) (Zb (Za 3) (Zb (Za 1) eNil)))))))
noncomputable def duB:DL.Env->Option Out:=(sIf duT (Zp (eOp addX (Za 3) (eC (.int 1)))) sNext)
noncomputable def duI:DL.Env->Option (List D):=(Z5 (Zb (eC (.int 1)) (Zb (eCB lenD (Zb (Za 0) eNil)) eNil)))
noncomputable def du5:DL.Env->Option Out:=(sIf (xB (eOp (ZJ λi j=>decide (i<j)) (eCB lenD (Zb (Za 0) eNil)) (Za 2))) (Zp (eOp addX (eCB lenD (Zb (Za 0) eNil)) (eC (.int 1)))) sNext)
theorem Zg1:Zkj=Zg du1 (Zg (sIf (xB (Yu (Za 1))) (Zp (eC (.int 1))) sNext) (Zg du3 (Zg (Yo duI (Zx 3) duB) (Zg du5 (Zp (eC (.int 0))))))):=rfl
abbrev DE(R:List (List Nat))(h:Hd)(v3:Option D):DL.Env:=[some (.lst (R.map D.str)),some h.d,some (nD (many h)),v3]
section
variable{R:List (List Nat)}{h:Hd}
def tB(R:List (List Nat))(h:Hd)(k:Nat):Bool:=decide (many h<=k) || !okR R h k
theorem Zg2(hR:Rows R){k:Nat}(h1:1<=k)(h2:k<R.length)(h3:R.length<=1000):duT (DE R h (some (nD k)))=some (tB R h k):=by
 refine X1 (ZA ?_) λ_=>Zbi (ZA ?_)
 · refine(Zn (x:=nD k) (y:=nD (many h)) rfl rfl).trans ?_
   generalize many h=z;show some (D.bl (decide ((z:Int)<=(k:Int))))=_;rw [decide_eq_decide.mpr (show(z:Int)<=(k:Int) ↔ z<=k by omega)]
 · refine(ZT (n:=3) (Zk ((Zn (x:=.lst (R.map D.str)) (y:=nD k) rfl rfl).trans (Z0 (x:=.str (R.getD k [])) (by rw [List.getElem?_map,(VB h2).2];rfl))) (Zk (x:=nD k) rfl (Zk (x:=h.d) rfl nil_of))) rfl).trans ?_
   exact ZdW (hR.at k) h1 (by omega)
theorem ZcH(hR:Rows R)(h3:R.length<=1000):∀(ks:List Nat)(r:List D)(v:Option D),(∀k∈ks,1<=k/\k<R.length/\tB R h k=false)->∃v',Yn (Zx 3) duB (ks.map nD++r) (DE R h v)=Yn (Zx 3) duB r (DE R h v')
 | [],r,v,_=>⟨v,rfl⟩
 |k::ks,r,v,hk=>by
  obtain⟨h1,h2,h4⟩:=hk k List.mem_cons_self;have e:=Zg2 (h:=h) hR h1 h2 h3;rw [h4]at e;obtain⟨v',ih⟩:=ZcH hR h3 ks r (some (nD k)) λj hj=>hk j (List.mem_cons_of_mem _ hj)
  refine⟨v',?_⟩;rw [List.map_cons,List.cons_append]
  conv=>lhs;unfold Yn
  rw [show Zx 3 (nD k) (DE R h v)=some (DE R h (some (nD k)))from rfl];dsimp only;rw [show duB (DE R h (some (nD k)))=some (.nx (DE R h (some (nD k))))from(Ys e).trans rfl];exact ih
theorem ZjI(hR:Rows R)(h3:R.length<=1000){k:Nat}(h1:1<=k)(h2:k<R.length)(h4:tB R h k=true)(r:List D)(v:Option D):Yn (Zx 3) duB (nD k::r) (DE R h v)=some (.rt (nD (k+1))):=by
 have e:=Zg2 (h:=h) hR h1 h2 h3;rw [h4]at e;unfold Yn;rw [show Zx 3 (nD k) (DE R h v)=some (DE R h (some (nD k)))from rfl];dsimp only;rw [show duB (DE R h (some (nD k)))=some (.rt (nD (k+1)))from(Yj e).trans (Yr ((Zn (x:=nD k) (y:=.int 1) rfl rfl).trans (add_int _ _)))]
theorem ZcR{n k:Nat}(h1:1<=k)(h2:k<=n):∃r:List Nat,(List.range n).map (λj=>1+j)=(List.range (k-1)).map (λj=>1+j)++k::r:=by
 refine⟨(List.range (n-k)).map (λj=>1+(k+j)),?_⟩;rw [show n=(k-1)+((n-k)+1) by omega,List.range_add,List.map_append,List.range_succ_eq_map,List.map_cons,List.map_cons,List.map_map,List.map_map];rw [show(k-1+(n-k+1)-k)=n-k by omega,show 1+(k-1+0)=k by omega]
 congr 2
 refine List.map_congr_left λj _ => ?_
 simp only [Function.comp];omega
inductive Due(R:List (List Nat))(h:Hd):Nat->Prop where
 |bad {k:Nat}:1<=k->k<many h->okR R h k=false->(∀j,1<=j->j<k->okR R h j=true)->Due R h (k+1)
 |more:(∀j,1<=j->j<many h->okR R h j=true)->many h<R.length->Due R h (many h+1)
 |good:(∀j,1<=j->j<many h->okR R h j=true)->R.length=many h->Due R h 0
theorem Zhn(hR:Rows R)(h3:R.length<=1000)(hne:R≠[])(hd:hdR (R.getD 0 [])=some h)(hm:h.m<=1000)(hn:h.n<=999){d:Nat}(D':Due R h d):UW [.lst (R.map D.str)]=some (nD d):=by
 have hlen:0<R.length:=List.length_pos_iff.mpr hne;refine Yt (δ:=[some (.lst (R.map D.str)),none,none,none]) rfl ?_;rw [Zg1]
 have t1:du1 [some (.lst (R.map D.str)),none,none,none]=some (.nx [some (.lst (R.map D.str)),some h.d,none,none]):=by
  refine Z1 ((ZT (n:=1) (Zk ((Zn (x:=.lst (R.map D.str)) (y:=nD 0) rfl rfl).trans (Z0 (x:=.str (R.getD 0 [])) (by rw [List.getElem?_map,(VB hlen).2];rfl))) nil_of) rfl).trans ((Zds _ (hR.at 0)).trans ?_));rw [hd];rfl
 refine(Zt t1).trans ?_;refine(Zt (δ':=[some (.lst (R.map D.str)),some h.d,none,none]) ((Ys (ZA (show Yu (Za 1) [some (.lst (R.map D.str)),some h.d,none,none]=some (.bl false)from rfl))).trans rfl)).trans ?_
 have t3:du3 [some (.lst (R.map D.str)),some h.d,none,none]=some (.nx (DE R h none)):=by
  refine Z1 ((Zn (x:=.int 3) (y:=.int ((h.m:Int)*((h.n:Int)+1))) rfl ((Zn (x:=nD h.m) (y:=.int ((h.n:Int)+1)) ((Zn (x:=h.d) (y:=nD 3) rfl rfl).trans (Z0 rfl)) ((Zn (x:=nD h.n) (y:=.int 1) ((Zn (x:=h.d) (y:=nD 0) rfl rfl).trans (Z0 rfl)) rfl).trans (add_int _ _))).trans (Zb4 (by omega) (by omega)))).trans ((add_int _ _).trans ?_));unfold many;show some (D.int ((3:Int)+(h.m:Int)*((h.n:Int)+1)))=some (D.int ((3+h.m*(h.n+1):Nat):Int))
  rw [Int.natCast_add,Int.natCast_mul,Int.natCast_add];rfl
 refine(Zt t3).trans ?_
 have hi:duI (DE R h none)=some (((List.range (R.length-1)).map λj=>1+j).map nD):=by
  have e:Zb (eC (.int 1)) (Zb (eCB lenD (Zb (Za 0) eNil)) eNil) (DE R h none)=some [.int 1,.int (R.length:Int)]:=Zk rfl (Zk ((Yd (Zk (x:=.lst (R.map D.str)) rfl nil_of)).trans (len_lst.trans (by rw [List.length_map]))) nil_of);refine(Zeg e (by omega) (by omega) (by omega) (by omega)).trans ?_;rw [show((R.length:Int)-1).toNat=R.length-1 by omega,List.map_map];exact congrArg some (Zbm 1 (R.length-1))
 have Vz:∀v,eCB lenD (Zb (Za 0) eNil) (DE R h v)=some (nD R.length):=λv=>(Yd (Zk (x:=.lst (R.map D.str)) rfl nil_of)).trans (len_lst.trans (by rw [List.length_map]))
 have hit:∀k,1<=k->k<R.length->tB R h k=true->(∀j,1<=j->j<k->tB R h j=false)->Yn (Zx 3) duB (((List.range (R.length-1)).map λj=>1+j).map nD) (DE R h none)=some (.rt (nD (k+1))):=λk h1 h2 h4 h5=>by
  obtain⟨r,er⟩:=ZcR (n:=R.length-1) h1 (by omega);rw [er,List.map_append,List.map_cons]
  obtain⟨v',e⟩:=ZcH (h:=h) hR h3 ((List.range (k-1)).map λj=>1+j) (nD k::r.map nD) none λj hj=>by
   obtain⟨i,hi,rfl⟩:=List.mem_map.mp hj;have:=List.mem_range.mp hi;exact⟨by omega,by omega,h5 _ (by omega) (by omega)⟩
  rw [e];exact ZjI hR h3 h1 h2 h4 _ _
 have pass:(∀j,1<=j->j<R.length->tB R h j=false)->∃v',Yn (Zx 3) duB (((List.range (R.length-1)).map λj=>1+j).map nD) (DE R h none)=some (.nx (DE R h v')):=λh5=>by
  obtain⟨v',e⟩:=ZcH (h:=h) hR h3 ((List.range (R.length-1)).map λj=>1+j) [] none λj hj=>by
   obtain⟨i,hi,rfl⟩:=List.mem_map.mp hj;have:=List.mem_range.mp hi;exact⟨by omega,by omega,h5 _ (by omega) (by omega)⟩
  rw [List.append_nil]at e;exact⟨v',e⟩
 have t5:∀v,xB (eOp (ZJ λi j=>decide (i<j)) (eCB lenD (Zb (Za 0) eNil)) (Za 2)) (DE R h v)=some (decide (R.length<many h)):=λv=>ZA ((Zn (y:=nD (many h)) (Vz v) rfl).trans (ZcW _ _))
 have tb0:∀j,j<many h->okR R h j=true->tB R h j=false:=λj h1 h2=>by
  unfold tB;rw [decide_eq_false (by omega),h2];rfl
 cases D' with
 |more all hl=>
  refine Yc (Xq hi (hit (many h) (by unfold many;omega) hl (by unfold tB;rw [decide_eq_true (Nat.le_refl _)];rfl) λj h1 h2=>tb0 j h2 (all j h1 h2)))
 |good all hl=>
  obtain⟨v',e⟩:=pass λj h1 h2=>tb0 j (by omega) (all j h1 (by omega))
  have e5:=t5 v';rw [decide_eq_false (by omega)]at e5;refine(Zt (Xq hi e)).trans ?_;exact(Zt (a:=du5) ((Ys e5).trans rfl)).trans rfl
 | @bad k h1 h2 h4 h5=>
  by_cases hk:k<R.length
  · exact Yc (Xq hi (hit k h1 hk (by unfold tB;rw [h4];exact Bool.or_true _) λj g1 g2=>tb0 j (by omega) (h5 j g1 g2)))
  · have hkl : k = R.length := by
     refine Nat.le_antisymm (Nat.le_of_not_lt λz => ?_) (by omega);have:=ZiZ (h5 R.length hlen z);omega
    subst hkl;obtain⟨v',e⟩:=pass λj g1 g2=>tb0 j (by omega) (h5 j g1 g2)
    have e5:=t5 v';rw [decide_eq_true h2]at e5;refine(Zt (Xq hi e)).trans (Yc (a:=du5) ((Yj e5).trans (Yr ?_)));exact(Zn (y:=.int 1) (Vz v') rfl).trans (add_int _ _)
theorem Zgi(hR:Rows R)(hne:R≠[])(hd:hdR (R.getD 0 [])=none):UW [.lst (R.map D.str)]=some (nD 1):=by
 have hlen:0<R.length:=List.length_pos_iff.mpr hne;refine Yt (δ:=[some (.lst (R.map D.str)),none,none,none]) rfl ?_;rw [Zg1]
 have t1:du1 [some (.lst (R.map D.str)),none,none,none]=some (.nx [some (.lst (R.map D.str)),some .non,none,none]):=by
  refine Z1 ((ZT (n:=1) (Zk ((Zn (x:=.lst (R.map D.str)) (y:=nD 0) rfl rfl).trans (Z0 (x:=.str (R.getD 0 [])) (by rw [List.getElem?_map,(VB hlen).2];rfl))) nil_of) rfl).trans ((Zds _ (hR.at 0)).trans ?_));rw [hd];rfl
 exact(Zt t1).trans rfl
end
end K50
namespace K50
open DL L2
theorem Zcc{γ:D->Env->Option Env}{φ:Env->Option Out}{x:D}{r:List D}{δ δ1:Env}(h:γ x δ=some δ1):Yn γ φ (x::r) δ=(match φ δ1 with
 |none=>none
 |some (.nx δ2)=>Yn γ φ r δ2
 |some (.ct δ2)=>Yn γ φ r δ2
 |some (.bk δ2)=>some (.nx δ2)
 |some (.rt d)=>some (.rt d)):=by
 rw [Yn,h]
 try rfl
theorem gt2{i j:Nat}{x y:D}{δ:DL.Env}:Xz 2 (YH i (YH j gsNil)) (.tup [x,y]) δ=some ((δ.set i (some x)).set j (some y)):=rfl
theorem Zig{n:Nat}{f:DL.Env->Option Out}{vs:List D}{δ:DL.Env}{d:D}(h1:(vs.map some++List.replicate (n-vs.length) none)=δ)(h2:f δ=some (.rt d)):Q8 n f vs=some d:=by
 unfold Q8;rw [h1,h2]
theorem Zdz{t:T}{i:Nat}{δ:DL.Env}(h:Za i δ=some t.obj):Yb Vu "lead" (Za i) δ=some (.str t.lead):=by unfold Yb;rw [h];rfl
theorem ZfE{t:T}{i:Nat}{δ:DL.Env}(h:Za i δ=some t.obj):Yb UQ "first" (Za i) δ=some (nD t.f):=by unfold Yb;rw [h];rfl
theorem ZfF{t:T}{i:Nat}{δ:DL.Env}(h:Za i δ=some t.obj):Yb UP "ahead" (Za i) δ=some (nD t.a):=by unfold Yb;rw [h];rfl
theorem Zcd{t:T}{i:Nat}{δ:DL.Env}(h:Za i δ=some t.obj):Yb Vt "homes" (Za i) δ=some (.tup (t.hs.map nD)):=by unfold Yb;rw [h];rfl
theorem ZbB{t:T}{i:Nat}{δ:DL.Env}(h:Za i δ=some t.obj):Yb Vv "ways" (Za i) δ=some (.tup (t.W.map YO)):=by unfold Yb;rw [h];rfl
theorem T.first_row{t:T}(o:t.Ok):∃p0 ws0 W0,t.W=(p0::ws0)::W0/\(p0::ws0).length=t.n/\p0.1.length=t.q:=by
 cases hW:t.W with
 |nil=>have:=o.wl;rw [hW]at this;have:=o.m0;simp at *;omega
 |cons w0 W0=>
  have h1:=o.rl w0 (by rw [hW];exact List.mem_cons_self);cases w0 with
  |nil=>have:=o.n0;simp at h1;omega
  |cons p0 ws0=>exact⟨p0,ws0,W0,rfl,h1,(o.pr _ (by rw [hW];exact List.mem_cons_self) p0 List.mem_cons_self).ln⟩
theorem Zgj{t:T}(o:t.Ok):Zk3 [t.obj]=some (nD t.n):=by
 obtain⟨p0,ws0,W0,h1,h2,h3⟩:=t.first_row o;have e:=ZbB (t:=t) (i:=0) (δ:=[some t.obj]) rfl;rw [h1]at e;refine Yt (δ:=[some t.obj]) rfl (Yr ((Yd (Zk ((Zn e (y:=nD 0) rfl).trans (ix_tup (x:=YO (p0::ws0)) rfl)) nil_of)).trans ?_));show some (D.int (((p0::ws0).map prD).length:Int))=_;rw [List.length_map,h2]
theorem Zgk{t:T}(o:t.Ok):Zk5 [t.obj]=some (nD t.q):=by
 obtain⟨p0,ws0,W0,h1,h2,h3⟩:=t.first_row o;have e:=ZbB (t:=t) (i:=0) (δ:=[some t.obj]) rfl;rw [h1]at e;have h4:=o.q4;refine Yt (δ:=[some t.obj]) rfl (Yr ((Yd (Zk ((Zn (y:=nD 0) ((Zn (y:=nD 0) ((Zn e (y:=nD 0) rfl).trans (ix_tup (x:=YO (p0::ws0)) rfl)) rfl).trans (ix_tup (x:=prD p0) rfl)) rfl).trans (ix_tup (x:=.str p0.1) rfl)) nil_of)).trans ?_));rw [len_str (by omega),h3]
theorem ZdX{t:T}(o:t.Ok){i:Nat}{δ:DL.Env}(h:Za i δ=some t.obj):XX "signs" Zao (Za i) eNil δ=some (nD t.n):=by
 unfold XX;rw [h];exact Zgj o
theorem ZdY{t:T}(o:t.Ok){i:Nat}{δ:DL.Env}(h:Za i δ=some t.obj):XX "block_length" Zaa (Za i) eNil δ=some (nD t.q):=by
 unfold XX;rw [h];exact Zgk o
theorem QI{a:DL.Env->Option D}{r:List (DL.Env->Option D)}{acc cs:List Nat}{δ:DL.Env}(h:a δ=some (.str cs))(hl:(acc++cs).length<=100000):xJs (a::r) acc δ=xJs r (acc++cs) δ:=by
 unfold xJs;rw [h];dsimp only;rw [if_pos (by rw [PySem.sizeLine_eq];omega)];cases r<;>rfl
theorem Zmy{as:List (DL.Env->Option D)}{δ:DL.Env}{cs:List Nat}(h:xJs as [] δ=some cs):VW as δ=some (.str cs):=by
 unfold VW;rw [h]
theorem Zeo{f:D->Option D}{a:DL.Env->Option D}{δ:DL.Env}{d x:D}(h:a δ=some d)(h2:f d=some x):XD f a δ=some x:=by
 unfold XD;rw [h];exact h2
theorem Zih{w:List Nat}(h:w.length<=1000):Xm (.str w)=some (.str w):=by
 show(if w.length<=PySem.sizeLine then some (D.str w)else none)=_;rw [if_pos (by rw [PySem.sizeLine_eq];omega)]
theorem ZdZ(w:List Nat):([]++[112,108,97,99,101,32])++w=ZR PLACE [w]:=rfl
theorem ZcS(w:List Nat):[112,108,97,99,101,32]++w=ZR PLACE [w]:=rfl
theorem Zbd(w:List Nat):[102,105,114,115,116,32]++w=ZR YN [w]:=rfl
theorem Zce(w:List Nat):[108,101,97,100,32]++w=ZR LEAD [w]:=rfl
theorem Zd0(a b c d:List Nat):[116,97,98,108,101,32]++ZL [32] [a,b,c,d]=ZR YC [a,b,c,d]:=rfl
theorem ZdA(p:Pr):((([]++[119,97,121,32])++p.1)++[32])++Zo p.2=YR p:=by
 show _=[119,97,121]++[32]++(p.1++[32]++Zo p.2)
 simp [List.append_assoc]
theorem ZfG(p:Pr):(([119,97,121,32]++p.1)++[32])++Zo p.2=YR p:=ZdA p
noncomputable def prC:DL.Env->Option D:=(VW [(eC (.str [119,97,121,32])),(XD Xm (Za 0)),(eC (.str [32])),(XD Xm (Za 1))])
theorem ZjJ{q m:Nat}{p:Pr}(h:PrOk q m p)(hq:q<=8)(hm:m<=30):prC [some (.str p.1),some (nD p.2)]=some (.str (YR p)):=by
 have hln:=h.ln;have hlt:=h.lt;have hf:=X0 (n:=p.2) (by omega)
 have e:xJs [(eC (.str [119,97,121,32])),(XD Xm (Za 0)),(eC (.str [32])),(XD Xm (Za 1))] [] [some (.str p.1),some (nD p.2)]=some (YR p):=by
  rw [QI (cs:=[119,97,121,32]) rfl (by decide),QI (cs:=p.1) (Zeo (d:=.str p.1) rfl (Zih (by omega))) (by simp;omega),QI (cs:=[32]) rfl (by simp;omega),QI (cs:=Zo p.2) (Zeo (d:=nD p.2) rfl (ZeP (by omega))) (by simp;omega),ZdA];rfl
 unfold prC VW;rw [e]
theorem Zii{h:Nat}(hh:h<1000000)(R:D):xJs [(eC (.str [112,108,97,99,101,32])),(XD Xm (Za 0))] [] [some (nD h),some R]=some (ZR PLACE [Zo h]):=by
 have hf:=X0 hh;have hz:=ZeP hh;generalize Zo h=w at *;rw [QI (cs:=[112,108,97,99,101,32]) rfl (by decide),QI (cs:=w) (Zeo (d:=nD h) rfl hz) (by rw [List.length_append];show 6+_<=_;omega),ZdZ];rfl
theorem Zgl{q m:Nat}(hq:q<=8)(hm:m<=30){h:Nat}(hh:h<1000000){ws:List Pr}(hl:ws.length<=30)(hp:∀p∈ws,PrOk q m p):US [nD h,YO ws]=some (.lst ((blk h ws).map D.str)):=by
 have hf:=X0 hh;have e0:VW [(eC (.str [112,108,97,99,101,32])),(XD Xm (Za 0))] [some (nD h),some (YO ws)]=some (.str (ZR PLACE [Zo h])):=Zmy (Zii hh (YO ws));have hc:YJ (Xz 2 (YH 0 (YH 1 gsNil))) (λ_=>some true) prC [none,none] (ws.map prD)=some (ws.map λp=>D.str (YR p)):=Ut prD (λp=>D.str (YR p)) ws λp hpp=>⟨[some (.str p.1),some (nD p.2)],gt2 (x:=.str p.1) (y:=nD p.2) (δ:=[none,none]),ZjJ (hp p hpp) hq hm⟩
 have e1:Yp (Z4 (Za 1)) (Xz 2 (YH 0 (YH 1 gsNil))) (λ_=>some true) prC 2 [] [some (nD h),some (YO ws)]=some (.lst (ws.map λp=>D.str (YR p))):=Vs (xs:=ws.map prD) rfl rfl hc (by rw [List.length_map];omega)
 have e2:ZjY [some (nD h),some (YO ws)]=some (.rt (.lst ((blk h ws).map D.str))):=by
  refine Yr ((Zn (x:=.lst [.str (ZR PLACE [Zo h])]) (y:=.lst (ws.map λp=>D.str (YR p))) (Vq (Zk e0 nil_of) (show 1<=1000 by decide)) e1).trans ?_);show addX (.lst [.str (ZR PLACE [Zo h])]) (.lst (ws.map λp=>D.str (YR p)))=_;rw [ZcC (by rw [List.length_map];show 1+ws.length<=_;omega)];unfold blk;rw [List.map_cons,List.map_map];rfl
 exact Zig (δ:=[some (nD h),some (YO ws)]) rfl e2
end K50
namespace K50
open DL L2
noncomputable def txF:DL.Env->Option Out:=(Yo (Qt (Yb Vt "homes" (Za 0)) (Yb Vv "ways" (Za 0))) (Xz 2 (YH 3 (YH 4 gsNil))) (UL 2 (Zl 2 US [] (Zb (Za 3) (Zb (Za 4) eNil)))))
noncomputable def nuS(i:Nat):DL.Env->Option D:=(eOp addX (eC (.str [116,97,98,108,101,32])) (eBM joinD (eC (.str [32])) (Zb (Yp (Z4 (Za i)) (Zx 0) (λ_=>some true) (eCB strD (Zb (Za 0) eNil)) 1 []) eNil)))
noncomputable def tx1:DL.Env->Option Out:=(Zq 1 (ZH (Zb (XX "signs" Zao (Za 0) eNil) (Zb (XX "block_length" Zaa (Za 0) eNil) (Zb (Yb UP "ahead" (Za 0)) (Zb (eCB lenD (Zb (Yb Vt "homes" (Za 0)) eNil)) eNil))))))
noncomputable def tx2:DL.Env->Option Out:=(Zq 2 (ZH (Zb (nuS 1) eNil)))
noncomputable def tx3:DL.Env->Option Out:=(Z3 2 (eIf (xB (eOp eqD (Yb Vu "lead" (Za 0)) (eC (.str [])))) (eC (.str [108,101,97,100])) (eOp addX (eC (.str [108,101,97,100,32])) (Yb Vu "lead" (Za 0)))))
noncomputable def tx4:DL.Env->Option Out:=(Z3 2 (eOp addX (eC (.str [102,105,114,115,116,32])) (eCB strD (Zb (Yb UQ "first" (Za 0)) eNil))))
theorem Zmz:ZjZ=Zg tx1 (Zg tx2 (Zg tx3 (Zg tx4 (Zg txF (Zp (eBM joinD (eC (.str [10])) (Zb (Za 2) eNil))))))):=rfl
theorem Zg3{t:T}(o:t.Ok){i:Nat}{δ:DL.Env}(h:Za i δ=some t.hd)(hb:Vc 1 δ []=[none]):nuS i δ=some (.str (ZR YC [Zo t.n,Zo t.q,Zo t.a,Zo t.m])):=by
 have hn:=o.n4;have hq:=o.q4;have hm:=o.m6;have ha:=o.am
 have hc:YJ (Zx 0) (λ_=>some true) (eCB strD (Zb (Za 0) eNil)) [none] ([t.n,t.q,t.a,t.m].map nD)=some ([t.n,t.q,t.a,t.m].map λk=>D.str (Zo k)):=by
  refine Ut nD (λk=>D.str (Zo k)) [t.n,t.q,t.a,t.m] λk hk=>⟨[some (nD k)],rfl,(Yd (Zk (x:=nD k) rfl nil_of)).trans (Jv ?_)⟩
  simp only [List.mem_cons,List.not_mem_nil,or_false]at hk;rcases hk with rfl|rfl|rfl|rfl<;>omega
 have hi:Z4 (Za i) δ=some ([t.n,t.q,t.a,t.m].map nD):=by unfold Z4;rw [h];rfl
 have e1:Yp (Z4 (Za i)) (Zx 0) (λ_=>some true) (eCB strD (Zb (Za 0) eNil)) 1 [] δ=some (.lst ([Zo t.n,Zo t.q,Zo t.a,Zo t.m].map D.str)):=Vs hi hb hc (by simp);have h1:=X0 (n:=t.n) (by omega);have h2:=X0 (n:=t.q) (by omega);have h3:=X0 (n:=t.a) ha;have h4:=X0 (n:=t.m) (by omega)
 have e2:joinD [32] [.lst ([Zo t.n,Zo t.q,Zo t.a,Zo t.m].map D.str)]=some (.str (ZL [32] [Zo t.n,Zo t.q,Zo t.a,Zo t.m])):=by
  unfold joinD;dsimp only;rw [ZaG];dsimp only;rw [if_pos (by rw [PySem.sizeLine_eq];simp only [List.map_cons,List.map_nil,List.sum_cons,List.sum_nil,List.length_cons,List.length_nil];omega)]
 have hjl:=Jy 32 [Zo t.n,Zo t.q,Zo t.a,Zo t.m];simp only [List.map_cons,List.map_nil,List.sum_cons,List.sum_nil,List.length_cons,List.length_nil]at hjl;refine(Zn (x:=.str [116,97,98,108,101,32]) (y:=.str (ZL [32] [Zo t.n,Zo t.q,Zo t.a,Zo t.m])) rfl ((V0 (s:=[32]) rfl (Zk e1 nil_of)).trans e2)).trans ?_;rw [add_str (by show 6+_<=_;omega),Zd0]
abbrev TE(t:T)(X:List (List Nat))(v3 v4:Option D):DL.Env:=[some t.obj,some t.hd,some (.lst (X.map D.str)),v3,v4]
theorem ZjK{i:Nat}{ε:DL.Env->Option D}{δ:DL.Env}{xs ys:List D}(h1:Za i δ=some (.lst xs))(h2:ε δ=some (.lst ys))(hl:xs.length+ys.length<=100000):UL i ε δ=some (.nx (δ.set i (some (.lst (xs++ys))))):=by
 unfold UL;rw [h1,h2];dsimp only;rw [if_pos (by rw [PySem.sizeLine_eq];omega)]
abbrev TE0(a b:D)(X:List D)(v3 v4:Option D):DL.Env:=[some a,some b,some (.lst X),v3,v4]
theorem Zg4(a b:D){q m:Nat}(hq:q<=8)(hm:m<=30):∀(hs:List Nat)(W:List (List Pr))(X:List (List Nat))(v3 v4:Option D),(∀h∈hs,h<1000000)->(∀ws∈W,ws.length<=30)->(∀ws∈W,∀p∈ws,PrOk q m p)->X.length+31*W.length<=1000 ->
 ∃w3 w4,Yn (Xz 2 (YH 3 (YH 4 gsNil))) (UL 2 (Zl 2 US [] (Zb (Za 3) (Zb (Za 4) eNil)))) (Xp (hs.map nD) (W.map YO)) (TE0 a b (X.map D.str) v3 v4)=some (.nx (TE0 a b ((X++Yq hs W).map D.str) w3 w4))
 | [],W,X,v3,v4,_,_,_,_=>⟨v3,v4,by
  have e:Yq [] W=[]:=rfl;rw [e,List.append_nil];rfl⟩
 |h::hs,[],X,v3,v4,_,_,_,_=>⟨v3,v4,by
  have e:Yq (h::hs) []=[]:=rfl;rw [e,List.append_nil];rfl⟩
 |h::hs,ws::W,X,v3,v4,h1,h2,h3,h4=>by
  have hl:=h2 ws List.mem_cons_self;rw [List.length_cons]at h4;have hbl:=blk_len (h:=h) (ws:=ws) rfl;have hpl:=Zgl hq hm (h1 h List.mem_cons_self) hl (h3 ws List.mem_cons_self);obtain⟨w3,w4,ih⟩:=Zg4 a b hq hm hs W (X++blk h ws) (some (nD h)) (some (YO ws)) (λx hx=>h1 x (List.mem_cons_of_mem _ hx)) (λx hx=>h2 x (List.mem_cons_of_mem _ hx)) (λx hx=>h3 x (List.mem_cons_of_mem _ hx)) (by rw [List.length_append,hbl];omega)
  refine⟨w3,w4,?_⟩;have eb:Yq (h::hs) (ws::W)=blk h ws++Yq hs W:=rfl;rw [eb,<-List.append_assoc];have ez:Xp ((h::hs).map nD) ((ws::W).map YO)=D.tup [nD h,YO ws]::Xp (hs.map nD) (W.map YO):=rfl;rw [ez];generalize blk h ws=B at *;generalize YO ws=Y at *;generalize nD h=Z at *;have e2:Zl 2 US [] (Zb (Za 3) (Zb (Za 4) eNil)) (TE0 a b (X.map D.str) (some Z) (some Y))=some (.lst (B.map D.str)):=(ZT (n:=2) (Zk (x:=Z) rfl (Zk (x:=Y) rfl nil_of)) rfl).trans hpl
  have e1:=ZjK (i:=2) (ε:=Zl 2 US [] (Zb (Za 3) (Zb (Za 4) eNil))) (δ:=TE0 a b (X.map D.str) (some Z) (some Y)) (xs:=X.map D.str) rfl e2 (by rw [List.length_map,List.length_map,hbl];omega);rw [<-List.map_append]at e1;rw [Zcc (δ1:=TE0 a b (X.map D.str) (some Z) (some Y)) (gt2 (x:=Z) (y:=Y) (δ:=TE0 a b (X.map D.str) v3 v4)),e1];exact ih
theorem Zij{t:T}(o:t.Ok):Zj0 [t.obj]=some (.str t.text):=by
 have hll:=o.ll;have hm6:=o.m6;have hfm:=o.fm
 have t1:tx1 [some t.obj,none,none,none,none]=some (.nx [some t.obj,some t.hd,none,none,none]):=by
  refine Z1 (Vq (Zk (ZdX o rfl) (Zk (ZdY o rfl) (Zk (ZfF rfl) (Zk ((Yd (Zk (Zcd rfl) nil_of)).trans (show _=some (nD t.m)from ?_)) nil_of)))) (show 4<=1000 by decide));rw [ZhY,List.length_map,o.hl]
 have t2:tx2 [some t.obj,some t.hd,none,none,none]=some (.nx (TE t [ZR YC [Zo t.n,Zo t.q,Zo t.a,Zo t.m]] none none)):=Z1 (Vq (Zk (Zg3 o rfl rfl) nil_of) (show 1<=1000 by decide));generalize hR1:ZR YC [Zo t.n,Zo t.q,Zo t.a,Zo t.m]=R1 at t2
 have t3:tx3 (TE t [R1] none none)=some (.nx (TE t [R1,YQ t.lead] none none)):=by
  refine(Vr (xs:=[D.str R1]) (d:=.str (YQ t.lead)) rfl ?_ (show 1<=1000000 by decide)).trans rfl;have e:xB (eOp eqD (Yb Vu "lead" (Za 0)) (eC (.str []))) (TE t [R1] none none)=some (decide (t.lead=[])):=ZA ((Zn (x:=.str t.lead) (y:=.str []) (Zdz rfl) rfl).trans (VZ _ _));unfold YQ
  by_cases hz:t.lead=[]
  · rw [decide_eq_true hz]at e
    rw [if_pos hz];exact(ZeT e).trans rfl
  · rw [decide_eq_false hz]at e
    rw [if_neg hz];exact(JB e).trans ((Zn (x:=.str [108,101,97,100,32]) (y:=.str t.lead) rfl (Zdz rfl)).trans ((add_str (by show 5+_<=_;omega)).trans (by rw [Zce])))
 have hfl:=X0 (n:=t.f) (by omega)
 have t4:tx4 (TE t [R1,YQ t.lead] none none)=some (.nx (TE t [R1,YQ t.lead,ZR YN [Zo t.f]] none none)):=by
  refine(Vr (xs:=[D.str R1,.str (YQ t.lead)]) (d:=.str (ZR YN [Zo t.f])) rfl ?_ (show 2<=1000000 by decide)).trans rfl;exact(Zn (x:=.str [102,105,114,115,116,32]) (y:=.str (Zo t.f)) rfl ((Yd (Zk (ZfE rfl) nil_of)).trans (Jv (by omega)))).trans ((add_str (by show 6+_<=_;omega)).trans (by rw [Zbd]))
 obtain⟨w3,w4,g⟩:=Zg4 t.obj t.hd o.q4 o.m6 t.hs t.W [R1,YQ t.lead,ZR YN [Zo t.f]] none none o.hb (λws hws=>by rw [o.rl ws hws];exact o.n4) o.pr (by rw [o.wl];show 3+_<=_;omega)
 have hi:Qt (Yb Vt "homes" (Za 0)) (Yb Vv "ways" (Za 0)) (TE t [R1,YQ t.lead,ZR YN [Zo t.f]] none none)=some (Xp (t.hs.map nD) (t.W.map YO)):=by
  unfold Qt;rw [Zcd (t:=t) rfl,ZbB (t:=t) rfl];rfl
 have hrows:[R1,YQ t.lead,ZR YN [Zo t.f]]++Yq t.hs t.W=t.rows:=by rw [<-hR1];rfl
 rw [hrows]at g;have t5:txF (TE t [R1,YQ t.lead,ZR YN [Zo t.f]] none none)=some (.nx (TE t t.rows w3 w4)):=Xq hi g;refine Yt (δ:=[some t.obj,none,none,none,none]) rfl ?_;rw [Zmz,Zt t1,Zt t2,Zt t3,Zt t4,Zt t5];exact Yr ((V0 (s:=[10]) rfl (Zk (x:=.lst (t.rows.map D.str)) rfl nil_of)).trans (t.join_ok o))
end K50
namespace K50
open PySem DL L2
theorem ZdB(a:List Nat)(lo k:Nat)(h1:(a.takeWhile Unicode.isSpace).length=lo)(h2:((a.drop lo).reverse.takeWhile Unicode.isSpace).length=k):Up a=(a.drop lo).take (a.length-k-lo):=by
 have e1:stripLo Unicode.isSpace true (tx a)=lo:=by unfold stripLo;rw [if_pos rfl,Xw,h1]
 have e2:stripHi Unicode.isSpace true (tx a) lo=a.length-k:=by unfold stripHi;rw [if_pos rfl,Xw,h2,YD]
 unfold Up Txt.strip Txt.stripBy
 by_cases hs:stripSame Unicode.isSpace true true (tx a)=true
 · rw [if_pos hs,Xw]
   unfold stripSame at hs;rw [e1,e2,YD,Bool.and_eq_true,beq_iff_eq,beq_iff_eq]at hs;rw [hs.1,hs.2,List.drop_zero,Nat.sub_zero,List.take_length]
 · rw [if_neg hs]
   unfold stripped;rw [e1,e2,ZaM,Xw]
theorem Zik:∀c∈cs_MARK_SIGNS,Unicode.isSpace c=false:=by decide +kernel
theorem l_sp:Unicode.isSpace 108=false/\Unicode.isSpace 100=false/\Unicode.isSpace 32=true:=by decide +kernel
theorem Zd1{lead:List Nat}(h:∀c∈lead,c∈cs_MARK_SIGNS):Up ([108,101,97,100,32]++lead)=YQ lead:=by
 have h1:(([108,101,97,100,32]++lead).takeWhile Unicode.isSpace).length=0:=by
  show(List.takeWhile Unicode.isSpace (108::([101,97,100,32]++lead))).length=0;rw [List.takeWhile_cons,l_sp.1,if_neg Bool.false_ne_true];rfl
 unfold YQ
 by_cases hz:lead=[]
 · subst hz
   rw [if_pos rfl]
   have h2:((([108,101,97,100,32]++([]:List Nat)).drop 0).reverse.takeWhile Unicode.isSpace).length=1:=by
    show(List.takeWhile Unicode.isSpace (32::100::[97,101,108])).length=1;rw [List.takeWhile_cons,l_sp.2.2,if_pos rfl,List.takeWhile_cons,l_sp.2.1,if_neg Bool.false_ne_true];rfl
   rw [ZdB _ 0 1 h1 h2];rfl
 · rw [if_neg hz]
   obtain⟨c,r,hr⟩:∃c r,lead.reverse=c::r:=by
    cases hq:lead.reverse with
    |nil=>exact(hz (List.reverse_eq_nil_iff.mp hq)).elim
    |cons c r=>exact⟨c,r,rfl⟩
   have hc:c∈lead:=List.mem_reverse.mp (by rw [hr];exact List.mem_cons_self)
   have h2:((([108,101,97,100,32]++lead).drop 0).reverse.takeWhile Unicode.isSpace).length=0:=by
    rw [List.drop_zero,List.reverse_append,hr,List.cons_append,List.takeWhile_cons,Zik c (h c hc),if_neg Bool.false_ne_true];rfl
   rw [ZdB _ 0 0 h1 h2,List.drop_zero,Nat.sub_zero,Nat.sub_zero,List.take_length,Zce]
abbrev XE(a0 a1 a2 a3 a4 a5:Option D)(X:List D)(v7 v8 v9:Option D):DL.Env:=[a0,a1,a2,a3,a4,a5,some (.lst X),v7,v8,v9]
noncomputable def iB:DL.Env->Option Out:=(Z3 6 (eOp addX (eOp addX (eOp addX (eC (.str [119,97,121,32])) (Za 8)) (eC (.str [32]))) (eCB strD (Zb (Za 9) eNil))))
theorem Zg5(a0 a1 a2 a3 a4 a5:Option D)(v7:Option D){q m:Nat}(hq:q<=8)(hm:m<=30):∀(ws:List Pr)(X:List (List Nat))(v8 v9:Option D),(∀p∈ws,PrOk q m p)->X.length+ws.length<=1000 ->
 ∃w8 w9,Yn (Xz 2 (YH 8 (YH 9 gsNil))) iB (ws.map prD) (XE a0 a1 a2 a3 a4 a5 (X.map D.str) v7 v8 v9)=some (.nx (XE a0 a1 a2 a3 a4 a5 ((X++ws.map YR).map D.str) v7 w8 w9))
 | [],X,v8,v9,_,_=>⟨v8,v9,by rw [show([]:List Pr).map YR=[]from rfl,List.append_nil];rfl⟩
 |p::ws,X,v8,v9,h1,h2=>by
  rw [List.length_cons]at h2;have hp:=h1 p List.mem_cons_self;have hln:=hp.ln;have hlt:=hp.lt;have hf:=X0 (n:=p.2) (by omega);have hs:=Jv (n:=p.2) (by omega);have hw:=ZfG p;obtain⟨w8,w9,ih⟩:=Zg5 a0 a1 a2 a3 a4 a5 v7 hq hm ws (X++[YR p]) (some (.str p.1)) (some (nD p.2)) (λx hx=>h1 x (List.mem_cons_of_mem _ hx)) (by rw [List.length_append,List.length_singleton];omega)
  refine⟨w8,w9,?_⟩;rw [List.append_assoc]at ih;rw [List.map_cons (f:=YR),List.map_cons (f:=prD)]
  have e1:iB (XE a0 a1 a2 a3 a4 a5 (X.map D.str) v7 (some (.str p.1)) (some (nD p.2)))=some (.nx (XE a0 a1 a2 a3 a4 a5 ((X++[YR p]).map D.str) v7 (some (.str p.1)) (some (nD p.2)))):=by
   generalize YR p=Y at *;generalize Zo p.2=w at *;refine(Vr (xs:=X.map D.str) (d:=.str Y) rfl ?_ (by rw [List.length_map];omega)).trans ?_
   · refine(Zn (x:=.str (([119,97,121,32]++p.1)++[32])) (y:=.str w) ((Zn (x:=.str ([119,97,121,32]++p.1)) (y:=.str [32]) ((Zn (x:=.str [119,97,121,32]) (y:=.str p.1) rfl rfl).trans (add_str (by show 4+_<=_;omega))) rfl).trans (add_str (by rw [List.length_append];show 4+_+1<=_;omega))) ((Yd (Zk (x:=nD p.2) rfl nil_of)).trans hs)).trans ((add_str (by rw [List.length_append,List.length_append];show 4+_+1+_<=_;omega)).trans (by rw [hw]))
   · rw [List.map_append]
     rfl
  rw [Zcc (δ1:=XE a0 a1 a2 a3 a4 a5 (X.map D.str) v7 (some (.str p.1)) (some (nD p.2))) (gt2 (x:=.str p.1) (y:=nD p.2) (δ:=XE a0 a1 a2 a3 a4 a5 (X.map D.str) v7 v8 v9)),e1];exact ih
theorem Zcf(h:Nat)(ws:List Pr):∀(hs:List Nat)(W:List (List Pr)),hs.length=W.length->Yq (hs++[h]) (W++[ws])=Yq hs W++blk h ws
 | [],[],_=>by show blk h ws++[]=[]++blk h ws;rw [List.append_nil];rfl
 | [],_::_,e=>by simp at e
 |_::_,[],e=>by simp at e
 |h0::hs,w0::W,e=>by
  show blk h0 w0++Yq (hs++[h]) (W++[ws])=(blk h0 w0++Yq hs W)++blk h ws;rw [Zcf h ws hs W (by simpa using e),List.append_assoc]
noncomputable def lB:DL.Env->Option Out:=(Zg (Z3 6 (eOp addX (eC (.str [112,108,97,99,101,32])) (eCB strD (Zb (eOp ixD (Za 3) (Za 7)) eNil)))) (Yo (Z4 (eOp ixD (Za 4) (Za 7))) (Xz 2 (YH 8 (YH 9 gsNil))) iB))
abbrev LTE(t:T)(X:List (List Nat))(v7 v8 v9:Option D):DL.Env:=XE (some (.str t.lead)) (some (nD t.f)) (some (nD t.a)) (some (.lst (t.hs.map nD))) (some (.lst (t.W.map Zz))) (some t.hd) (X.map D.str) v7 v8 v9
theorem Zil{t:T}(o:t.Ok)(B:List (List Nat))(hB:B.length<=3){i:Nat}(hi:i<t.m)(v8 v9:Option D):∃w8 w9,lB (LTE t (B++Yq (t.hs.take i) (t.W.take i)) (some (nD i)) v8 v9)=some (.nx (LTE t (B++Yq (t.hs.take (i+1)) (t.W.take (i+1))) (some (nD i)) w8 w9)):=by
 have h6:=o.m6;have h4:=o.n4;have h1:t.hs[i]? = some (t.hs[i]'(by rw [o.hl];exact hi)):=List.getElem?_eq_getElem _;have h2:t.W[i]? = some (t.W[i]'(by rw [o.wl];exact hi)):=List.getElem?_eq_getElem _;generalize t.hs[i]'(by rw [o.hl];exact hi)=h at h1;generalize t.W[i]'(by rw [o.wl];exact hi)=ws at h2;have hh:=o.hb h (List.mem_of_getElem? h1);have hws:=List.mem_of_getElem? h2
 have hn:=o.rl ws hws;have hbl:=ZaU (n:=t.n) (t.hs.take i) (t.W.take i) (λx hx=>o.rl x (List.mem_of_mem_take hx)) (by rw [List.length_take,List.length_take,o.hl,o.wl])
 have hbl2:(Yq (t.hs.take i) (t.W.take i)).length<=30:=by
  rw [hbl];exact Nat.le_trans (Nat.mul_le_mul_right _ (show _<=t.m by rw [List.length_take];omega)) o.mn
 have eb:=Zcf h ws (t.hs.take i) (t.W.take i) (by rw [List.length_take,List.length_take,o.hl,o.wl]);rw [<-Zca h1,<-Zca h2]at eb;rw [eb];generalize Yq (t.hs.take i) (t.W.take i)=Y at *;have hpf:=ZcS (Zo h);have hs:=Jv hh;have hfl:=X0 hh;unfold blk;generalize ZR PLACE [Zo h]=R at *;generalize Zo h=w at *
 have t1:Z3 6 (eOp addX (eC (.str [112,108,97,99,101,32])) (eCB strD (Zb (eOp ixD (Za 3) (Za 7)) eNil))) (LTE t (B++Y) (some (nD i)) v8 v9)=some (.nx (LTE t (B++Y++[R]) (some (nD i)) v8 v9)):=by
  refine(Vr (xs:=(B++Y).map D.str) (d:=.str R) rfl ?_ (by rw [List.length_map,List.length_append];omega)).trans ?_
  · exact(Zn (x:=.str [112,108,97,99,101,32]) (y:=.str w) rfl ((Yd (Zk ((Zn (x:=.lst (t.hs.map nD)) (y:=nD i) rfl rfl).trans (Z0 (x:=nD h) (by rw [List.getElem?_map,h1];rfl))) nil_of)).trans hs)).trans ((add_str (by show 6+_<=_;omega)).trans (by rw [hpf]))
  · show _=some (Out.nx (XE _ _ _ _ _ _ ((B++Y++[R]).map D.str) _ _ _))
    rw [List.map_append (l₂:=[R])];rfl
 obtain⟨w8,w9,g⟩:=Zg5 (some (.str t.lead)) (some (nD t.f)) (some (nD t.a)) (some (.lst (t.hs.map nD))) (some (.lst (t.W.map Zz))) (some t.hd) (some (nD i)) o.q4 o.m6 ws (B++Y++[R]) v8 v9 (o.pr ws hws) (by rw [List.length_append,List.length_append,List.length_singleton];omega);refine⟨w8,w9,?_⟩;have e4:eOp ixD (Za 4) (Za 7) (LTE t (B++Y++[R]) (some (nD i)) v8 v9)=some (Zz ws):=(Zn (x:=.lst (t.W.map Zz)) (y:=nD i) rfl rfl).trans (Z0 (by rw [List.getElem?_map,h2];rfl))
 have hi4:Z4 (eOp ixD (Za 4) (Za 7)) (LTE t (B++Y++[R]) (some (nD i)) v8 v9)=some (ws.map prD):=by unfold Z4;rw [e4];rfl
 have t2:Yo (Z4 (eOp ixD (Za 4) (Za 7))) (Xz 2 (YH 8 (YH 9 gsNil))) iB (LTE t (B++Y++[R]) (some (nD i)) v8 v9)=some (.nx (LTE t (B++Y++[R]++ws.map YR) (some (nD i)) w8 w9)):=Xq hi4 g;unfold lB;rw [Zt t1,t2,List.append_assoc (B++Y),List.append_assoc B Y];rfl
noncomputable def lx1:DL.Env->Option Out:=(Zq 5 (ZH (Zb (eCB lenD (Zb (eOp ixD (Za 4) (eC (.int 0))) eNil)) (Zb (eCB lenD (Zb (eOp ixD (eOp ixD (eOp ixD (Za 4) (eC (.int 0))) (eC (.int 0))) (eC (.int 0))) eNil)) (Zb (Za 2) (Zb (eCB lenD (Zb (Za 3) eNil)) eNil))))))
noncomputable def lx2:DL.Env->Option Out:=(Zq 6 (ZH (Zb (nuS 5) eNil)))
noncomputable def lx3:DL.Env->Option Out:=(Z3 6 (eBM stripD (eOp addX (eC (.str [108,101,97,100,32])) (Za 0)) eNil))
noncomputable def lx4:DL.Env->Option Out:=(Z3 6 (eOp addX (eC (.str [102,105,114,115,116,32])) (eCB strD (Zb (Za 1) eNil))))
noncomputable def lxF:DL.Env->Option Out:=(Yo (Z5 (Zb (eCB lenD (Zb (Za 3) eNil)) eNil)) (Zx 7) lB)
theorem ZmA:Zj7=Zg lx1 (Zg lx2 (Zg lx3 (Zg lx4 (Zg lxF (Zp (eBM joinD (eC (.str [10])) (Zb (Za 6) eNil))))))):=rfl
theorem Znm{t:T}(o:t.Ok){δ:DL.Env}{i:Nat}(h:Za i δ=some (.lst (t.W.map Zz))):eCB lenD (Zb (eOp ixD (Za i) (eC (.int 0))) eNil) δ=some (nD t.n)/\eCB lenD (Zb (eOp ixD (eOp ixD (eOp ixD (Za i) (eC (.int 0))) (eC (.int 0))) (eC (.int 0))) eNil) δ=some (nD t.q):=by
 obtain⟨p0,ws0,W0,h1,h2,h3⟩:=t.first_row o;have h4:=o.q4;rw [h1]at h;have e:eOp ixD (Za i) (eC (.int 0)) δ=some (Zz (p0::ws0)):=(Zn h (y:=nD 0) rfl).trans (Z0 rfl);refine⟨(Yd (Zk e nil_of)).trans ?_,(Yd (Zk ((Zn (y:=nD 0) ((Zn e (y:=nD 0) rfl).trans (Z0 (x:=prD p0) rfl)) rfl).trans (ix_tup (x:=.str p0.1) rfl)) nil_of)).trans ?_⟩
 · show some (D.int (((p0::ws0).map prD).length:Int))=_
   rw [List.length_map,h2]
 · rw [len_str (by omega),h3]
theorem ZcT{t:T}(o:t.Ok):Zj8 [.str t.lead,nD t.f,nD t.a,.lst (t.hs.map nD),.lst (t.W.map Zz)]=some (.str t.text):=by
 have hll:=o.ll;have hm6:=o.m6;have hfm:=o.fm
 have t1:lx1 [some (.str t.lead),some (nD t.f),some (nD t.a),some (.lst (t.hs.map nD)),some (.lst (t.W.map Zz)),none,none,none,none,none]=some (.nx [some (.str t.lead),some (nD t.f),some (nD t.a),some (.lst (t.hs.map nD)),some (.lst (t.W.map Zz)),some t.hd,none,none,none,none]):=by
  obtain⟨l1,l2⟩:=Znm o (i:=4) (δ:=[some (.str t.lead),some (nD t.f),some (nD t.a),some (.lst (t.hs.map nD)),some (.lst (t.W.map Zz)),none,none,none,none,none]) rfl;refine Z1 (Vq (Zk l1 (Zk l2 (Zk (x:=nD t.a) rfl (Zk ((Yd (Zk (x:=.lst (t.hs.map nD)) rfl nil_of)).trans (show _=some (nD t.m)from ?_)) nil_of)))) (show 4<=1000 by decide));rw [len_lst,List.length_map,o.hl]
 have t2:lx2 [some (.str t.lead),some (nD t.f),some (nD t.a),some (.lst (t.hs.map nD)),some (.lst (t.W.map Zz)),some t.hd,none,none,none,none]=some (.nx (LTE t [ZR YC [Zo t.n,Zo t.q,Zo t.a,Zo t.m]] none none none)):=Z1 (Vq (Zk (Zg3 o rfl rfl) nil_of) (show 1<=1000 by decide));have hrows:t.rows=ZR YC [Zo t.n,Zo t.q,Zo t.a,Zo t.m]::YQ t.lead::ZR YN [Zo t.f]::Yq t.hs t.W:=rfl
 have hsl:=Zd1 o.lc;have hff:=Zbd (Zo t.f);have hfs:=Jv (n:=t.f) (by omega);have hfl:=X0 (n:=t.f) (by omega);generalize ZR YC [Zo t.n,Zo t.q,Zo t.a,Zo t.m]=R1 at *;generalize YQ t.lead=R2 at *;generalize ZR YN [Zo t.f]=R3 at *;generalize Zo t.f=w at *
 have t3:lx3 (LTE t [R1] none none none)=some (.nx (LTE t [R1,R2] none none none)):=by
  refine(Vr (xs:=[D.str R1]) (d:=.str R2) rfl ((V0 (s:=[108,101,97,100,32]++t.lead) ((Zn (x:=.str [108,101,97,100,32]) (y:=.str t.lead) rfl rfl).trans (add_str (by show 5+_<=_;omega))) nil_of).trans ?_) (show 1<=1000000 by decide)).trans rfl;unfold stripD;dsimp only;rw [if_pos (by rw [List.length_append,PySem.sizeLine_eq];show 5+_<=_;omega),hsl]
 have t4:lx4 (LTE t [R1,R2] none none none)=some (.nx (LTE t [R1,R2,R3] none none none)):=by
  refine(Vr (xs:=[D.str R1,.str R2]) (d:=.str R3) rfl ?_ (show 2<=1000000 by decide)).trans rfl;exact(Zn (x:=.str [102,105,114,115,116,32]) (y:=.str w) rfl ((Yd (Zk (x:=nD t.f) rfl nil_of)).trans hfs)).trans ((add_str (by show 6+_<=_;omega)).trans (by rw [hff]))
 obtain⟨δ',g1,v7,v8,v9,e⟩:=Jb (γ:=Zx 7) (φ:=lB) (λk δ=>∃v7 v8 v9,δ=LTE t ([R1,R2,R3]++Yq (t.hs.take k) (t.W.take k)) v7 v8 v9) (Yl 0 1 t.m) 0 (LTE t ([R1,R2,R3]++Yq (t.hs.take 0) (t.W.take 0)) none none none) ⟨none,none,none,rfl⟩ (by
  intro j x δ hx ⟨v7,v8,v9,e⟩;subst e;obtain⟨hj,rfl⟩:=ZcB hx;rw [Nat.zero_add];obtain⟨w8,w9,g⟩:=Zil o [R1,R2,R3] (by simp) hj v8 v9;exact⟨_,rfl,_,g,_,w8,w9,rfl⟩)
 subst e;have et1:t.hs.take t.m=t.hs:=List.take_of_length_le (by rw [o.hl];exact Nat.le_refl _);have et2:t.W.take t.m=t.W:=List.take_of_length_le (by rw [o.wl];exact Nat.le_refl _);have hr3:[R1,R2,R3]++Yq t.hs t.W=t.rows:=hrows.symm;rw [UO,Nat.zero_add,et1,et2,hr3]at g1
 have ei:Z5 (Zb (eCB lenD (Zb (Za 3) eNil)) eNil) (LTE t [R1,R2,R3] none none none)=some (Yl 0 1 t.m):=by
  rw [Jc (j:=(t.m:Int)) (Zk ((Yd (Zk (x:=.lst (t.hs.map nD)) rfl nil_of)).trans (by rw [len_lst,List.length_map,o.hl])) nil_of) (by omega) (by omega),Int.toNat_natCast]
 have t5:lxF (LTE t [R1,R2,R3] none none none)=some (.nx (LTE t t.rows v7 v8 v9)):=Xq ei g1;refine Yt (δ:=[some (.str t.lead),some (nD t.f),some (nD t.a),some (.lst (t.hs.map nD)),some (.lst (t.W.map Zz)),none,none,none,none,none]) rfl ?_;rw [ZmA,Zt t1,Zt t2,Zt t3,Zt t4,Zt t5];exact Yr ((V0 (s:=[10]) rfl (Zk (x:=.lst (t.rows.map D.str)) rfl nil_of)).trans (t.join_ok o))
end K50
namespace K50
open DL L2
def QJ(r:List Nat):Prop:=r.length<=14/\10∉r
structure RK(n:Nat)(R:List (List Nat)):Prop where
 ne:R≠[]
 ln:R.length<=n
 rk:∀r∈R,QJ r
theorem RK.rows{n:Nat}{R:List (List Nat)}(h:RK n R):Rows R:=λr hr=>Nat.le_trans (h.rk r hr).1 (by decide)
theorem RK.text{n:Nat}{R:List (List Nat)}(h:RK n R)(hn:n<=33):(ZL [10] R).length<=1000:=by
 have h1:=Jy 10 R;have h2:=Jz (m:=14) (l:=R) λr hr=>(h.rk r hr).1
 have:=h.ln;omega
theorem Zi1{n:Nat}(h:(Zo n).length<=2):n<100:=by
 unfold Zo at h;rw [List.length_map]at h;exact(Nat.length_toDigits_le_iff (b:=10) (k:=2) (by decide) (by decide)).mp h
theorem ZdC{row:List Nat}{h:Hd}(hr:row.length<=14)(e:hdR row=some h):h.n<=99/\h.m<=99:=by
 obtain⟨g0,_⟩:=ZeW e;rw [g0]at hr;unfold ZR at hr;simp only [ZL,List.length_append,List.length_cons,List.length_nil]at hr;have a1:=JI h.n;have a2:=JI h.q;have a3:=JI h.a;have a4:=JI h.m;exact⟨Nat.le_of_lt_succ (Zi1 (by omega)),Nat.le_of_lt_succ (Zi1 (by omega))⟩
theorem Zd2{X:D}{d:Nat}(h:Vg [X]=some (BT d)):Zkk [X]=some (nD d):=by
 refine Yt (δ:=[some X,none,none]) rfl ?_;have e:YB 1 Vg [] (Zb (Za 0) eNil) [some X,some (.int 0),none]=some (BT d):=(ZaJ (n:=1) (Zk rfl nil_of) rfl).trans h;show Zg (Zq 1 (eC (.int 0))) (Zg (Qs (UH (Zl 1 V1 [] (Zb (Za 0) eNil))) (YB 1 Vg [] (Zb (Za 0) eNil)) "BadTable" 2 1) (Zp (Za 1))) _=_;refine(Zt (δ':=[some X,some (.int 0),none]) rfl).trans ?_
 have t:Qs (UH (Zl 1 V1 [] (Zb (Za 0) eNil))) (YB 1 Vg [] (Zb (Za 0) eNil)) "BadTable" 2 1 [some X,some (.int 0),none]=some (.nx [some X,some (nD d),none]):=by
  unfold Qs;rw [e];dsimp only;rw [if_pos ⟨rfl,by simp⟩];rfl
 exact(Zt t).trans rfl
theorem ZcU(n:Nat):Zj6 [nD n]=some (.bl true):=rfl
noncomputable def lw3:DL.Env->Option Out:=(Zq 3 (eBM joinD (eC (.str [10])) (Zb (Za 1) eNil)))
noncomputable def lw4:DL.Env->Option Out:=(Zq 4 (Zl 1 UW [] (Zb (Za 1) eNil)))
noncomputable def lw5:DL.Env->Option Out:=(sIf (xB (eOp eqD (Za 4) (eC (.int 0)))) (Zp (eOp eqD (Zl 1 Zj0 [] (Zb (Zl 1 V1 [] (Zb (Za 3) eNil)) eNil)) (Za 3))) sNext)
noncomputable def lw6:DL.Env->Option Out:=(Zq 5 (Zl 1 Zkk [] (Zb (Za 3) eNil)))
noncomputable def lw7:DL.Env->Option Out:=(Zp (Y6 (Zl 1 Zj6 [] (Zb (Za 5) eNil)) (eOp eqD (Za 5) (Za 4))))
theorem Zim{n:Nat}{R:List (List Nat)}(h:RK n R)(hn:n<=33):joinD [10] [.lst (R.map D.str)]=some (.str (ZL [10] R)):=by
 have h2:=Jz (m:=14) (l:=R) λr hr=>(h.rk r hr).1
 have:=h.ln;unfold joinD;dsimp only;rw [ZaG];dsimp only;rw [if_pos (by rw [PySem.sizeLine_eq];simp only [List.length_singleton];omega)]
theorem Zin{R:List (List Nat)}{n:Nat}(hk:RK n R)(hn:n<=33)(S v2:Option D):Zg lw3 (Zg lw4 (Zg lw5 (Zg lw6 lw7))) [S,some (.lst (R.map D.str)),v2,none,none,none]=some (.rt (.bl true)):=by
 have hR:=hk.rows;have hl:=hk.text hn;have hlen:R.length<=33:=Nat.le_trans hk.ln hn;have hr14:∀r∈R,r.length<=14:=λr hr=>(hk.rk r hr).1
 have t3:lw3 [S,some (.lst (R.map D.str)),v2,none,none,none]=some (.nx [S,some (.lst (R.map D.str)),v2,some (.str (ZL [10] R)),none,none]):=Z1 ((V0 (s:=[10]) rfl (Zk (x:=.lst (R.map D.str)) rfl nil_of)).trans (Zim hk hn));refine(Zt t3).trans ?_;have h0:(R.getD 0 []).length<=14:=hr14 _ (VB (List.length_pos_iff.mpr hk.ne)).1;have t4:∀d,UW [.lst (R.map D.str)]=some (nD d)->lw4 [S,some (.lst (R.map D.str)),v2,some (.str (ZL [10] R)),none,none]=some (.nx [S,some (.lst (R.map D.str)),v2,some (.str (ZL [10] R)),some (nD d),none]):=λd hd=>Z1 ((ZT (n:=1) (Zk rfl nil_of) rfl).trans hd)
 have e5:∀d,xB (eOp eqD (Za 4) (eC (.int 0))) [S,some (.lst (R.map D.str)),v2,some (.str (ZL [10] R)),some (nD d),none]=some (decide (d=0)):=λd=>ZA ((Zn (x:=nD d) (y:=nD 0) rfl rfl).trans (UZ d 0))
 have bad:∀d,d≠0->UW [.lst (R.map D.str)]=some (nD d)->Vg [.str (ZL [10] R)]=some (BT d)->Zg lw4 (Zg lw5 (Zg lw6 lw7)) [S,some (.lst (R.map D.str)),v2,some (.str (ZL [10] R)),none,none]=some (.rt (.bl true)):=λd hd0 hd hx=>by
  have e:=e5 d;rw [decide_eq_false hd0]at e;refine(Zt (t4 d hd)).trans ((Zt (a:=lw5) ((Ys e).trans rfl)).trans ?_);have t6:lw6 [S,some (.lst (R.map D.str)),v2,some (.str (ZL [10] R)),some (nD d),none]=some (.nx [S,some (.lst (R.map D.str)),v2,some (.str (ZL [10] R)),some (nD d),some (nD d)]):=Z1 ((ZT (n:=1) (Zk rfl nil_of) rfl).trans (Zd2 hx));refine(Zt t6).trans (Yr ?_);refine(Jw ((ZT (n:=1) (Zk rfl nil_of) rfl).trans (ZcU d)) λ_=>(Zn (x:=nD d) (y:=nD d) rfl rfl).trans (UZ d d)).trans ?_
  rw [decide_eq_true rfl];rfl
 have hh:∀h,hdR (R.getD 0 [])=some h->h.n<=100/\h.m<=100:=λh e=>by
  have:=ZdC h0 e;omega
 have hOk:∀t,rdE R = .ok t->t.Ok:=λt e=>by
  cases hd:hdR (R.getD 0 [])with
  |none=>
   unfold rdE at e;rw [hd]at e;cases e
  |some h=>exact(Zi0 hd e hlen hr14).1
 have res:=Zgh hR hk.ne (λr hr=>(hk.rk r hr).2) (by omega) hh hOk;cases hd:hdR (R.getD 0 [])with
 |none=>
  have e:rdE R = .error (BT 1):=by unfold rdE;rw [hd]
  rw [e]at res;exact bad 1 (by decide) (Zgi hR hk.ne hd) res
 |some h=>
  obtain⟨b1,b2⟩:=ZdC h0 hd;cases e:rdE R with
  |error c=>
   rw [e]at res;rcases ZjH hd e with⟨k,g1,g2,g3,g4,rfl⟩|⟨g1,g2,rfl⟩
   · exact bad (k+1) (by omega) (Zhn hR (by omega) hk.ne hd (by omega) (by omega) (.bad g1 g2 g3 g4)) res
   · exact bad (many h+1) (by omega) (Zhn hR (by omega) hk.ne hd (by omega) (by omega) (.more g1 g2)) res
  |ok t=>
   rw [e]at res;obtain⟨o,g1,g2,g3⟩:=Zi0 hd e hlen hr14;have hm:V1 [.str (ZL [10] R)]=some t.obj:=Yt rfl res;have e':=e5 0;refine(Zt (t4 0 (Zhn hR (by omega) hk.ne hd (by omega) (by omega) (.good g3 g2)))).trans (Yc ((Yj (e'.trans (by rw [decide_eq_true rfl]))).trans (Yr ?_)));refine((Zn (x:=.str t.text) (y:=.str (ZL [10] R)) ((ZT (n:=1) (Zk ((ZT (n:=1) (Zk rfl nil_of) rfl).trans hm) nil_of) rfl).trans (Zij o)) rfl).trans (VZ _ _)).trans ?_
   unfold T.text;rw [g1,decide_eq_true rfl]
end K50
namespace K50
open DL L2
def odd0:List (List Nat):=[[],[116,97,98,108,101,32,49,32,49,32,48,32,49],[116,97,98,108,101,32,50,32,49,32,48,32,50],[116,97,98,108,101,32,48,32,49,32,48,32,49],[116,97,98,108,101,32,49,32,49,32,48],[108,101,97,100],[108,101,97,100,32],[108,101,97,100,32,97,32,98],[108,101,97,100,32,65]]
def JJ:List (List Nat):=[[102,105,114,115,116,32,48],[102,105,114,115,116,32,50],[102,105,114,115,116,32,48,48],[102,105,114,115,116],[102,105,114,115,116,32,45,49],[112,108,97,99,101,32,48],[112,108,97,99,101,32,49,48,48,48,48,48,48],[112,108,97,99,101,32,57,57,57,57,57,57]]
def ZkL:List (List Nat):=[[112,108,97,99,101],[112,108,97,99,101,32,49,32,49],[119,97,121,32,97,32,48],[119,97,121,32,97,98,32,48],[119,97,121,32,97,98,99,32,48],[119,97,121,32,97,32,51],[119,97,121,32,55,32,43,48],[119,97,121,32,32,97,32,48],[119,97,121,32,97]]
def Zlh:List (List Nat):=[[32,119,97,121,32,97,32,48],[87,97,121,32,97,32,48],[119,97,121,32,65,32,48],[119,97,121,32,45,32,48],[119,97,121,32,97,95,32,48],[119,97,121,32,32,48],[108,101,97,100,32,97,45]]
noncomputable def JK:List (List Nat)->DL.Env->Option (List D)
 | []=>eNil
 |w::r=>Zb (eC (.str w)) (JK r)
theorem ZbC(δ:DL.Env):∀ws:List (List Nat),JK ws δ=some (ws.map D.str)
 | []=>rfl
 |w::r=>Zk rfl (ZbC δ r)
noncomputable def ZkM(ws:List (List Nat)):DL.Env->Option Out:=(Zq 1 (eOp Xa (Za 1) (ZH (JK ws))))
theorem ZjL:Zkb=Zg (Zq 1 (ZH (JK odd0))) (Zg (ZkM JJ) (Zg (ZkM ZkL) (Zg (ZkM Zlh) (Zp (eOp ixD (Za 1) (eOp modW (Za 0) (eCB lenD (Zb (Za 1) eNil)))))))):=rfl
theorem ZeZ{a b:List D}(h:a.length+b.length<=100000):Xa (.lst a) (.lst b)=some (.lst (a++b)):=ZcC h
theorem ZcI{X:D}{us ws:List (List Nat)}(h:us.length+ws.length<=1000):ZkM ws [some X,some (.lst (us.map D.str))]=some (.nx [some X,some (.lst ((us++ws).map D.str))]):=by
 refine(Z1 ((Zn (x:=.lst (us.map D.str)) (y:=.lst (ws.map D.str)) rfl (Vq (ZbC _ ws) (by rw [List.length_map];omega))).trans (ZeZ (by rw [List.length_map,List.length_map];omega)))).trans ?_;rw [List.map_append];rfl
abbrev oddL:List (List Nat):=((odd0++JJ)++ZkL)++Zlh
theorem ZjM:∀r∈oddL,QJ r:=by unfold QJ;decide
theorem ZjN(c:Int):∃r,QB [.int c]=some (.str r)/\QJ r:=by
 obtain⟨a,h1,h2⟩:=Vy c (m:=oddL.length) (by decide);have hr:oddL[a]? = some oddL[a]:=List.getElem?_eq_getElem h2;refine⟨oddL[a],?_,ZjM _ (List.getElem_mem h2)⟩;refine Yt (δ:=[some (.int c),none]) rfl ?_;rw [ZjL];have t0:(Zq 1 (ZH (JK odd0))) [some (.int c),none]=some (.nx [some (.int c),some (.lst (odd0.map D.str))]):=Z1 (Vq (ZbC _ odd0) (by decide));refine(Zt t0).trans ((Zt (ZcI (us:=odd0) (ws:=JJ) (by decide))).trans ((Zt (ZcI (us:=odd0++JJ) (ws:=ZkL) (by decide))).trans ((Zt (ZcI (us:=(odd0++JJ)++ZkL) (ws:=Zlh) (by decide))).trans (Yr ?_))))
 show eOp ixD (Za 1) (eOp modW (Za 0) (eCB lenD (Zb (Za 1) eNil))) [some (.int c),some (.lst (oddL.map D.str))]=some (.str oddL[a]);generalize oddL[a]=x at *;generalize oddL=L at *;have el:eCB lenD (Zb (Za 1) eNil) [some (.int c),some (.lst (L.map D.str))]=some (nD L.length):=(Yd (Zk (x:=.lst (L.map D.str)) rfl nil_of)).trans (len_lst.trans (by rw [List.length_map]));exact(Zn (x:=.lst (L.map D.str)) (y:=nD a) rfl ((Zn (x:=.int c) (y:=nD L.length) rfl el).trans h1)).trans (Z0 (by rw [List.getElem?_map,hr];rfl))
noncomputable def cg1:DL.Env->Option Out:=(Zq 2 (eOp modW (eOp fdivW (Za 1) (eC (.int 7))) (eCB lenD (Zb (Za 0) eNil))))
noncomputable def slT:DL.Env->Option D:=(eSl (Za 0) xNoP (xP (Za 2)))
noncomputable def Zli:DL.Env->Option D:=(eSl (Za 0) (xP (eOp addX (Za 2) (eC (.int 1)))) xNoP)
noncomputable def Zlj:DL.Env->Option D:=(eSl (Za 0) (xP (Za 2)) xNoP)
noncomputable def slE:DL.Env->Option D:=(eSl (ZH (Zb (eC (.str [])) eNil)) xNoP (xP (eCB intD (Zb (eOp eqD (eCB lenD (Zb (Za 0) eNil)) (eC (.int 1))) eNil))))
noncomputable def cgO:DL.Env->Option D:=(Zl 1 QB [] (Zb (eOp fdivW (Za 1) (eC (.int 700))) eNil))
noncomputable def cgI(k:Int)(e:DL.Env->Option D):DL.Env->Option Out:=(sIf (xB (eOp eqD (Za 3) (eC (.int k)))) (Zp e) sNext)
noncomputable def v1:DL.Env->Option D:=(eOp addX (eOp addX slT Zli) slE)
noncomputable def v2:DL.Env->Option D:=(eOp addX (eOp Xa slT (ZH (Zb (eOp ixD (Za 0) (Za 2)) eNil))) Zlj)
noncomputable def v3:DL.Env->Option D:=(eOp addX (eOp Xa slT (ZH (Zb cgO eNil))) Zli)
noncomputable def v4:DL.Env->Option D:=(eOp addX (eOp Xa slT (ZH (Zb cgO eNil))) Zlj)
noncomputable def v5:DL.Env->Option D:=(eOp Xa (Za 0) (ZH (Zb cgO eNil)))
theorem ZmB:Zkc=Zg cg1 (Zg (Zq 3 (eOp modW (Za 1) (eC (.int 7)))) (Zg (cgI 1 v1) (Zg (cgI 2 v2) (Zg (cgI 3 v3) (Zg (cgI 4 v4) (Zg (cgI 5 v5) (Zp (Za 0)))))))):=rfl
abbrev CE(R:List (List Nat))(c:Int)(a w:Nat):DL.Env:=[some (.lst (R.map D.str)),some (.int c),some (nD a),some (nD w)]
section
variable{R:List (List Nat)}{c:Int}{a w:Nat}
theorem ZcZ:slT (CE R c a w)=some (.lst ((R.take a).map D.str)):=by
 show some (D.lst (cutL (R.map D.str) none (some (a:Int))))=_;rw [Zjh,List.map_take]
theorem Ze0:Zlj (CE R c a w)=some (.lst ((R.drop a).map D.str)):=by
 show some (D.lst (cutL (R.map D.str) (some (a:Int)) none))=_;rw [JX,List.map_drop]
theorem Ze1:Zli (CE R c a w)=some (.lst ((R.drop (a+1)).map D.str)):=by
 show some (D.lst (cutL (R.map D.str) (some ((a+1:Nat):Int)) none))=_;rw [JX,List.map_drop]
theorem ZjO:slE (CE R c a w)=some (.lst ((if R.length=1 then [[]]else []:List (List Nat)).map D.str)):=by
 have e1:eOp eqD (eCB lenD (Zb (Za 0) eNil)) (eC (.int 1)) (CE R c a w)=some (.bl (decide (R.length=1))):=by
  refine(Zn (x:=nD R.length) (y:=nD 1) ((Yd (Zk (x:=.lst (R.map D.str)) rfl nil_of)).trans (len_lst.trans (by rw [List.length_map]))) rfl).trans (UZ _ _)
 have e2:eCB intD (Zb (eOp eqD (eCB lenD (Zb (Za 0) eNil)) (eC (.int 1))) eNil) (CE R c a w)=some (.int (if decide (R.length=1)=true then 1 else 0)):=(Yd (Zk e1 nil_of)).trans rfl;unfold slE eSl xP;rw [e2,show ZH (Zb (eC (.str [])) eNil) (CE R c a w)=some (.lst [.str []])from Vq rfl (by decide)]
 by_cases h:R.length=1
 · rw [decide_eq_true h,if_pos rfl,if_pos h]
   rfl
 · rw [decide_eq_false h,if_neg Bool.false_ne_true,if_neg h]
   rfl
theorem JL{ε1 ε2:DL.Env->Option D}{δ:DL.Env}{xs ys:List (List Nat)}(h1:ε1 δ=some (.lst (xs.map D.str)))(h2:ε2 δ=some (.lst (ys.map D.str)))(h:xs.length+ys.length<=1000):eOp addX ε1 ε2 δ=some (.lst ((xs++ys).map D.str)):=by
 rw [List.map_append];exact(Zn h1 h2).trans (ZcC (by rw [List.length_map,List.length_map];omega))
theorem ZfJ{ε1 ε2:DL.Env->Option D}{δ:DL.Env}{xs:List (List Nat)}{r:List Nat}(h1:ε1 δ=some (.lst (xs.map D.str)))(h2:ε2 δ=some (.str r))(h:xs.length<=900):eOp Xa ε1 (ZH (Zb ε2 eNil)) δ=some (.lst ((xs++[r]).map D.str)):=by
 rw [List.map_append];exact(Zn h1 (Vq (Zk h2 nil_of) (show 1<=1000 by decide))).trans (ZeZ (by rw [List.length_map];show xs.length+1<=_;omega))
theorem QK{n:Nat}{Q:List (List Nat)}(hk:RK n R){r:List Nat}(hr:QJ r)(hne:Q≠[])(hl:Q.length<=n+1)(hm:∀x∈Q,x∈R\/x=r):RK (n+1) Q:=⟨hne,hl,λx hx=>by
 rcases hm x hx with z|z
 · exact hk.rk x z
 · rw [z];exact hr⟩
theorem Zd3{n:Nat}(hk:RK n R)(hn:n<=500)(c:Int):∃Q,Jj [.lst (R.map D.str),.int c]=some (.lst (Q.map D.str))/\RK (n+1) Q:=by
 have hlen:0<R.length:=List.length_pos_iff.mpr hk.ne;have hln:=hk.ln;obtain⟨a,ha,ha2⟩:=Vy (c.fdiv 7) hlen;obtain⟨w,hw,hw2⟩:=Vy c (m:=7) (by decide);obtain⟨r,hr,hr2⟩:=ZjN (c.fdiv 700);have hnil:QJ []:=⟨by decide,by decide⟩
 have t1:cg1 [some (.lst (R.map D.str)),some (.int c),none,none]=some (.nx [some (.lst (R.map D.str)),some (.int c),some (nD a),none]):=
  Z1 ((Zn (x:=.int (c.fdiv 7)) (y:=nD R.length) ((Zn (x:=.int c) (y:=.int 7) rfl rfl).trans (ZaI (by decide) (ZfH (by decide +kernel)))) ((Yd (Zk (x:=.lst (R.map D.str)) rfl nil_of)).trans (len_lst.trans (by rw [List.length_map])))).trans ha)
 have t2:(Zq 3 (eOp modW (Za 1) (eC (.int 7)))) [some (.lst (R.map D.str)),some (.int c),some (nD a),none]=some (.nx (CE R c a w)):=Z1 ((Zn (x:=.int c) (y:=nD 7) rfl rfl).trans hw);have eo:cgO (CE R c a w)=some (.str r):=(ZT (n:=1) (Zk ((Zn (x:=.int c) (y:=.int 700) rfl rfl).trans (ZaI (by decide) (ZfH (by decide +kernel)))) nil_of) rfl).trans hr;have ei:eOp ixD (Za 0) (Za 2) (CE R c a w)=some (.str (R.getD a [])):=(Zn (x:=.lst (R.map D.str)) (y:=nD a) rfl rfl).trans (Z0 (by rw [List.getElem?_map,(VB ha2).2];rfl))
 have ht:(R.take a).length=a:=by rw [List.length_take];omega
 have hd0:(R.drop a).length=R.length-a:=List.length_drop;have hd1:(R.drop (a+1)).length=R.length-(a+1):=List.length_drop;have ew:∀k:Nat,xB (eOp eqD (Za 3) (eC (.int (k:Int)))) (CE R c a w)=some (decide (w=k)):=λk=>ZA ((Zn (x:=nD w) (y:=nD k) rfl rfl).trans (UZ w k))
 have body:∀Q:List (List Nat),RK (n+1) Q->Zg (cgI 1 v1) (Zg (cgI 2 v2) (Zg (cgI 3 v3) (Zg (cgI 4 v4) (Zg (cgI 5 v5) (Zp (Za 0)))))) (CE R c a w)=some (.rt (.lst (Q.map D.str)))->∃Q,Jj [.lst (R.map D.str),.int c]=some (.lst (Q.map D.str))/\RK (n+1) Q:=λQ hQ e=>by
  refine⟨Q,Yt (δ:=[some (.lst (R.map D.str)),some (.int c),none,none]) rfl ?_,hQ⟩;rw [ZmB];exact(Zt t1).trans ((Zt t2).trans e)
 have yes:∀(k:Nat){e:DL.Env->Option D}{φ:DL.Env->Option Out}{d:D},w=k->e (CE R c a w)=some d->Zg (cgI (k:Int) e) φ (CE R c a w)=some (.rt d):=λk {e φ d} h1 h2=>by
  have:=ew k;rw [decide_eq_true h1]at this;exact Yc ((Yj this).trans (Yr h2))
 have no:∀(k:Nat){e:DL.Env->Option D}{φ:DL.Env->Option Out},¬w=k->Zg (cgI (k:Int) e) φ (CE R c a w)=φ (CE R c a w):=λk {e φ} h1=>by
  have:=ew k;rw [decide_eq_false h1]at this;exact Zt ((Ys this).trans rfl)
 have mt:∀x,x∈R.take a->x∈R:=λx hx=>List.mem_of_mem_take hx
 have md:∀k x,x∈R.drop k->x∈R:=λk x hx=>List.mem_of_mem_drop hx
 by_cases w1:w=1
 · refine body ((R.take a++R.drop (a+1))++if R.length=1 then [[]]else []) ?_ (yes 1 w1 (JL (JL ZcZ Ze1 (by omega)) ZjO (by rw [List.length_append];split<;>simp only [List.length_cons,List.length_nil]<;>omega)))
   refine QK hk hnil ?_ ?_ ?_
   · intro z
     have:=congrArg List.length z;rw [List.length_append,List.length_append,ht,hd1,List.length_nil]at this
     split at this
     · simp at this
     · simp at this
       omega
   · rw [List.length_append,List.length_append,ht,hd1]
     split<;>simp only [List.length_cons,List.length_nil]<;>omega
   · intro x hx
     rcases List.mem_append.mp hx with hx|hx
     · rcases List.mem_append.mp hx with hx|hx
       · exact .inl (mt x hx)
       · exact .inl (md _ x hx)
     · split at hx
       · exact .inr (List.mem_singleton.mp hx)
       · cases hx
 by_cases w2:w=2
 · refine body ((R.take a++[R.getD a []])++R.drop a) ?_ ((no 1 w1).trans (yes 2 w2 (JL (ZfJ ZcZ ei (by omega)) Ze0 (by rw [List.length_append,ht,hd0];show a+1+_<=_;omega))))
   refine QK hk hnil (by simp) ?_ ?_
   · rw [List.length_append,List.length_append,ht,hd0]
     show a+1+_<=_;omega
   · intro x hx
     rcases List.mem_append.mp hx with hx|hx
     · rcases List.mem_append.mp hx with hx|hx
       · exact .inl (mt x hx)
       · rw [List.mem_singleton.mp hx];exact .inl (VB ha2).1
     · exact .inl (md _ x hx)
 by_cases w3:w=3
 · refine body ((R.take a++[r])++R.drop (a+1)) ?_ ((no 1 w1).trans ((no 2 w2).trans (yes 3 w3 (JL (ZfJ ZcZ eo (by omega)) Ze1 (by rw [List.length_append,ht,hd1];show a+1+_<=_;omega)))))
   refine QK hk hr2 (by simp) ?_ ?_
   · rw [List.length_append,List.length_append,ht,hd1]
     show a+1+_<=_;omega
   · intro x hx
     rcases List.mem_append.mp hx with hx|hx
     · rcases List.mem_append.mp hx with hx|hx
       · exact .inl (mt x hx)
       · exact .inr (List.mem_singleton.mp hx)
     · exact .inl (md _ x hx)
 by_cases w4:w=4
 · refine body ((R.take a++[r])++R.drop a) ?_ ((no 1 w1).trans ((no 2 w2).trans ((no 3 w3).trans (yes 4 w4 (JL (ZfJ ZcZ eo (by omega)) Ze0 (by rw [List.length_append,ht,hd0];show a+1+_<=_;omega))))))
   refine QK hk hr2 (by simp) ?_ ?_
   · rw [List.length_append,List.length_append,ht,hd0]
     show a+1+_<=_;omega
   · intro x hx
     rcases List.mem_append.mp hx with hx|hx
     · rcases List.mem_append.mp hx with hx|hx
       · exact .inl (mt x hx)
       · exact .inr (List.mem_singleton.mp hx)
     · exact .inl (md _ x hx)
 by_cases w5:w=5
 · refine body (R++[r]) ?_ ((no 1 w1).trans ((no 2 w2).trans ((no 3 w3).trans ((no 4 w4).trans (yes 5 w5 (ZfJ rfl eo (by omega)))))))
   refine QK hk hr2 (by simp) ?_ ?_
   · rw [List.length_append]
     show R.length+1<=_;omega
   · intro x hx
     rcases List.mem_append.mp hx with hx|hx
     · exact .inl hx
     · exact .inr (List.mem_singleton.mp hx)
 · exact body R (QK hk hnil hk.ne (by omega) λx hx => .inl hx) ((no 1 w1).trans ((no 2 w2).trans ((no 3 w3).trans ((no 4 w4).trans ((no 5 w5).trans rfl)))))
end
end K50
namespace K50
open DL L2
theorem cells{S:D}{c:Int}{k:Nat}{δ:DL.Env}{i:Nat}(h:Za i δ=some S)(hc:YZ [S,.int (k:Int)]=some (.int c)){κ:DL.Env->Option D}(hk:κ δ=some (.int (k:Int))):Zl 2 YZ [] (Zb (Za i) (Zb κ eNil)) δ=some (.int c):=(ZT (n:=2) (Zk h (Zk hk nil_of)) rfl).trans hc
theorem ZbD{c:Int}{δ:DL.Env}{e:DL.Env->Option D}{M:Nat}(hM:0<M)(he:e δ=some (.int c)):∃m:Nat,0<m/\m<=M/\eOp addX (eC (.int 1)) (eOp modW e (eC (.int (M:Int)))) δ=some (nD m):=by
 obtain⟨a,ha,h2⟩:=Vy c hM;refine⟨1+a,by omega,by omega,(Zn (x:=.int 1) (y:=nD a) rfl ((Zn he (y:=.int (M:Int)) rfl).trans ha)).trans ?_⟩;rw [add_int];show some (D.int (1+(a:Int)))=some (D.int ((1+a:Nat):Int));rw [Int.natCast_add];rfl
theorem ZbE{α:Type}{g:α->D}{P:α->Prop}{γ:D->DL.Env->Option DL.Env}{ε:DL.Env->Option D}{δ0:DL.Env}:∀(xs:List D),(∀x∈xs,∃(δ1:DL.Env) (h:α),γ x δ0=some δ1/\ε δ1=some (g h)/\P h)->∃hs:List α,YJ γ (λ_=>some true) ε δ0 xs=some (hs.map g)/\hs.length=xs.length/\∀h∈hs,P h
 | [],_=>⟨[],rfl,rfl,λ_ z=>nomatch z⟩
 |x::xs,H=>by
  obtain⟨δ1,h,h1,h2,h3⟩:=H x List.mem_cons_self;obtain⟨hs,g1,g2,g3⟩:=ZbE xs λy hy=>H y (List.mem_cons_of_mem _ hy)
  refine⟨h::hs,?_,by rw [List.length_cons,List.length_cons,g2],λy hy => ?_⟩
  · unfold YJ
    rw [h1];dsimp only;rw [h2,g1];rfl
  · rcases List.mem_cons.mp hy with rfl|hy
    · exact h3
    · exact g3 y hy
abbrev AB:List Nat:=[97,98,55]
theorem Ze2:∀c∈AB,c∈cs_MARK_SIGNS:=by decide
abbrev E11(S:D)(m n q:Nat)(v4 v5 v6 v7 v8 v9 v10:Option D):DL.Env:=[some S,some (nD m),some (nD n),some (nD q),v4,v5,v6,v7,v8,v9,v10]
noncomputable def bkE:DL.Env->Option D:=(eOp ixD (eC (.str AB)) (eOp modW (eOp fdivW (Za 1) (eOp ixD (ZH (Zb (eC (.int 3)) (Zb (eC (.int 9)) (Zb (eC (.int 27)) eNil)))) (Za 0))) (eC (.int 3))))
noncomputable def bkC:DL.Env->Option D:=(eBM joinD (eC (.str [])) (Zb (Yp (Z5 (Zb (Za 3) eNil)) (Zx 0) (λ_=>some true) bkE 1 [8]) eNil))
noncomputable def b1:DL.Env->Option Out:=(Zq 8 (Zl 2 YZ [] (Zb (Za 0) (Zb (eOp addX (eOp addX (eC (.int 12)) (eOp mulX (Za 5) (Za 2))) (Za 7)) eNil))))
noncomputable def b2:DL.Env->Option Out:=(Z3 6 (XQ (Zb bkC (Zb (eOp modW (eOp fdivW (Za 8) (eC (.int 81))) (Za 1)) eNil))))
theorem ZmC:∀k:Nat,k<3->∃p:Nat,p≠0/\p<=27/\ixD (.lst [.int 3,.int 9,.int 27]) (nD k)=some (nD p):=by
 intro k hk;rcases(show k=0\/k=1\/k=2 by omega)with rfl|rfl|rfl
 · exact⟨3,by decide,by decide,Z0 rfl⟩
 · exact⟨9,by decide,by decide,Z0 rfl⟩
 · exact⟨27,by decide,by decide,Z0 rfl⟩
theorem ZjP(c:Int){k:Nat}(hk:k<3):∃ch,bkE [some (nD k),some (.int c)]=some (.str [ch])/\ch∈AB:=by
 obtain⟨p,hp,hp2,ep⟩:=ZmC k hk;obtain⟨a,ha,h3⟩:=Vy (c.fdiv (p:Int)) (m:=3) (by decide);have hr:AB[a]? = some AB[a]:=List.getElem?_eq_getElem h3;refine⟨AB[a],?_,List.getElem_mem h3⟩;have e1:eOp ixD (ZH (Zb (eC (.int 3)) (Zb (eC (.int 9)) (Zb (eC (.int 27)) eNil)))) (Za 0) [some (nD k),some (.int c)]=some (nD p):=(Zn (x:=.lst [.int 3,.int 9,.int 27]) (y:=nD k) (Vq rfl (by decide)) rfl).trans ep
 exact(Zn (x:=.str AB) (y:=nD a) rfl ((Zn (y:=nD 3) ((Zn (x:=.int c) rfl e1).trans (ZaI (by omega) (ZfH (Nat.le_trans (show(p:Int).natAbs<=27 by omega) (by decide +kernel))))) rfl).trans ha)).trans (ix_str hr (by decide))
theorem Zi2:∀w:List Nat,(w.map λc=>[c]).flatten=w
 | []=>rfl
 |c::w=>by rw [List.map_cons,List.flatten_cons,Zi2 w];rfl
theorem ZjQ{S:D}{m n q:Nat}{v4 v5 v6 v7 v9 v10:Option D}(hq:q<=3)(c:Int):∃w,bkC (E11 S m n q v4 v5 v6 v7 (some (.int c)) v9 v10)=some (.str w)/\w.length=q/\∀ch∈w,ch∈cs_MARK_SIGNS:=by
 obtain⟨w,g1,g2,g3⟩:=ZbE (α:=Nat) (g:=λch=>D.str [ch]) (P:=λch=>ch∈AB) (γ:=Zx 0) (ε:=bkE) (δ0:=[none,some (.int c)]) (Yl 0 1 q) (by
  intro x hx;obtain⟨i,hi,rfl⟩:=ZeN hx;rw [show(0+(i:Int)*1)=i by omega];obtain⟨ch,h1,h2⟩:=ZjP c (k:=i) (by omega);exact⟨[some (nD i),some (.int c)],ch,rfl,h1,h2⟩)
 rw [UO]at g2;refine⟨w,?_,g2,λch hch=>Ze2 ch (g3 ch hch)⟩
 have ei:Z5 (Zb (Za 3) eNil) (E11 S m n q v4 v5 v6 v7 (some (.int c)) v9 v10)=some (Yl 0 1 q):=by
  rw [Jc (j:=(q:Int)) (Zk rfl nil_of) (by omega) (by omega),Int.toNat_natCast]
 refine(V0 (s:=[]) rfl (Zk (Vs ei rfl g1 (by rw [List.length_map,g2];omega)) nil_of)).trans ?_;rw [show(w.map λch=>D.str [ch])=(w.map λch=>[ch]).map D.str by rw [List.map_map];rfl];unfold joinD;dsimp only;rw [ZaG];dsimp only
 have hs:((w.map λch=>[ch]).map List.length).sum=w.length:=by
  rw [List.map_map];show(w.map λ_=>1).sum=_;rw [List.map_const',List.sum_replicate_nat,Nat.mul_one]
 rw [if_pos (by rw [PySem.sizeLine_eq];simp only [List.length_nil,List.length_map];omega),ZbS,Zi2]
theorem ZjR(ns:List Int)(m n q:Nat)(hm:0<m)(hn:n<=3)(hq:q<=3)(v4 v8 v9 v10:Option D)(i j:Nat)(ws:List Pr)(hl:ws.length<=10):∃p w8,PrOk q m p/\Zg b1 b2 (E11 (.lst (ns.map D.int)) m n q v4 (some (nD i)) (some (Zz ws)) (some (nD j)) v8 v9 v10)=some (.nx (E11 (.lst (ns.map D.int)) m n q v4 (some (nD i)) (some (Zz (ws++[p]))) (some (nD j)) w8 v9 v10)):=by
 have hc:=Zbj ns (12+i*n+j);generalize D.lst (ns.map D.int)=S at *;generalize ns.getD (12+i*n+j) 0=c at *
 have t1:b1 (E11 S m n q v4 (some (nD i)) (some (Zz ws)) (some (nD j)) v8 v9 v10)=some (.nx (E11 S m n q v4 (some (nD i)) (some (Zz ws)) (some (nD j)) (some (.int c)) v9 v10)):=by
  refine Z1 ((ZT (n:=2) (ds:=[S,.int ((12+i*n+j:Nat):Int)]) (Zk rfl (Zk ?_ nil_of)) rfl).trans hc);refine(Zn (x:=.int (12+(i:Int)*(n:Int))) (y:=nD j) ((Zn (x:=.int 12) (y:=.int ((i:Int)*(n:Int))) rfl ((Zn (x:=nD i) (y:=nD n) rfl rfl).trans (Zb4 (by omega) (by omega)))).trans (add_int _ _)) rfl).trans ?_;rw [add_int];refine congrArg (λz=>some (D.int z)) ?_
  rw [<-Int.natCast_mul];omega
 obtain⟨w,hw,hwl,hwc⟩:=ZjQ (S:=S) (m:=m) (n:=n) (v4:=v4) (v5:=some (nD i)) (v6:=some (Zz ws)) (v7:=some (nD j)) (v9:=v9) (v10:=v10) hq c;obtain⟨a,ha,ham⟩:=Vy (c.fdiv 81) hm;refine⟨(w,a),some (.int c),⟨hwl,hwc,ham⟩,?_⟩;rw [Zt t1];have e1:eOp modW (eOp fdivW (Za 8) (eC (.int 81))) (Za 1) (E11 S m n q v4 (some (nD i)) (some (Zz ws)) (some (nD j)) (some (.int c)) v9 v10)=some (nD a):=(Zn (y:=nD m) ((Zn (x:=.int c) (y:=.int 81) rfl rfl).trans (ZaI (by decide) (ZfH (by decide +kernel)))) rfl).trans ha
 refine(Vr (xs:=ws.map prD) (d:=prD (w,a)) rfl (Zef (Zk hw (Zk e1 nil_of)) (show 2<=1000 by decide)) (by rw [List.length_map];omega)).trans ?_;unfold Zz;rw [List.map_append];rfl
noncomputable def bB:DL.Env->Option Out:=(Zg (Zq 6 (ZH eNil)) (Zg (Yo (Z5 (Zb (Za 2) eNil)) (Zx 7) (Zg b1 b2)) (Z3 4 (Za 6))))
theorem Zio(ns:List Int)(m n q:Nat)(hm:0<m)(hn:n<=3)(hq:q<=3)(v6 v7 v8 v9 v10:Option D)(i:Nat)(W:List (List Pr))(hl:W.length<=10):∃ws w6 w7 w8,ws.length=n/\(∀p∈ws,PrOk q m p)/\bB (E11 (.lst (ns.map D.int)) m n q (some (.lst (W.map Zz))) (some (nD i)) v6 v7 v8 v9 v10)=some (.nx (E11 (.lst (ns.map D.int)) m n q (some (.lst ((W++[ws]).map Zz))) (some (nD i)) w6 w7 w8 v9 v10)):=by
 obtain⟨δ',g1,ws,w7,w8,e,hwl,hwp⟩:=Jb (γ:=Zx 7) (φ:=Zg b1 b2) (λk δ=>∃(ws:List Pr) (w7 w8:Option D),δ=E11 (.lst (ns.map D.int)) m n q (some (.lst (W.map Zz))) (some (nD i)) (some (Zz ws)) w7 w8 v9 v10/\ws.length=k/\∀p∈ws,PrOk q m p) (Yl 0 1 n) 0 (E11 (.lst (ns.map D.int)) m n q (some (.lst (W.map Zz))) (some (nD i)) (some (Zz [])) v7 v8 v9 v10) ⟨[],v7,v8,rfl,rfl,λ_ z=>nomatch z⟩ (by
  intro j x δ hx ⟨ws,w7,w8,e,hwl,hwp⟩;subst e;obtain⟨hj,rfl⟩:=ZcB hx;obtain⟨p,u8,hp,g⟩:=ZjR ns m n q hm hn hq (some (.lst (W.map Zz))) w8 v9 v10 i j ws (by omega);refine⟨_,rfl,_,g,ws++[p],_,_,rfl,by rw [List.length_append,List.length_singleton];omega,λy hy => ?_⟩;rcases List.mem_append.mp hy with z|z
  · exact hwp y z
  · rw [List.mem_singleton.mp z];exact hp)
 subst e;rw [UO,Nat.zero_add]at hwl
 have ei:Z5 (Zb (Za 2) eNil) (E11 (.lst (ns.map D.int)) m n q (some (.lst (W.map Zz))) (some (nD i)) (some (Zz [])) v7 v8 v9 v10)=some (Yl 0 1 n):=by
  rw [Jc (j:=(n:Int)) (Zk rfl nil_of) (by omega) (by omega),Int.toNat_natCast]
 refine⟨ws,some (Zz ws),w7,w8,hwl,hwp,?_⟩;unfold bB;rw [Zt (δ':=E11 (.lst (ns.map D.int)) m n q (some (.lst (W.map Zz))) (some (nD i)) (some (Zz [])) v7 v8 v9 v10) (Z1 rfl),Zt (Xq ei g1)];refine(Vr (xs:=W.map Zz) (d:=Zz ws) rfl rfl (by rw [List.length_map];omega)).trans ?_;rw [List.map_append];rfl
theorem JM{n:Nat}(h:n<10):(Zo n).length=1:=by rw [Zav h];rfl
theorem ZdD{n:Nat}(h:n<100):(Zo n).length<=2:=by
 unfold Zo;rw [List.length_map];exact(Nat.length_toDigits_le_iff (b:=10) (k:=2) (by decide) (by decide)).mpr h
theorem ZbF(nm w:List Nat):(ZR nm [w]).length=nm.length+1+w.length:=by
 unfold ZR;simp only [ZL,List.length_append,List.length_cons,List.length_nil]
theorem Zbe{q m:Nat}(hq:q<=3)(hm:m<=3):∀(hs:List Nat)(W:List (List Pr)),(∀h∈hs,h<100)->(∀ws∈W,∀p∈ws,PrOk q m p)->∀r∈Yq hs W,r.length<=14
 | [],_,_,_,r,hr=>nomatch hr
 |_::_,[],_,_,r,hr=>nomatch hr
 |h0::hs,w0::W,h1,h2,r,hr=>by
  rcases List.mem_append.mp (show r∈blk h0 w0++Yq hs W from hr)with z|z
  · rcases List.mem_cons.mp z with rfl|z
    · rw [ZbF]
      have:=ZdD (h1 h0 List.mem_cons_self);show 5+1+_<=14;omega
    · obtain⟨p,hp,rfl⟩:=List.mem_map.mp z
      have o:=h2 w0 List.mem_cons_self p hp;have:=o.lt;rw [ZeY,o.ln,JM (by omega)];omega
  · exact Zbe hq hm hs W (λx hx=>h1 x (List.mem_cons_of_mem _ hx)) (λx hx=>h2 x (List.mem_cons_of_mem _ hx)) r z
theorem Zd4{t:T}(o:t.Ok)(hm:t.m<=3)(hn:t.n<=3)(hq:t.q<=3)(ha:t.a<20)(hh:∀h∈t.hs,h<100)(hl:t.lead.length<=3):RK 15 t.rows:=by
 have hf:=o.fm;refine⟨by unfold T.rows;simp,?_,λr hr=>⟨?_,(t.rows_ok o r hr).2⟩⟩
 · rw [t.rows_len o]
   have:t.m*(t.n+1)<=3*4:=Nat.mul_le_mul hm (by omega);omega
 · unfold T.rows at hr
   rcases List.mem_cons.mp hr with rfl|hr
   · unfold ZR
     have:=ZdD (n:=t.a) (by omega);simp only [ZL,List.length_append,List.length_cons,List.length_nil];rw [JM (n:=t.n) (by omega),JM (n:=t.q) (by omega),JM (n:=t.m) (by omega)];omega
   rcases List.mem_cons.mp hr with rfl|hr
   · unfold YQ
     split
     · decide
     · rw [ZbF]
       show 4+1+_<=14;omega
   rcases List.mem_cons.mp hr with rfl|hr
   · rw [ZbF,JM (by omega)]
     decide
   · exact Zbe hq hm t.hs t.W hh o.pr r hr
end K50
namespace K50
open DL L2
noncomputable def cz(k:Int):DL.Env->Option D:=(Zl 2 YZ [] (Zb (Za 0) (Zb (eC (.int k)) eNil)))
noncomputable def zn(i:Nat)(k:Int):DL.Env->Option Out:=(Zq i (eOp addX (eC (.int 1)) (eOp modW (cz k) (eC (.int 3)))))
noncomputable def zF:DL.Env->Option Out:=(Yo (Z5 (Zb (Za 1) eNil)) (Zx 5) bB)
noncomputable def zHE:DL.Env->Option D:=(eOp modW (Zl 2 YZ [] (Zb (Za 1) (Zb (eOp addX (eC (.int 9)) (Za 0)) eNil))) (eC (.int 100)))
noncomputable def zH:DL.Env->Option Out:=(Zq 9 (Yp (Z5 (Zb (Za 1) eNil)) (Zx 0) (λ_=>some true) zHE 1 [0]))
noncomputable def zL:DL.Env->Option Out:=(Zq 10 (eSl (eC (.str AB)) xNoP (xP (eOp modW (cz 3) (eC (.int 4))))))
noncomputable def zR:DL.Env->Option Out:=(Zp (eBM splitD (Zl 5 Zj8 [] (Zb (Za 10) (Zb (eOp modW (cz 4) (Za 1)) (Zb (eOp modW (cz 5) (eC (.int 20))) (Zb (Za 9) (Zb (Za 4) eNil)))))) (Zb (eC (.str [10])) eNil)))
theorem Zip:Zj9=Zg (zn 1 0) (Zg (zn 2 1) (Zg (zn 3 2) (Zg (Zq 4 (ZH eNil)) (Zg zF (Zg zH (Zg zL zR)))))):=rfl
theorem ZcV(ns:List Int):∃R,Zka [.lst (ns.map D.int)]=some (.lst (R.map D.str))/\RK 15 R:=by
 have cc:∀(k:Nat)(δ:DL.Env),Za 0 δ=some (.lst (ns.map D.int))->cz (k:Int) δ=some (.int (ns.getD k 0)):=λk δ h=>cells (k:=k) h (Zbj ns k) rfl
 obtain⟨m,m0,m3,e1⟩:=ZbD (e:=cz 0) (M:=3) (by decide) (cc 0 [some (.lst (ns.map D.int)),none,none,none,none,none,none,none,none,none,none] rfl);obtain⟨n,n0,n3,e2⟩:=ZbD (e:=cz 1) (M:=3) (by decide) (cc 1 [some (.lst (ns.map D.int)),some (nD m),none,none,none,none,none,none,none,none,none] rfl);obtain⟨q,q0,q3,e3⟩:=ZbD (e:=cz 2) (M:=3) (by decide) (cc 2 [some (.lst (ns.map D.int)),some (nD m),some (nD n),none,none,none,none,none,none,none,none] rfl)
 have ei:∀v4 v5 v6 v7 v8,Z5 (Zb (Za 1) eNil) (E11 (.lst (ns.map D.int)) m n q v4 v5 v6 v7 v8 none none)=some (Yl 0 1 m):=λv4 v5 v6 v7 v8=>by
  rw [Jc (j:=(m:Int)) (Zk rfl nil_of) (by omega) (by omega),Int.toNat_natCast]
 obtain⟨δ',r1,W,v5,v6,v7,v8,e,wl,wr,wp⟩:=Jb (γ:=Zx 5) (φ:=bB) (λk δ=>∃(W:List (List Pr)) (v5 v6 v7 v8:Option D),δ=E11 (.lst (ns.map D.int)) m n q (some (.lst (W.map Zz))) v5 v6 v7 v8 none none/\W.length=k/\(∀ws∈W,ws.length=n)/\∀ws∈W,∀p∈ws,PrOk q m p) (Yl 0 1 m) 0 (E11 (.lst (ns.map D.int)) m n q (some (.lst (([]:List (List Pr)).map Zz))) none none none none none none) ⟨[],none,none,none,none,rfl,rfl,(λ_ z=>nomatch z),(λ_ z=>nomatch z)⟩ (by
  intro j x δ hx ⟨W,v5,v6,v7,v8,e,wl,wr,wp⟩;subst e;obtain⟨hj,rfl⟩:=ZcB hx;obtain⟨ws,w6,w7,w8,s1,s2,s3⟩:=Zio ns m n q m0 n3 q3 v6 v7 v8 none none j W (by omega);refine⟨_,rfl,_,s3,W++[ws],_,_,_,_,rfl,by rw [List.length_append,List.length_singleton];omega,λy hy => ?_,λy hy => ?_⟩
  · rcases List.mem_append.mp hy with z|z
    · exact wr y z
    · rw [List.mem_singleton.mp z];exact s1
  · rcases List.mem_append.mp hy with z|z
    · exact wp y z
    · rw [List.mem_singleton.mp z];exact s2)
 subst e;rw [UO,Nat.zero_add]at wl
 obtain⟨hs,g1,g2,g3⟩:=ZbE (α:=Nat) (g:=nD) (P:=λh=>h<100) (γ:=Zx 0) (ε:=zHE) (δ0:=[none,some (.lst (ns.map D.int))]) (Yl 0 1 m) (by
  intro x hx;obtain⟨i,hi,rfl⟩:=ZeN hx;rw [show(0+(i:Int)*1)=i by omega];obtain⟨h,hh,hb⟩:=Vy (ns.getD (9+i) 0) (m:=100) (by decide);refine⟨[some (nD i),some (.lst (ns.map D.int))],h,rfl,?_,hb⟩;refine(Zn (y:=nD 100) ((ZT (n:=2) (ds:=[.lst (ns.map D.int),.int ((9+i:Nat):Int)]) (Zk rfl (Zk ((Zn (x:=.int 9) (y:=nD i) rfl rfl).trans ((add_int _ _).trans ?_)) nil_of)) rfl).trans (Zbj ns (9+i))) rfl).trans hh
  show some (D.int (9+(i:Int)))=some (D.int ((9+i:Nat):Int));rw [Int.natCast_add];rfl)
 rw [UO]at g2;obtain⟨k,hk,hk4⟩:=Vy (ns.getD 3 0) (m:=4) (by decide);obtain⟨f,hf,hfm⟩:=Vy (ns.getD 4 0) m0;obtain⟨a,ha,ha20⟩:=Vy (ns.getD 5 0) (m:=20) (by decide);have hll:(AB.take k).length<=3:=by rw [List.length_take];exact Nat.min_le_right _ _
 have hmn:m*(n+1)<=3*4:=Nat.mul_le_mul m3 (by omega);have o:(T.mk (AB.take k) f a n q m hs W).Ok:=⟨m0,by show m<=30;omega,by show m*(n+1)<=30;omega,n0,by show n<=30;omega,q0,by show q<=8;omega,hfm,by show a<1000000;omega,g2,λx hx=>Nat.lt_trans (g3 x hx) (by decide),wl,wr,wp,by show(AB.take k).length<=9;omega,λch hch=>Ze2 ch (List.mem_of_mem_take hch)⟩
 refine⟨(T.mk (AB.take k) f a n q m hs W).rows,?_,Zd4 o m3 n3 q3 ha20 g3 hll⟩;have tx:=ZcT o;have tl:=T.text_len o;have ts:=T.split_ok o;dsimp only at tx;generalize (T.mk (AB.take k) f a n q m hs W).text=X at *;generalize (T.mk (AB.take k) f a n q m hs W).rows=Y at *;refine Yt (δ:=[some (.lst (ns.map D.int)),none,none,none,none,none,none,none,none,none,none]) rfl ?_;rw [Zip]
 refine(Zt (a:=zn 1 0) (δ':=[some (.lst (ns.map D.int)),some (nD m),none,none,none,none,none,none,none,none,none]) (Z1 e1)).trans ?_;refine(Zt (a:=zn 2 1) (δ':=[some (.lst (ns.map D.int)),some (nD m),some (nD n),none,none,none,none,none,none,none,none]) (Z1 e2)).trans ?_;refine(Zt (a:=zn 3 2) (δ':=E11 (.lst (ns.map D.int)) m n q none none none none none none none) (Z1 e3)).trans ?_
 refine(Zt (δ':=E11 (.lst (ns.map D.int)) m n q (some (.lst (([]:List (List Pr)).map Zz))) none none none none none none) (Z1 rfl)).trans ?_;refine(Zt (a:=zF) (Xq (ei _ _ _ _ _) r1)).trans ?_;have t9:zH (E11 (.lst (ns.map D.int)) m n q (some (.lst (W.map Zz))) v5 v6 v7 v8 none none)=some (.nx (E11 (.lst (ns.map D.int)) m n q (some (.lst (W.map Zz))) v5 v6 v7 v8 (some (.lst (hs.map nD))) none)):=Z1 (Vs (ei _ _ _ _ _) rfl g1 (by rw [List.length_map,g2];omega))
 refine(Zt t9).trans ?_
 have t10:zL (E11 (.lst (ns.map D.int)) m n q (some (.lst (W.map Zz))) v5 v6 v7 v8 (some (.lst (hs.map nD))) none)=some (.nx (E11 (.lst (ns.map D.int)) m n q (some (.lst (W.map Zz))) v5 v6 v7 v8 (some (.lst (hs.map nD))) (some (.str (AB.take k))))):=by
  have ek:eOp modW (cz 3) (eC (.int 4)) (E11 (.lst (ns.map D.int)) m n q (some (.lst (W.map Zz))) v5 v6 v7 v8 (some (.lst (hs.map nD))) none)=some (nD k):=(Zn (y:=nD 4) (cc 3 _ rfl) rfl).trans hk;refine Z1 ?_;unfold eSl xP;rw [ek];show slD (.str AB) none (some (k:Int))=_
  have:∀j,j<4->slD (.str AB) none (some ((j:Nat):Int))=some (.str (AB.take j)):=by
   intro j hj;rcases(show j=0\/j=1\/j=2\/j=3 by omega)with rfl|rfl|rfl|rfl<;>rfl
  exact this k hk4
 refine(Zt t10).trans (Yr ?_);refine(V0 (s:=X) ((ZT (n:=5) (Zk (x:=.str (AB.take k)) rfl (Zk ((Zn (y:=nD m) (cc 4 _ rfl) rfl).trans hf) (Zk ((Zn (y:=nD 20) (cc 5 _ rfl) rfl).trans ha) (Zk (x:=.lst (hs.map nD)) rfl (Zk (x:=.lst (W.map Zz)) rfl nil_of))))) rfl).trans tx) (Zk (x:=.str [10]) rfl nil_of)).trans ?_;show(if X.length+2<=PySem.sizeLine then some (D.lst ((ZU 10 X).map D.str))else none)=_
 rw [if_pos (by rw [PySem.sizeLine_eq];omega),ts]
noncomputable def lw1:DL.Env->Option Out:=(Zq 1 (Zl 1 Zka [] (Zb (Za 0) eNil)))
noncomputable def lwB:DL.Env->Option Out:=(Zq 1 (Zl 2 Jj [] (Zb (Za 1) (Zb (Zl 2 YZ [] (Zb (Za 0) (Zb (Za 2) eNil))) eNil))))
noncomputable def lw2:DL.Env->Option Out:=(Yo (Z5 (Zb (eC (.int 6)) (Zb (eC (.int 9)) eNil))) (Zx 2) lwB)
theorem ZjS:Zkl=Zg lw1 (Zg lw2 (Zg lw3 (Zg lw4 (Zg lw5 (Zg lw6 lw7))))):=rfl
theorem all_true:∀ns:List Int,ns.length<=63->Zkm [.lst (ns.map D.int)]=some (.bl true):=λns _=>by
 refine Yt (δ:=[some (.lst (ns.map D.int)),none,none,none,none,none]) rfl ?_;rw [ZjS];obtain⟨R,h1,h2⟩:=ZcV ns;have t1:lw1 [some (.lst (ns.map D.int)),none,none,none,none,none]=some (.nx [some (.lst (ns.map D.int)),some (.lst (R.map D.str)),none,none,none,none]):=Z1 ((ZT (n:=1) (Zk rfl nil_of) rfl).trans h1);refine(Zt t1).trans ?_
 obtain⟨δ',g1,Q,v2,e,hQ⟩:=Jb (γ:=Zx 2) (φ:=lwB) (λk δ=>∃(Q:List (List Nat)) (v2:Option D),δ=[some (.lst (ns.map D.int)),some (.lst (Q.map D.str)),v2,none,none,none]/\RK (15+k) Q) (Yl 6 1 3) 0 [some (.lst (ns.map D.int)),some (.lst (R.map D.str)),none,none,none,none] ⟨R,none,rfl,h2⟩ (by
  intro j x δ hx ⟨Q,v2,e,hQ⟩;subst e;have hj:j<3:=by have:=(List.getElem?_eq_some_iff.mp hx).1;rwa [UO]at this
  have ex:x=nD (6+j):=by
   rw [show(6:Int)=((6:Nat):Int)from rfl,Zbm,List.getElem?_map,List.getElem?_range hj]at hx;exact(Option.some.inj hx).symm
  subst ex;obtain⟨Q',c1,c2⟩:=Zd3 hQ (by omega) (ns.getD (6+j) 0);refine⟨_,rfl,_,Z1 ((ZT (n:=2) (Zk (x:=.lst (Q.map D.str)) rfl (Zk (cells (k:=6+j) rfl (Zbj ns (6+j)) rfl) nil_of)) rfl).trans c1),Q',some (nD (6+j)),rfl,?_⟩;rw [show 15+(0+j+1)=15+(0+j)+1 by omega];exact c2)
 subst e;rw [UO]at hQ;have hi:Z5 (Zb (eC (.int 6)) (Zb (eC (.int 9)) eNil)) [some (.lst (ns.map D.int)),some (.lst (R.map D.str)),none,none,none,none]=some (Yl 6 1 3):=Zeg (i:=6) (j:=9) rfl (by decide) (by decide) (by decide) (by decide);refine(Zt (a:=lw2) (Xq hi g1)).trans ?_;exact Zin hQ (by decide) _ _
end K50
namespace K50
open PySem PySem.Spec L2 DL
def ZfK(K:PySem.W.Frag):Sp:=λvs H Q _=>∃(a:Addr) (ns:List Int),vs=[.ref a]/\SqL K H a (ns.map V.int)/\ns.length<=63/\∀H',Q (.bl true) H'
theorem ZjT(hall:∀ns:List Int,ns.length<=63->Zkm [.lst (ns.map D.int)]=some (.bl true)){P:Program}{w:World}{K:PySem.W.Frag}{mg:Str->Option Value}{base:Heap}{t:Adr}(T:Txt K mg t):FnOk P w K mg base CX0 7 t.a_Q5 t.d_Q5 ["script"] (ZfK K):=
 (Zmp T).imp λvs H Q E ⟨a,ns,hv,hr,hl,q⟩=>by
   subst hv;refine⟨λ_=>False,[.lst (ns.map D.int)],.bl true,λ_ z=>z.elim,.cons ?_ .nil,rfl,hall ns hl,λv H' _ r => ?_⟩
   · unfold Rep
     refine⟨a,_,rfl,λz=>z.elim,hr,?_⟩;have:=RepL.of_vals (cA:=⟨t.c,K⟩) (av:=λ_=>False) (H:=H) (xs:=ns.map D.int) (by rw [List.all_map];exact List.all_eq_true.mpr λ_ _=>rfl);rw [List.map_map]at this;exact this
   · cases(show v=_ from r)
     exact q H'
theorem all_mk (hall:∀ns:List Int,ns.length<=63->Zkm [.lst (ns.map D.int)]=some (.bl true)) {l:PySem.W.OpenLaw} {w:World} {K:PySem.W.Frag} {h:Heap} {mg:Str->Option Value} {fa:Addr} (X:K.In h) (G:h.Ns mainGlobals mg) (hfa:mg "law" = some (.ref fa))
 {c_Table:Addr}
 {c_BadRow:Addr}
 {c_BadTable:Addr}
 {c_GrooveError:Addr}
 {c_Unread:Addr}
 {f0 f1 f2 f3 f4 f5 f6 f7 f8 f9 f10 f11 f12 f13 f14 f15 f16 f17 f18 f19 f20 f21 f22 f23 f24 f25 f26 f27 f28 f29 f30 f31:Addr} {d0 d1 d2 d3 d4 d5 d6 d7 d8 d9 d10 d11 d12 d13 d14 d15 d16 d17 d18 d19 d20 d21 d22 d23 d24 d25 d26 d27 d28 d29 d30 d31:FuncData}
 {x_MARK_SIGNS:Str} {t_MARK_SIGNS:Tok}
 {x_FIGURES:Str} {t_FIGURES:Tok}
 (Zok:nsIn K mainGlobals "Table" = some (some (.ref c_Table)))
 (Zoh:nsIn K mainGlobals "BadRow" = some (some (.ref c_BadRow)))
 (Zoi:nsIn K mainGlobals "BadTable" = some (some (.ref c_BadTable)))
 (Zoj:nsIn K mainGlobals "GrooveError" = some (some (.ref c_GrooveError)))
 (Zol:nsIn K mainGlobals "Unread" = some (some (.ref c_Unread)))
 (a0:PySem.W.findIn K (.ref c_BadTable) "__init__" = some (some (.ref f0)))
 (l0:Fun K "__init__" "BadTable.__init__" Zkn f0 d0)
 (l1:Fg K "whole_in" Jk f1 d1)
 (a2:PySem.W.findIn K (.ref c_Table) "__init__" = some (some (.ref f2)))
 (l2:Fun K "__init__" "Table.__init__" Jl f2 d2)
 (a3:PySem.W.findIn K (.ref c_Table) "signs" = some (some (.ref f3)))
 (l3:Fun K "signs" "Table.signs" Zko f3 d3)
 (a4:PySem.W.findIn K (.ref c_Table) "block_length" = some (some (.ref f4)))
 (l4:Fun K "block_length" "Table.block_length" Zkp f4 d4)
 (l5:Fg K "place_rows" Jm f5 d5)
 (l6:Fg K "table_text" Jn f6 d6)
 (l7:Fg K "words_behind" Zkq f7 d7)
 (l8:Fg K "is_row" Jo f8 d8)
 (l9:Fg K "place_in" Zkr f9 d9)
 (l10:Fg K "head_in" Jp f10 d10)
 (l11:Fg K "lead_in" Zks f11 d11)
 (l12:Fg K "first_in" Zkt f12 d12)
 (l13:Fg K "home_in" Zku f13 d13)
 (l14:Fg K "way_in" Zkv f14 d14)
 (l15:Fg K "row_numbered" Zkw f15 d15)
 (l16:Fg K "stands" Zkx f16 d16)
 (l17:Fg K "ways_in" Zky f17 d17)
 (l18:Fg K "read_table" Zkz f18 d18)
 (l19:Fg K "_law_cell_at" ZkA f19 d19)
 (l20:Fg K "_law_is_whole" ZkB f20 d20)
 (l21:Fg K "_law_text" Jq f21 d21)
 (l22:Fg K "_law_rows" QC f22 d22)
 (l23:Fg K "_law_odd" ZkC f23 d23)
 (l24:Fg K "_law_changed" ZkD f24 d24)
 (l25:Fg K "_law_number" ZkE f25 d25)
 (l26:Fg K "_law_plain" Jr f26 d26)
 (l27:Fg K "_law_head" Js f27 d27)
 (l28:Fg K "_law_stands" ZkF f28 d28)
 (l29:Fg K "_law_due" ZkG f29 d29)
 (l30:Fg K "_law_refused" ZkH f30 d30)
 (l31:Fg K "law" ZkI f31 d31)
 (Zop:nsIn K mainGlobals "ValueError" = some none)
 (Zoq:nsIn K mainGlobals "all" = some none)
 (Zor:nsIn K mainGlobals "bool" = some none)
 (Zos:nsIn K mainGlobals "int" = some none)
 (Zot:nsIn K mainGlobals "isinstance" = some none)
 (Zou:nsIn K mainGlobals "len" = some none)
 (Zov:nsIn K mainGlobals "min" = some none)
 (Zow:nsIn K mainGlobals "range" = some none)
 (Zox:nsIn K mainGlobals "str" = some none)
 (Zoy:nsIn K mainGlobals "tuple" = some none)
 (Zoz:nsIn K mainGlobals "zip" = some none)
 (Zn6:nsIn K mainGlobals "MARK_SIGNS" = some (some (.str x_MARK_SIGNS t_MARK_SIGNS)))
 (Zn8:x_MARK_SIGNS=tx cs_MARK_SIGNS)
 (Zn5:nsIn K mainGlobals "FIGURES" = some (some (.str x_FIGURES t_FIGURES)))
 (Zn7:x_FIGURES=tx cs_FIGURES)
 (Zn2:PySem.W.plainGet K c_Table Str.empty=true)
 (Znv:PySem.W.hasDictIn K c_Table=true)
 (Zn3:PySem.W.plainOver K c_Table=true)
 (Zn4:PySem.W.findIn K (.ref c_Table) "__setattr__" = some (some (.builtin "object.__setattr__")))
 (Znu:PySem.W.findIn K (.ref c_Table) "__class__" = some (some (.builtin "object.__class__")))
 (Znw:PySem.W.mroIn K c_Table (.type "object")=some true)
 (ZnU:PySem.W.makesIn K c_Table=true)
 (ZnP:PySem.W.keepIn K (.ref c_Table)=true)
 (ZnT:PySem.W.findIn K (.ref c_Table) "__init__" = some (some (.ref f2)))
 (ZnS:PySem.W.isFn K (.ref f2)=true)
 (hn_:PySem.W.specialIn K (.builtin "object.__class__") "__get__" = some (some (.builtin "getset_descriptor.__get__")))
 (htk_:PySem.W.takesIn K (.builtin "object.__class__")=some true)
 (Zn9:UJ K c_BadTable=true)
 (Zoa:PySem.W.findIn K (.ref c_BadTable) "__init__" = some (some (.ref f0)))
 (Zob:PySem.W.isFn K (.ref f0)=true)
 (Zoc:PySem.W.keepIn K (.ref c_BadTable)=true)
 (Zod:((PySem.W.clsIn K c_BadTable).any λcd=>Qq cd.mro)=true)
 (Zoe:PySem.W.findIn K (.ref c_BadTable) "__setattr__" = some (some (.builtin "object.__setattr__")))
 (Zof:PySem.W.findIn K (.ref c_BadTable) (Str.ofString "row")=some none)
 (Zog:PySem.W.hasDictIn K c_BadTable=true)
 (Zns:(PySem.W.clsIn K c_BadTable).isSome=true)
 (Znn:PySem.W.findIn K (.ref c_BadTable) "__getattribute__" = some (some (.builtin "BaseException.__getattribute__")))
 (Znr:PySem.W.mroIn K c_BadTable (.type "BaseException")=some true)
 (Zno:PySem.W.findIn K (.ref c_BadTable) "__getattr__" = some none)
 (Znp:PySem.W.findIn K (.ref c_BadTable) "__class__" = some (some (.builtin "object.__class__")))
 (Znq:PySem.W.mroIn K c_BadTable (.type "object")=some true)
 (Znt:PySem.W.exmOne K (.ref c_BadTable) (.ref c_GrooveError)=some true)
 (Zny:kitOne K (.ref c_BadTable) (.ref c_BadTable)=some true)
 (ZnA:kitOne K (.ref c_BadTable) (.type "ValueError")=some true)
 (Znx:kitOne K (.ref c_BadTable) (.ref c_BadRow)=some false)
 (Znz:kitOne K (.ref c_BadTable) (.ref c_Unread)=some false)
 (Zom:PySem.W.specialIn K (.ref c_GrooveError) "__getattribute__" = some (some (.builtin "type.__getattribute__")))
 (Zon:PySem.W.readsIn K c_GrooveError (.type "type")=true)
 (Zoo:PySem.W.findCls K (.ref c_GrooveError) (.type "type") "__init__" = some (.val (.builtin "ValueError.__init__")))
 (ZnX:PySem.W.findIn K (.ref c_Table) "ahead" = some none)
 (ZnY:PySem.W.findIn K (.ref c_Table) "first" = some none)
 (ZnZ:PySem.W.findIn K (.ref c_Table) "homes" = some none)
 (Zn0:PySem.W.findIn K (.ref c_Table) "lead" = some none)
 (Zn1:PySem.W.findIn K (.ref c_Table) "ways" = some none)
 (ZnQ:PySem.W.findIn K (.ref c_Table) "block_length" = some (some (.ref f4)))
 (ZnV:PySem.W.isFn K (.ref f4)=true)
 (ZnR:PySem.W.findIn K (.ref c_Table) "signs" = some (some (.ref f3)))
 (ZnW:PySem.W.isFn K (.ref f3)=true)
 (ZnB:kitOne K (.type "NoneType") (.type "bool")=some false)
 (ZnF:kitOne K (.type "bool") (.type "bool")=some true)
 (ZnH:kitOne K (.type "int") (.type "bool")=some false)
 (ZnL:kitOne K (.type "str") (.type "bool")=some false)
 (ZnJ:kitOne K (.type "list") (.type "bool")=some false)
 (ZnN:kitOne K (.type "tuple") (.type "bool")=some false)
 (ZnD:kitOne K (.ref c_Table) (.type "bool")=some false)
 (ZnC:kitOne K (.type "NoneType") (.type "int")=some false)
 (ZnG:kitOne K (.type "bool") (.type "int")=some true)
 (ZnI:kitOne K (.type "int") (.type "int")=some true)
 (ZnM:kitOne K (.type "str") (.type "int")=some false)
 (ZnK:kitOne K (.type "list") (.type "int")=some false)
 (ZnO:kitOne K (.type "tuple") (.type "int")=some false)
 (ZnE:kitOne K (.ref c_Table) (.type "int")=some false)
 : ∃fd:FuncData,(∀(s:Shared)(v:Value),BindsTo s fd ⟨[v],[]⟩ [("script",v)])/\∀base:Heap,K.In base->base.Ns mainGlobals mg->FnOk l.prog w K mg base CX0 7 fa fd ["script"] (ZfK K):=by
 cases hfa.symm.trans (mg_of X G l31.a);have T:Txt K mg ⟨f0,f1,f2,f3,f4,f5,f6,f7,f8,f9,f10,f11,f12,f13,f14,f15,f16,f17,f18,f19,f20,f21,f22,f23,f24,f25,f26,f27,f28,f29,f30,fa,c_GrooveError,c_Unread,c_BadRow,c_BadTable,c_Table,d0,d1,d2,d3,d4,d5,d6,d7,d8,d9,d10,d11,d12,d13,d14,d15,d16,d17,d18,d19,d20,d21,d22,d23,d24,d25,d26,d27,d28,d29,d30,d31,.str x_MARK_SIGNS t_MARK_SIGNS,.str x_FIGURES t_FIGURES⟩:=⟨l0.df,l1.dg X G l1.l.df,l2.df,l3.df,l4.df,l5.dg X G l5.l.df,l6.dg X G l6.l.df,l7.dg X G l7.l.df,l8.dg X G l8.l.df,l9.dg X G l9.l.df,l10.dg X G l10.l.df,l11.dg X G l11.l.df,l12.dg X G l12.l.df,l13.dg X G l13.l.df,l14.dg X G l14.l.df,l15.dg X G l15.l.df,l16.dg X G l16.l.df,l17.dg X G l17.l.df,l18.dg X G l18.l.df,l19.dg X G l19.l.df,l20.dg X G l20.l.df,l21.dg X G l21.l.df,l22.dg X G l22.l.df,l23.dg X G l23.l.df,l24.dg X G l24.l.df,l25.dg X G l25.l.df,l26.dg X G l26.l.df,l27.dg X G l27.l.df,l28.dg X G l28.l.df,l29.dg X G l29.l.df,l30.dg X G l30.l.df,l31.dg X G l31.l.df,mg_none_of X G Zop,mg_none_of X G Zoq,mg_none_of X G Zor,mg_none_of X G Zos,mg_none_of X G Zot,mg_none_of X G Zou,mg_none_of X G Zov,mg_none_of X G Zow,mg_none_of X G Zox,mg_none_of X G Zoy,mg_none_of X G Zoz,mg_of X G Zn6,⟨_,by rw [Zn8]⟩,mg_of X G Zn5,⟨_,by rw [Zn7]⟩,mg_of X G Zok,⟨Zn2,Znv,Zn3,Zn4⟩,⟨⟨Zn2,Znv,Zn3,Zn4⟩,Znu,hn_,htk_,Znw⟩,⟨ZnU,ZnT,ZnS,ZnP⟩,(by intro c hc;simp only [UP,List.mem_cons,List.mem_nil_iff,or_false]at hc;rcases hc with rfl<;>first|exact⟨⟨Zn2,Znv,Zn3,Zn4⟩,ZnX⟩),(by intro c hc;simp only [UQ,List.mem_cons,List.mem_nil_iff,or_false]at hc;rcases hc with rfl<;>first|exact⟨⟨Zn2,Znv,Zn3,Zn4⟩,ZnY⟩),(by intro c hc;simp only [Vt,List.mem_cons,List.mem_nil_iff,or_false]at hc;rcases hc with rfl<;>first|exact⟨⟨Zn2,Znv,Zn3,Zn4⟩,ZnZ⟩),(by intro c hc;simp only [Vu,List.mem_cons,List.mem_nil_iff,or_false]at hc;rcases hc with rfl<;>first|exact⟨⟨Zn2,Znv,Zn3,Zn4⟩,Zn0⟩),(by intro c hc;exact absurd hc (by simp [ZgO])),(by intro c hc;simp only [Vv,List.mem_cons,List.mem_nil_iff,or_false]at hc;rcases hc with rfl<;>first|exact⟨⟨Zn2,Znv,Zn3,Zn4⟩,Zn1⟩),mg_of X G Zoh,mg_of X G Zoi,⟨Znn,Znr,Zno,Znp,hn_,htk_,Znq,Zns⟩,mg_of X G Zoj,mg_of X G Zol,⟨Zn9,Zoa,Zob,Zoc,Zod,Zoe,Zof,Zog⟩,⟨Zom,Zon,Zoo⟩,Znt,ZaH (λ_ z=>z) (by intro p hp;simp only [ie_BadTable,List.mem_cons,List.mem_nil_iff,or_false]at hp;rcases hp with rfl<;>first|exact Zny),ZaH (λ_ z=>z) (by intro p hp;simp only [ie_ValueError,List.mem_cons,List.mem_nil_iff,or_false]at hp;rcases hp with rfl<;>first|exact ZnA),ZaH (λ_ z=>z) (by intro p hp;simp only [ie_BadRow,List.mem_cons,List.mem_nil_iff,or_false]at hp;rcases hp with rfl<;>first|exact Znx),ZaH (λ_ z=>z) (by intro p hp;simp only [ie_Unread,List.mem_cons,List.mem_nil_iff,or_false]at hp;rcases hp with rfl<;>first|exact Znz),⟨ZnQ,ZnV,l4.kp⟩,⟨ZnR,ZnW,l3.kp⟩,ZeB (by intro p hp;simp only [ZcD,List.mem_cons,List.mem_nil_iff,or_false]at hp;rcases hp with rfl|rfl|rfl|rfl|rfl|rfl|rfl<;>first|exact ZnB|exact ZnF|exact ZnH|exact ZnL|exact ZnJ|exact ZnN|exact⟨ZnD,⟨Zn2,Znv,Zn3,Zn4⟩,Znu,hn_,htk_,Znw⟩),ZeB (by intro p hp;simp only [Zeh,List.mem_cons,List.mem_nil_iff,or_false]at hp;rcases hp with rfl|rfl|rfl|rfl|rfl|rfl|rfl<;>first|exact ZnC|exact ZnG|exact ZnI|exact ZnM|exact ZnK|exact ZnO|exact⟨ZnE,⟨Zn2,Znv,Zn3,Zn4⟩,Znu,hn_,htk_,Znw⟩)⟩
 obtain⟨_,_,_,_,_,_,_,_,_,rfl,_⟩:=l31.l.ex;exact⟨_,λs v => .of_eq rfl,λbase _ _=>ZjT hall T⟩
theorem walk {l:PySem.W.OpenLaw} {q:Program} {loose:List Str} {XP:(Str->Option Value)->Heap->Prop} {YP:World->Heap->Prop} {d:DefRec} {K:Params->PySem.W.Frag} (hn:l.most=some 63) (hdf:d.params.defaults=[])
 (hY:∀(w:World)(h:Heap),YP w h->(K w.params).In h)
 (F:∀(w:World)(mg:Str->Option Value)(fa:Addr)(h:Heap),(K w.params).In h->h.Ns mainGlobals mg->mg d.name=some (.ref fa) ->
   ∃fd:FuncData,(∀(s:Shared)(u:Value),BindsTo s fd ⟨[u],[]⟩ [("script",u)])/\∀base:Heap,(K w.params).In base->base.Ns mainGlobals mg->FnOk l.prog w (K w.params) mg base CX0 7 fa fd ["script"] (ZfK (K w.params))) :
 PySem.W.WalkO q loose XP YP l.row.toRowW d [] (λf vs=>PySem.call f vs):=
 L2.walk_of (n:=63) (k:=7) (x:="script") (CX:=λ_=>CX0) (sp:=λw=>ZfK (K w.params)) hn (by decide) hdf ⟨rfl,by decide,by decide⟩ hY F (λ_ _ a ns hl _ hS=>⟨a,ns,rfl,hS,hl,λ_=>rfl⟩) λ_ _ _ _ _ z=>z
end K50
open PySem PySem.W PyProof.Rows
set_option maxRecDepth 100000 in
set_option maxHeartbeats 0 in
theorem PySem.Challenge.cw_grooveway_k50_tables_refused_holds : PySem.Challenge.rw_grooveway_k50_tables_refused.Holds := by
 w_on;o_law
 refine holds_open (r:=PySem.Challenge.rw_grooveway_k50_tables_refused.row) (q:=(view PySem.Challenge.pw_grooveway_k50_tables_refused [1,2,3,4,5,7,8,10,12,13,14,15,16,17,18,19,20,21,22,23,24,25,27,28,29,30,31,32,33,34,35,36,37,38,39])) (loose:=[]) (XP:=XL (view PySem.Challenge.pw_grooveway_k50_tables_refused [1,2,3,4,5,7,8,10,12,13,14,15,16,17,18,19,20,21,22,23,24,25,27,28,29,30,31,32,33,34,35,36,37,38,39]) []) (YP:=InK K50.kP) K50.left (InK.of K50.kP_as) InK.keeps (λs e=>xl_of s (Bool.and_eq_true_iff.mp e).1) XL.keeps (by rfl) (by rfl) (by rfl) (λs e=>recFacts_of (Bool.and_eq_true_iff.mp e).2) (by rfl) (by assumption) (by decide +kernel) ⟨rfl,rfl,rfl,rfl,rfl,by decide +kernel⟩ ?hw ?hc
 case hw=>w_witness2
 k_fill
 refine K50.walk (l:=PySem.Challenge.rw_grooveway_k50_tables_refused) rfl rfl (λw h Y=>Y) ?F
 case F=>
  intro w mg fa h KX G hmg;refine' K50.all_mk K50.all_true KX G hmg ..
  any_goals first|k_is|kit_is|rfl|kernel_rfl|decide +kernel|(refine' L2.Fg.of ?_ ?_ ?_ ?_<;>first|k_is|skip)|(refine' L2.fun_mk ?_ ?_ ?_<;>first|k_is|skip)|skip
