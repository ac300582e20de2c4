import PyProof.Rows.All
import Wide.All
import OpenK.AllK
import Wide.FinOn
import Lean
import PyProof.EqAt
import PyProof.EqKinds
import PyProof.TupleCall
import PyProof.Rows.StrCountLaw
import PyProof.Rows.StrFirst
import PyProof.Rows.StrLast
import PyProof.Rows.StrNews2
import PyProof.Rows.StrSplitCount
import PyProof.StrBlockI
import PyProof.StrLawsIn
import PyProof.StrLawsLast
import PyProof.EnumMake
import PyProof.FString
import PyProof.ReprStr
import PyProof.StrLawsRepr
import PyProof.ListStr
import PyProof.ListRange
import PySem.Challenge.RW_grooveway_k49_tables_there_and_back
set_option Elab.async false
set_option linter.all false
set_option maxRecDepth 100000
set_option maxHeartbeats 4000000
open PySem.W (keepIn nsIn mg_of fnOf codeIn kitOne mg_none_of isFn instObj emptyDict)
namespace L2
open PySem PySem.Spec PyProof.Rows
abbrev Key:=Sum Int Str
def Zfk:Key->Value->Bool
 | .inl k,v=>Value.isInt k v
 | .inr x,v=>Value.isStrOf x v
def Zh9(w:World):Key->Int
 | .inl k=>hashInt k
 | .inr x=>hashStr w x
theorem X5:∀{k:Key}{v:Value},Zfk k v=true->(∃i t,k=Sum.inl i/\v=Value.int i t)\/(∃x t,k=Sum.inr x/\v=Value.str x t)
 | .inl i,v,h=>by
  obtain⟨t,e⟩:=Value.isInt_shape (k:=i) (v:=v) h;exact .inl ⟨i,t,rfl,e⟩
 | .inr x,v,h=>by
  obtain⟨t,e⟩:=Value.isStrOf_shape (x:=x) (v:=v) h;exact .inr ⟨x,t,rfl,e⟩
theorem ZfS(a b:Int):decide ((Sum.inl a:Key)=Sum.inl b)=(a == b):=by
 by_cases e:a=b
 · subst e;simp
 · have h:¬(Sum.inl a:Key)=Sum.inl b:=λq=>e (Sum.inl.inj q)
   rw [decide_eq_false h];exact(beq_eq_false_iff_ne.mpr e).symm
theorem ZfT(a b:Str):decide ((Sum.inr a:Key)=Sum.inr b)=decide (a=b):=by
 by_cases e:a=b
 · subst e;simp
 · have h:¬(Sum.inr a:Key)=Sum.inr b:=λq=>e (Sum.inr.inj q)
   rw [decide_eq_false h,decide_eq_false e]
theorem ZfU(a:Int)(b:Str):decide ((Sum.inl a:Key)=Sum.inr b)=false:=decide_eq_false (λq=>nomatch q)
theorem ZfV(a:Str)(b:Int):decide ((Sum.inr a:Key)=Sum.inl b)=false:=decide_eq_false (λq=>nomatch q)
def Zcl(prog:Program)(w:World):PySem.KeyKind prog w Key where
 is:=Zfk
 hash:=Zh9 w
 inj:=λv a b ha hb=>by
  rcases X5 ha with⟨i,t,rfl,rfl⟩|⟨x,t,rfl,rfl⟩
  · rcases X5 hb with⟨j,u,rfl,e⟩|⟨y,u,rfl,e⟩
    · injection e with e1 _;rw [e1]
    · exact nomatch e
  · rcases X5 hb with⟨j,u,rfl,e⟩|⟨y,u,rfl,e⟩
    · exact nomatch e
    · injection e with e1 _;rw [e1]
 byValue:=λk v h=>by
  rcases X5 h with⟨i,t,rfl,rfl⟩|⟨x,t,rfl,rfl⟩<;>rfl
 pyHash:=λhv h=>by
  rcases X5 hv with⟨i,t,rfl,rfl⟩|⟨x,t,rfl,rfl⟩
  · exact wpAny_pyHash_int h
  · exact wpAny_pyHash_str h
 eqBool:=λhu hv h=>by
  rcases X5 hu with⟨i,t,rfl,rfl⟩|⟨x,t,rfl,rfl⟩
  · rcases X5 hv with⟨j,u,rfl,rfl⟩|⟨y,u,rfl,rfl⟩
    · rw [ZfS]at h;exact wpAny_eqBool_int h
    · rw [ZfU]at h;exact SeqAt.EqAt.int_str i t y u _ _ _ _ h
  · rcases X5 hv with⟨j,u,rfl,rfl⟩|⟨y,u,rfl,rfl⟩
    · rw [ZfV]at h;exact SeqAt.EqAt.str_int x t j u _ _ _ _ h
    · rw [ZfT]at h;exact wpAny_eqBool_str h
 «strs» := λk x t v h=>by
  rcases X5 h with⟨i,u,rfl,e⟩|⟨y,u,rfl,e⟩
  · exact nomatch e
  · injection e with e1 _
    subst e1;cases v<;>rfl
end L2
namespace L2
open PySem PySem.Spec PyProof.Rows
inductive V where
 |non|bl (b:Bool)|int (i:Int)|str (x:Str)|byt (b:Array UInt8)|flt (b:UInt64)|ref (a:Addr)|ty (n:String)
 deriving DecidableEq
def RelV:V->Value->Prop
 | .non,u=>u=Value.none
 | .bl b,u=>u=Value.bool b
 | .int i,u=>∃t,u=Value.int i t
 | .str x,u=>∃t,u=Value.str x t
 | .byt b,u=>∃t,u=Value.bytes b t
 | .flt b,u=>∃t,u=Value.float b t
 | .ref a,u=>u=Value.ref a
 | .ty n,u=>u=Value.type n
abbrev Vals:List V->List Value->Prop:=Paired RelV
theorem Vals.length{xs:List V}{us:List Value}(r:Vals xs us):xs.length=us.length:=Paired.length r
theorem Vals.get:∀{xs:List V}{us:List Value}{i:Nat}{x:V},Vals xs us->xs[i]? = some x->∃u,us[i]? = some u/\RelV x u
 |_,_,_,_,.nil,e=>by simp at e
 |_,_,0,_,.cons r _,e=>by simp at e;subst e;exact⟨_,rfl,r⟩
 |_,_,i+1,x,.cons _ t,e=>by
  obtain⟨u,h1,h2⟩:=Vals.get (i:=i) (x:=x) t (by simpa using e);exact⟨u,by simpa using h1,h2⟩
theorem Vals.set{x:V}{u:Value}(r:RelV x u):∀{xs:List V}{us:List Value}(i:Nat),Vals xs us->Vals (xs.set i x) (us.set i u)
 |_,_,_,.nil => .nil
 |_,_,0,.cons _ t => .cons r t
 |_,_,i+1,.cons q t => .cons q (Vals.set r i t)
theorem Vals.append:∀{xs ys:List V}{us ws:List Value},Vals xs us->Vals ys ws->Vals (xs++ys) (us++ws)
 |_,_,_,_,.nil,s=>s
 |_,_,_,_,.cons r t,s => .cons r (Vals.append t s)
theorem Vals.take:∀{xs:List V}{us:List Value}(n:Nat),Vals xs us->Vals (xs.take n) (us.take n)
 |_,_,0,_ => .nil
 |_,_,_+1,.nil => .nil
 |_,_,n+1,.cons r t => .cons r (Vals.take n t)
theorem Vals.drop:∀{xs:List V}{us:List Value}(n:Nat),Vals xs us->Vals (xs.drop n) (us.drop n)
 |_,_,0,r=>r
 |_,_,_+1,.nil => .nil
 |_,_,n+1,.cons _ t=>Vals.drop n t
def RelO:Option V->Option Value->Prop
 |some v,some u=>RelV v u
 |none,none=>True
 |_,_=>False
def KV{κ:Type}:List (κ×V)->List (κ×Value)->Prop:=Paired λ(p:κ×V) (q:κ×Value)=>p.1=q.1/\RelV p.2 q.2
def kV:Key->V
 | .inl i => .int i
 | .inr x => .str x
inductive HO where
 |lst (xs:List V)
 |tup (xs:List V)
 |dK (kvs:List (Key×V))|dT (kvs:List (List Key×V))
 |set (S:Int->Bool) (n:Nat)
 |ins (C dx:Addr) (fs:List (Str×V))
 |own (x:Addr)
 |xd (fs:List (Str×V))
 |met (f x:Addr)
 |rng (lo hi:Int)
 |frz (o:Obj) (u:HO)
 |tbl (ps:Array Value)
 |ext (φ:Heap->Prop)
abbrev Hp:=Addr->Option HO
def upd(H:Hp)(a:Addr)(o:HO):Hp:=λb=>if b=a then some o else H b
theorem ZS{H:Hp}{a:Addr}{o:HO}:upd H a o a=some o:=by unfold upd;rw [if_pos rfl]
theorem ZF{H:Hp}{a b:Addr}{o:HO}(h:b≠a):upd H a o b=H b:=by unfold upd;rw [if_neg h]
theorem YN{H:Hp}{a b:Addr}{o:HO}(h:H a=some o)(h':H b=none):a≠b:=by
 intro e;subst e;rw [h]at h';cases h'
def TupN(h:Heap)(a:Addr)(its:Array Value):Prop:=∃o,h.get? a=some o/\o.cls = .type "tuple" /\ (∃n,o.data = .seq its n)/\o.dict=none
theorem TupN.tup{h:Heap}{a:Addr}{its:Array Value}(x:TupN h a its):IsTup h a its:=let⟨o,e,c,d,_⟩:=x;⟨o,e,c,d⟩
theorem TupN.new(h:Heap)(its:Array Value):TupN (h.push { cls := .type "tuple",data := .seq its }) h.objs.size its:=⟨_,Heap.get?_push_size _ rfl,rfl,⟨_,rfl⟩,rfl⟩
section
variable(P:Program)(w:World)
def ObjOk(H:Hp)(h:Heap)(a:Addr):HO->Prop
 | .lst xs=>xs.length<=sizeLine/\∃(its:List Value) (n:Nat),Vals xs its/\h.get? a=some { cls := .type "list",data := .seq its.toArray n }
 | .tup xs=>xs.length<=sizeLine/\∃its:List Value,Vals xs its/\TupN h a its.toArray
 | .dK kvs=>kvs.length<=sizeLine/\(a == sysModules)=false/\∃vs,KV kvs vs/\h.DictOf (Zcl P w) a vs
 | .dT kvs=>kvs.length<=sizeLine/\(a == sysModules)=false/\∃xs:List (List Key×Addr×Value),
  Paired (λ(p:List Key×V) (q:List Key×Addr×Value)=>p.1=q.1/\H q.2.1=some (.tup (p.1.map kV))/\RelV p.2 q.2.2) kvs xs /\
  ∃o es ep,h.get? a=some o/\o.ExactDict/\o.data = .dict es ep/\es.toList=xs.map (entryOfKey (tupleKind (Zcl P w)))/\(xs.map (·.1)).Nodup
 | .set S n=>h.SetOf (intKind P w) a S n
 | .ins C dx fs=>H dx=some (.own a)/\fs.length<=1000/\dx≠a/\h.get? a=some (instObj C dx) /\
  ∃mA,h.Ns1 dx mA/\(∀f,RelO (fs.lookup f) (mA f))/\PySem.Within mA (fs.map (·.1))
 | .own _=>∃o,h.get? a=some o
 | .xd fs=>∃mA,h.Ns1 a mA/\∀f,RelO (fs.lookup f) (mA f)
 | .rng lo hi=>∃t u v,h.get? a=some { cls := .type "range",data := .fields #[.int lo t,.int hi u,.int 1 v] }
 | .frz o u=>h.get? a=some o/\ObjOk H h a u
 | .tbl ps=>h.get? a=some { cls := .none,data := .fields ps }
 | .met f x=>h.get? a=some (PySem.W.methodObj (.ref f) (.ref x))
 | .ext φ=>φ h/\(∃o,h.get? a=some o)/\∀h1 h2:Heap,φ h1->(∀o,h1.get? a=some o->h2.get? a=some o)->φ h2
def HOk(H:Hp)(h:Heap):Prop:=∀a o,H a=some o->ObjOk P w H h a o
end
section
variable{P:Program}{w:World}{H H':Hp}{h h':Heap}{a:Addr}{o:HO}
theorem ObjOk.lt(x:ObjOk P w H h a o):a<h.objs.size:=by
 cases o with
 |lst xs=>obtain⟨_,_,_,_,e⟩:=x;exact Heap.lt_size e
 |tup xs=>obtain⟨_,_,_,p⟩:=x;exact p.tup.lt
 |dK kvs=>obtain⟨_,_,_,_,o,_,_,e,_⟩:=x;exact Heap.lt_size e
 |dT kvs=>obtain⟨_,_,_,_,o,_,_,e,_⟩:=x;exact Heap.lt_size e
 |set S n=>obtain⟨o,_,_,_,e,_⟩:=x;exact Heap.lt_size e
 |ins C dx fs=>obtain⟨_,_,_,e,_⟩:=x;exact Heap.lt_size e
 |own y=>obtain⟨_,e⟩:=x;exact Heap.lt_size e
 |xd fs=>obtain⟨_,⟨_,_,_,e,_⟩,_⟩:=x;exact Heap.lt_size e
 |rng lo hi=>obtain⟨_,_,_,e⟩:=x;exact Heap.lt_size e
 |frz ob u=>obtain⟨e,_⟩:=x;exact Heap.lt_size e
 |tbl ps=>exact Heap.lt_size (show h.get? a=some _ from x)
 |met f y=>exact Heap.lt_size (show h.get? a=some _ from x)
 |ext φ=>obtain⟨_,⟨_,e⟩,_⟩:=x;exact Heap.lt_size e
theorem Paired.mapP{α β:Type}{F G:α->β->Prop}:∀{l₁:List α}{l₂:List β},Paired F l₁ l₂->(∀a b,F a b->G a b)->Paired G l₁ l₂
 |_,_,.nil,_ => .nil
 |_,_,.cons r t,f => .cons (f _ _ r) (Paired.mapP t f)
theorem ObjOk.stay (x:ObjOk P w H h a o) (k:∀b u,(b=a\/H b=some (.own a))->h.get? b=some u->h'.get? b=some u)
 (ho:∀b,H b=some (.own a)->H' b=some (.own a)) (ht:∀b xs,H b=some (.tup xs)->H' b=some (.tup xs)):ObjOk P w H' h' a o:=by
 induction o with
 |lst xs=>obtain⟨z,its,n,r,e⟩:=x;exact⟨z,its,n,r,k _ _ (.inl rfl) e⟩
 |tup xs=>obtain⟨z,its,r,ob,e,c⟩:=x;exact⟨z,its,r,ob,k _ _ (.inl rfl) e,c⟩
 |dK kvs=>obtain⟨z,y,vs,r,ob,es,ep,e,c⟩:=x;exact⟨z,y,vs,r,ob,es,ep,k _ _ (.inl rfl) e,c⟩
 |dT kvs=>
  obtain⟨z,y,xs,r,ob,es,ep,e,c⟩:=x;exact⟨z,y,xs,Paired.mapP r λp q z=>⟨z.1,ht _ _ z.2.1,z.2.2⟩,ob,es,ep,k _ _ (.inl rfl) e,c⟩
 |set S n=>obtain⟨ob,es,ep,t,e,c⟩:=x;exact⟨ob,es,ep,t,k _ _ (.inl rfl) e,c⟩
 |ins C dx fs=>
  obtain⟨d,z,ne,e,mA,⟨od,es,ep,e2,c⟩,r⟩:=x;exact⟨ho _ d,z,ne,k _ _ (.inl rfl) e,mA,⟨od,es,ep,k _ _ (.inr d) e2,c⟩,r⟩
 |own y=>obtain⟨ob,e⟩:=x;exact⟨ob,k _ _ (.inl rfl) e⟩
 |xd fs=>obtain⟨mA,⟨od,es,ep,e,c⟩,r⟩:=x;exact⟨mA,⟨od,es,ep,k _ _ (.inl rfl) e,c⟩,r⟩
 |rng lo hi=>obtain⟨t,u,v,e⟩:=x;exact⟨t,u,v,k _ _ (.inl rfl) e⟩
 |frz ob u ih=>obtain⟨e,q⟩:=x;exact⟨k _ _ (.inl rfl) e,ih q⟩
 |tbl ps=>
  have e:h.get? a=some { cls := .none,data := .fields ps }:=x;show h'.get? a=some { cls := .none,data := .fields ps };exact k a _ (.inl rfl) e
 |met f y=>
  have e:h.get? a=some (PySem.W.methodObj (.ref f) (.ref y)):=x;show h'.get? a=some (PySem.W.methodObj (.ref f) (.ref y));exact k a _ (.inl rfl) e
 |ext φ=>obtain⟨p,⟨o,e⟩,st⟩:=x;exact⟨st _ _ p λo q=>k _ _ (.inl rfl) q,⟨o,k _ _ (.inl rfl) e⟩,st⟩
theorem HOk.lt(x:HOk P w H h)(e:H a=some o):a<h.objs.size:=(x a o e).lt
theorem HOk.fresh(x:HOk P w H h)(e:h.objs.size<=a):H a=none:=by
 cases q:H a with
 |none=>rfl
 |some u=>exact absurd (Nat.lt_of_lt_of_le (x.lt q) e) (Nat.lt_irrefl _)
theorem HOk.kept(x:HOk P w H h)(k:∀b u,h.get? b=some u->h'.get? b=some u):HOk P w H h':=λa o e=>
 (x a o e).stay (λb u _ q=>k b u q) (λ_ q=>q) λ_ _ q=>q
theorem HOk.laid(x:HOk P w H h)(k:∀b u,h.get? b=some u->h'.get? b=some u)(hp:h.objs.size<=a)(new:ObjOk P w (upd H a o) h' a o):HOk P w (upd H a o) h':=λb u e=>by
 have hn:=x.fresh hp
 by_cases hb:b=a
 · subst hb;rw [ZS]at e;cases e;exact new
 · rw [ZF hb]at e
   exact(x b u e).stay (λc v _ q=>k c v q) (λc q=>by rw [ZF (YN q hn)];exact q) λc xs q=>by rw [ZF (YN q hn)];exact q
end
def Rd(H:Hp)(a:Addr)(u:HO):Prop:=H a=some u\/∃o,H a=some (.frz o u)
theorem Rd.ok{P:Program}{w:World}{H:Hp}{h:Heap}{a:Addr}{u:HO}(r:Rd H a u)(x:HOk P w H h):ObjOk P w H h a u:=by
 rcases r with r|⟨o,r⟩
 · exact x a u r
 · obtain⟨_,q⟩:=x a _ r
   exact q
def Mut:Option HO->Prop
 |some (.lst _)=>True
 |some (.dK _)=>True
 |some (.dT _)=>True
 |some (.set _ _)=>True
 |some (.ins _ _ _)=>True
 |some (.ext _)=>True
 |_=>False
section
variable{P:Program}{w:World}{H:Hp}{h h':Heap}{x e:Addr}{o':HO}
theorem HOk.write (ok:HOk P w H h) (mu:Mut (H x)) (he:e=x\/H e=some (.own x)) (k:∀b u,b≠e->h.get? b=some u->h'.get? b=some u) (heo:∃u,h'.get? e=some u)
 (new:ObjOk P w (upd H x o') h' x o'):HOk P w (upd H x o') h':=λb u q=>by
 have nown:∀c y,H c=some (.own y)->c≠x:=λc y r z=>by subst z;rw [r]at mu;exact mu
 have ntup:∀c xs,H c=some (.tup xs)->c≠x:=λc xs r z=>by subst z;rw [r]at mu;exact mu
 by_cases hb:b=x
 · subst hb;rw [ZS]at q;cases q;exact new
 · rw [ZF hb]at q
   by_cases hbe:b=e
   · have q' : H b = some (.own x) := by
      rcases he with z|z
      · exact absurd (hbe.trans z) hb
      · rw [hbe];exact z
     rw [q]at q';cases q';obtain⟨v,hv⟩:=heo;exact⟨v,by rw [hbe];exact hv⟩
   · refine(ok b u q).stay (λc v hc r=>k c v ?_ r) (λc r=>by rw [ZF (nown c b r)];exact r) λc xs r=>by rw [ZF (ntup c xs r)];exact r
     rcases hc with rfl|hc
     · exact hbe
     · rintro rfl
       rcases he with z|z
       · exact nown c b hc z
       · rw [hc]at z;cases z;exact hb rfl
end
structure Un(fs ex:List Addr)(H H':Hp)(h h':Heap):Prop where
 keep:∀b o,h.get? b=some o->H b=none->b∉fs->b∉ex->h'.get? b=some o
 slot:∀b o,h.get? b=some o->H b=none->b∈fs->b∉ex->∃sl,h'.get? b=some { o with slots:=sl }
 free:∀b o,h.get? b=some o->H b=none->b∉ex->H' b=none
 there:∀b o,h.get? b=some o->b∉ex->∃o',h'.get? b=some o'
 tups:∀b xs,H b=some (.tup xs)->H' b=some (.tup xs)
 frzs:∀b o u,H b=some (.frz o u)->H' b=some (.frz o u)
 tbls:∀b ps,H b=some (.tbl ps)->∃more,H' b=some (.tbl (ps++more))
section
variable{fs fs' ex ex':List Addr}{H H1 H2:Hp}{h h1 h2 h':Heap}{a x e:Addr}{o:HO}
theorem Un.any(u:Un fs ex H H1 h h1){b:Addr}{ob:Obj}(q:h.get? b=some ob)(n:H b=none)(hx:b∉ex):∃sl,h1.get? b=some { ob with slots:=sl }:=by
 by_cases hb:b∈fs
 · exact u.slot b ob q n hb hx
 · exact⟨ob.slots,u.keep b ob q n hb hx⟩
theorem Un.trans(a:Un fs ex H H1 h h1)(b:Un fs ex H1 H2 h1 h2):Un fs ex H H2 h h2 where
 keep:=λc ob q n hc hx=>b.keep c ob (a.keep c ob q n hc hx) (a.free c ob q n hx) hc hx
 slot:=λc ob q n hc hx=>by
  obtain⟨sl,e1⟩:=a.slot c ob q n hc hx;obtain⟨sl',e2⟩:=b.slot c _ e1 (a.free c ob q n hx) hc hx;exact⟨sl',e2⟩
 free:=λc ob q n hx=>by
  obtain⟨o',e1⟩:=a.there c ob q hx;exact b.free c o' e1 (a.free c ob q n hx) hx
 there:=λc ob q hx=>by
  obtain⟨o',e1⟩:=a.there c ob q hx;exact b.there c o' e1 hx
 tups:=λc xs q=>b.tups c xs (a.tups c xs q)
 frzs:=λc ob xs q=>b.frzs c ob xs (a.frzs c ob xs q)
 tbls:=λc ps q=>by
  obtain⟨m1,e1⟩:=a.tbls c ps q;obtain⟨m2,e2⟩:=b.tbls c _ e1;exact⟨m1++m2,by rw [e2,Array.append_assoc]⟩
theorem Un.kept(k:∀b u,h.get? b=some u->h'.get? b=some u):Un fs ex H H h h':=
 ⟨λb ob q _ _ _=>k b ob q,λb ob q _ _ _=>⟨ob.slots,k b ob q⟩,λ_ _ _ n _=>n,λb ob q _=>⟨ob,k b ob q⟩,λ_ _ q=>q,λ_ _ _ q=>q,λ_ ps q=>⟨#[],by rw [q];simp⟩⟩
theorem Un.refl:Un fs ex H H h h:=Un.kept λ_ _ q=>q
theorem Un.laid(k:∀b u,h.get? b=some u->h'.get? b=some u)(hp:h.objs.size<=a)(hn:H a=none):Un fs ex H (upd H a o) h h' where
 keep:=λb u q _ _ _=>k b u q
 slot:=λb u q _ _ _=>⟨u.slots,k b u q⟩
 free:=λb u q n _=>by rw [ZF (Nat.ne_of_lt (Nat.lt_of_lt_of_le (Heap.lt_size q) hp))];exact n
 there:=λb u q _=>⟨u,k b u q⟩
 tups:=λb xs q=>by rw [ZF (YN q hn)];exact q
 frzs:=λb u xs q=>by rw [ZF (YN q hn)];exact q
 tbls:=λb ps q=>⟨#[],by rw [ZF (YN q hn),q];simp⟩
theorem Un.write(mu:Mut (H x))(he:e=x\/H e=some (.own x))(k:∀b u,b≠e->h.get? b=some u->h'.get? b=some u)(heo:∃u,h'.get? e=some u):Un fs ex H (upd H x o) h h':=by
 have hx:∀b,H b=none->b≠x:=λb n z=>by subst z;rw [n]at mu;exact mu
 have hb:∀b,H b=none->b≠e:=λb n z=>by
  subst z;rcases he with r|r
  · exact hx b n r
  · rw [n]at r;cases r
 have hm:∀b u,H b=some u->¬Mut (some u)->b≠x:=λb u q nm z=>by subst z;rw [q]at mu;exact nm mu
 refine⟨λb u q n _ _=>k b u (hb b n) q,λb u q n _ _=>⟨u.slots,k b u (hb b n) q⟩,λb u q n _=>by rw [ZF (hx b n)];exact n,λb u q _ => ?_,
  λb xs q=>by rw [ZF (hm b _ q λz=>z)];exact q,λb u xs q=>by rw [ZF (hm b _ q λz=>z)];exact q,λb ps q=>⟨#[],by rw [ZF (hm b _ q λz=>z),q];simp⟩⟩
 by_cases hbe:b=e
 · subst hbe;exact heo
 · exact⟨u,k b u hbe q⟩
end
def trk(h:Heap)(H:Hp):List Addr:=(List.range h.objs.size).filter λa=>(H a).isSome
def X6(h:Heap)(H:Hp):Heap:=PySem.W.hideAll h (trk h H)
theorem ZcV(h:Heap)(H:Hp):(X6 h H).objs.size=h.objs.size:=PySem.W.hideAll_size _ _
theorem Zdo{h:Heap}{H:Hp}{b:Addr}{o:Obj}(e:h.get? b=some o)(n:H b=none):(X6 h H).get? b=some o:=
 PySem.W.hideAll_get _ e λhm=>by
  have q:(H b).isSome=true:=(List.mem_filter.mp hm).2;rw [n]at q;simp at q
theorem Zev{h:Heap}{H:Hp}{b:Addr}{o:Obj}(e:(X6 h H).get? b=some o):h.get? b=some o/\H b=none:=by
 have e':h.get? b=some o:=PySem.W.of_hideAll (trk h H) e;refine⟨e',?_⟩;cases q:H b with
 |none=>rfl
 |some x=>
  have hm:b∈trk h H:=List.mem_filter.mpr ⟨List.mem_range.mpr (Heap.lt_size e'),by simp [q]⟩;have z:(X6 h H).get? b=none:=PySem.W.hideAll_none (trk h H) hm;rw [z]at e;cases e
end L2
namespace L2
open PySem PySem.Spec PyProof.Rows
structure Mod(K:PySem.W.Frag)(mg:Str->Option Value)(base:Heap):Prop where
 kin:K.In base
 glob:base.Ns mainGlobals mg
 blt:∃mb,base.Ns builtinsNs mb/\∀x:Str,x ≠ "__name__" -> mb x=bootBuiltins x
 nolimit:base.NoLimit
structure Cx where
 prog:Program
 w:World
 K:PySem.W.Frag
 mg:Str->Option Value
 base:Heap
 A:Around
 N:List Str
 s₀:Shared
 H₀:Hp
 env:Env
 outer:List Env
 stack:List Env
 ex:List Addr
 fn:Str->Bool
 calm:Bool
 pn:List (Addr×Obj)
 xe:Value->Shared->Prop
def frs(l:List Env):List Addr:=l.filterMap (·.frame)
abbrev Cx.fs(X:Cx):List Addr:=frs X.outer
def Vis(sc:Scope)(x:Str):Prop:=sc.names.lookup x=some .local\/sc.names.lookup x=some .cell\/sc.names.lookup x=some .free
def Loc(sc:Scope)(x:Str):Prop:=sc.names.lookup x=some .local\/sc.names.lookup x=some .cell
def ZhH(env:Env)(h:Heap)(m:Str->Option Value)(x:Str)(u:Value):Prop:=
 (env.kindOf x=some .local/\m x=some u)\/((env.kindOf x=some .cell\/env.kindOf x=some .free)/\∃c,env.cells.lookup x=some c/\h.IsCell c (some u))
structure Cx.Ok(X:Cx):Prop where
 mod:Mod X.K X.mg X.base
 kind:X.env.scope.kind = .function
 glob:X.env.globals=mainGlobals
 blt:X.env.builtins=builtinsNs
 above:X.s₀.heap.objs.size<=X.env.locals
 inj:∀x y c,X.env.cells.lookup x=some c->X.env.cells.lookup y=some c->x=y
 has:∀x,(X.env.kindOf x=some .cell\/X.env.kindOf x=some .free)->∃c,X.env.cells.lookup x=some c
 cab:∀x c,X.fn x=true->X.env.cells.lookup x=some c->X.s₀.heap.objs.size<=c
 hd:X.calm=true->X.A.handled=none
 frames:X.A.frames=some X.stack
 stk:X.stack=X.outer\/(X.stack=X.env::X.outer/\X.env.frame=some X.env.locals)
 exf:∀b∈X.ex,b≠X.env.locals/\∀x c,X.env.cells.lookup x=some c->c≠b
 bs:∀b o,X.base.get? b=some o->X.s₀.heap.get? b=some o/\X.H₀ b=none
 bsz:X.base.objs.size<=X.s₀.heap.objs.size
 noex:∀b o,X.base.get? b=some o->b∉X.ex
 exfs:∀b∈X.ex,b∉X.fs
 funs:X.s₀.heap.FunFrames X.base X.outer
 frf:∀b∈X.fs,X.H₀ b=none
structure Inv(X:Cx)(pins:List (Addr×Obj))(σ:List (Option V))(H:Hp)(s:Shared):Prop where
 ok:X.Ok
 os:s.os=X.s₀.os
 bare:AllBare s.gens
 base:Un X.fs X.ex X.H₀ H X.s₀.heap s.heap
 loc:∃m,s.heap.Ns X.env.locals m/\∀(i:Nat)(x:Str)(v:V),X.N[i]? = some x->σ[i]? = some (some v)->Vis X.env.scope x->∃u,RelV v u/\ZhH X.env s.heap m x u
 cell:∀x c,X.env.cells.lookup x=some c->∃v,s.heap.IsCell c v
 free:H X.env.locals=none
 freeC:∀x c,X.env.cells.lookup x=some c->H c=none
 pin:∀p∈X.pn++pins,s.heap.get? p.1=some p.2/\H p.1=none/\p.1≠X.env.locals/\p.1∉X.fs/\∀v,p.2.data ≠ .cell v
 hok:HOk X.prog X.w H s.heap
 len:σ.length=X.N.length
section
variable{X:Cx}{pins:List (Addr×Obj)}{σ:List (Option V)}{H H':Hp}{s:Shared}{h':Heap}
theorem Cx.Ok.nofr(ok:X.Ok){b:Addr}{o:Obj}(e:X.base.get? b=some o):b∉X.fs:=λhb=>by
 have:=(ok.funs.mem hb).1;rw [e]at this;cases this
theorem Inv.bs(I:Inv X pins σ H s):∀b o,X.base.get? b=some o->s.heap.get? b=some o/\H b=none:=λb o e=>
 ⟨I.base.keep b o (I.ok.bs b o e).1 (I.ok.bs b o e).2 (I.ok.nofr e) (I.ok.noex b o e),I.base.free b o (I.ok.bs b o e).1 (I.ok.bs b o e).2 (I.ok.noex b o e)⟩
theorem Inv.bk(I:Inv X pins σ H s):∀b o,X.base.get? b=some o->s.heap.get? b=some o:=λb o e=>(I.bs b o e).1
theorem Inv.mod(I:Inv X pins σ H s):Mod X.K X.mg X.base:=I.ok.mod
theorem Inv.kIn(I:Inv X pins σ H s):X.K.In s.heap:=I.ok.mod.kin.keeps I.bk
theorem Inv.nolimit(I:Inv X pins σ H s):s.heap.NoLimit:=I.ok.mod.nolimit.keeps I.bk
theorem Inv.fr(I:Inv X pins σ H s):∃m,Fr X.base X.env.locals s.heap m:=
 let⟨m,hn,_⟩:=I.loc
 ⟨m,hn,I.bk,Nat.le_trans I.ok.bsz I.ok.above⟩
theorem Inv.lt(I:Inv X pins σ H s):X.env.locals<s.heap.objs.size:=let⟨_,hn,_⟩:=I.loc;hn.lt
theorem Inv.sz(I:Inv X pins σ H s):X.s₀.heap.objs.size<=s.heap.objs.size:=Nat.le_trans I.ok.above (Nat.le_of_lt I.lt)
theorem Inv.nofs(I:Inv X pins σ H s){a:Addr}(h:s.heap.objs.size<=a):a∉X.fs:=λhb=>by
 obtain⟨_,o,ho,_⟩:=I.ok.funs.mem hb;exact absurd (Nat.lt_of_lt_of_le (Heap.lt_size ho) (Nat.le_trans I.sz h)) (Nat.lt_irrefl _)
theorem Inv.cne(I:Inv X pins σ H s):∀x c,X.env.cells.lookup x=some c->c≠X.env.locals:=λx c e z=>by
 obtain⟨v,o,ho,hd⟩:=I.cell x c e;obtain⟨m,⟨o',es,ep,ho',hd',_⟩,_⟩:=I.loc;rw [z,ho']at ho;cases ho;rw [hd']at hd;cases hd
theorem Inv.funs(I:Inv X pins σ H s):s.heap.FunFrames X.base X.outer:=by
 have all:∀(l:List Env),(∀b∈frs l,b∈X.fs)->X.s₀.heap.FunFrames X.base l->s.heap.FunFrames X.base l:=by
  intro l
  induction l with
  |nil=>intro _ _;trivial
  |cons env r ih=>
   intro hs hl;obtain⟨hk,⟨L,o,hf,hn,ho,hd⟩,hr⟩:=hl;have hL:L∈X.fs:=hs L (by unfold frs;rw [List.filterMap_cons,hf];exact List.mem_cons_self);obtain⟨sl,e⟩:=I.base.slot L o ho (I.ok.frf L hL) hL λz=>I.ok.exfs L z hL
   exact⟨hk,⟨L,_,hf,hn,e,hd⟩,ih (λb hb=>hs b (by unfold frs;rw [List.filterMap_cons,hf];exact List.mem_cons_of_mem _ hb)) hr⟩
 exact all X.outer (λ_ hb=>hb) I.ok.funs
theorem Inv.stack(I:Inv X pins σ H s):s.heap.FunFrames X.base X.stack:=by
 rcases I.ok.stk with e|⟨e,hf⟩
 · rw [e];exact I.funs
 · rw [e]
   obtain⟨m,hn,_⟩:=I.loc;refine .cons (by rw [I.ok.kind];decide) hf hn ?_ I.funs;exact Heap.get?_none_of_le (Nat.le_trans I.ok.bsz I.ok.above)
theorem Inv.stkSub(I:Inv X pins σ H s):∀b∈frs X.stack,b∈X.env.locals::X.fs:=λb hb=>by
 rcases I.ok.stk with e|⟨e,hf⟩
 · rw [e]at hb;exact List.mem_cons_of_mem _ hb
 · rw [e]at hb
   unfold frs at hb;rw [List.filterMap_cons,hf]at hb;exact hb
theorem Inv.stkFree(I:Inv X pins σ H s):∀b∈frs X.stack,H b=none:=λb hb=>by
 rcases List.mem_cons.mp (I.stkSub b hb)with e|hb
 · rw [e];exact I.free
 · obtain⟨_,o,ho,_⟩:=I.ok.funs.mem hb
   exact I.base.free b o ho (I.ok.frf b hb) λz=>I.ok.exfs b z hb
theorem Inv.step {g':Array GenState} {t':Nat} {d':Drawn} {ch:List Addr} (I:Inv X pins σ H s)
 (hch:∀b∈ch,(b∈X.ex\/X.s₀.heap.objs.size<=b)/\b≠X.env.locals/\(∀x c,X.env.cells.lookup x=some c->c≠b)/\∀p∈X.pn++pins,p.1≠b)
 (keep:∀b o,b≠X.env.locals->b∉X.fs->b∉ch->s.heap.get? b=some o->H b=none->h'.get? b=some o)
 (slot:∀b o,b≠X.env.locals->b∈X.fs->b∉ch->s.heap.get? b=some o->H b=none->∃sl,h'.get? b=some { o with slots:=sl }) (free:∀b o,b∉ch->s.heap.get? b=some o->H b=none->H' b=none)
 (there:∀b o,b∉ch->s.heap.get? b=some o->∃o',h'.get? b=some o')
 (tups:∀b xs,H b=some (.tup xs)->H' b=some (.tup xs)) (frzs:∀b o u,H b=some (.frz o u)->H' b=some (.frz o u)) (tbls:∀b ps,H b=some (.tbl ps)->∃more,H' b=some (.tbl (ps++more)))
 (ns:∀m,s.heap.Ns X.env.locals m->h'.Ns X.env.locals m) (hok:HOk X.prog X.w H' h') (hg:AllBare g') :
 Inv X pins σ H' { s with heap:=h',gens:=g',drawn:=d',toks:=t' }:=by
 have neL:∀b o,X.s₀.heap.get? b=some o->b≠X.env.locals:=λb o e=>Nat.ne_of_lt (Nat.lt_of_lt_of_le (Heap.lt_size e) I.ok.above)
 have neC:∀b o,X.s₀.heap.get? b=some o->b∉X.ex->b∉ch:=λb o e hx hb=>by
  rcases(hch b hb).1 with z|z
  · exact hx z
  · exact absurd (Nat.lt_of_lt_of_le (Heap.lt_size e) z) (Nat.lt_irrefl _)
 have cellK:∀x c,X.env.cells.lookup x=some c->∀v,s.heap.IsCell c v->h'.IsCell c v:=λx c e v ⟨o,ho,hd⟩=>by
  have nch:c∉ch:=λz=>(hch c z).2.2.1 x c e rfl
  by_cases hc:c∈X.fs
  · obtain⟨sl,q⟩:=slot c o (I.cne x c e) hc nch ho (I.freeC x c e)
    exact⟨_,q,hd⟩
  · exact⟨o,keep c o (I.cne x c e) hc nch ho (I.freeC x c e),hd⟩
 refine⟨I.ok,I.os,hg,⟨λb o e n hb hx => ?_,λb o e n hb hx => ?_,λb o e n hx => ?_,λb o e hx => ?_,λb xs e=>tups b xs (I.base.tups b xs e),λb o xs e=>frzs b o xs (I.base.frzs b o xs e),λb ps e => ?_⟩,?_,λx c e => ?_,?_,λx c e => ?_,λp hp => ?_,hok,I.len⟩
 · exact keep b o (neL b o e) hb (neC b o e hx) (I.base.keep b o e n hb hx) (I.base.free b o e n hx)
 · obtain⟨sl,e1⟩:=I.base.slot b o e n hb hx
   obtain⟨sl',e2⟩:=slot b _ (neL b o e) hb (neC b o e hx) e1 (I.base.free b o e n hx);exact⟨sl',e2⟩
 · obtain⟨o',e1⟩:=I.base.there b o e hx
   exact free b o' (neC b o e hx) e1 (I.base.free b o e n hx)
 · obtain⟨o',e1⟩:=I.base.there b o e hx
   exact there b o' (neC b o e hx) e1
 · obtain⟨m1,e1⟩:=I.base.tbls b ps e
   obtain⟨m2,e2⟩:=tbls b _ e1;exact⟨m1++m2,by rw [e2,Array.append_assoc]⟩
 · obtain⟨m,hn,hl⟩:=I.loc
   refine⟨m,ns m hn,λi x v e1 e2 e3 => ?_⟩;obtain⟨u,r,l⟩:=hl i x v e1 e2 e3;refine⟨u,r,?_⟩;rcases l with l|⟨k,c,e,z⟩
   · exact .inl l
   · exact .inr ⟨k,c,e,cellK x c e _ z⟩
 · obtain⟨v,z⟩:=I.cell x c e
   exact⟨v,cellK x c e v z⟩
 · obtain⟨m,⟨o,_,_,ho,_⟩,_⟩:=I.loc
   exact free _ o (λz=>(hch _ z).2.1 rfl) ho I.free
 · obtain⟨v,o,ho,hd⟩:=I.cell x c e
   exact free c o (λz=>(hch c z).2.2.1 x c e rfl) ho (I.freeC x c e)
 · obtain⟨e,n,ne,nf,d⟩:=I.pin p hp
   have nch:p.1∉ch:=λz=>(hch p.1 z).2.2.2 p hp rfl
   exact⟨keep p.1 p.2 ne nf nch e n,free p.1 p.2 nch e n,ne,nf,d⟩
theorem Inv.un{t':Nat}(I:Inv X pins σ H s)(u:Un X.fs [] H H' s.heap h')(hok:HOk X.prog X.w H' h'):Inv X pins σ H' { s with heap:=h',toks:=t' }:=by
 obtain⟨m,⟨o,es,ep,ho,r⟩,_⟩:=id I.loc;obtain⟨sl,hL⟩:=u.any ho I.free (by simp)
 exact I.step (g':=s.gens) (d':=s.drawn) (ch:=[]) (λ_ z=>nomatch z) (λb o _ hb _ e n=>u.keep b o e n hb (by simp)) (λb o _ hb _ e n=>u.slot b o e n hb (by simp)) (λb o _ e n=>u.free b o e n (by simp)) (λb o _ e=>u.there b o e (by simp)) u.tups u.frzs u.tbls (λm' hm=>by
  obtain⟨o',es',ep',ho',r'⟩:=hm;rw [ho]at ho';cases ho';exact⟨_,es',ep',hL,r'⟩) hok I.bare
theorem Inv.call {g':Array GenState} {t':Nat} {d':Drawn} {ch:List Addr} (I:Inv X pins σ H s) (u:Un (frs X.stack) ch H H' s.heap h') (hok:HOk X.prog X.w H' h') (hg:AllBare g')
 (hch:∀b∈ch,(b∈X.ex\/X.s₀.heap.objs.size<=b)/\b≠X.env.locals/\(∀x c,X.env.cells.lookup x=some c->c≠b)/\∀p∈X.pn++pins,p.1≠b) :
 Inv X pins σ H' { s with heap:=h',gens:=g',drawn:=d',toks:=t' }:=by
 obtain⟨m,⟨o,es,ep,ho,r⟩,_⟩:=id I.loc;obtain⟨sl,hL⟩:=u.any ho I.free λz=>(hch _ z).2.1 rfl
 exact I.step (ch:=ch) hch (λb o hL hb hc e n=>u.keep b o e n (λz=>(List.mem_cons.mp (I.stkSub b z)).elim hL hb) hc) (λb o _ _ hc e n=>u.any e n hc) (λb o hc e n=>u.free b o e n hc) (λb o hc e=>u.there b o e hc) u.tups u.frzs u.tbls (λm' hm=>by
  obtain⟨o',es',ep',ho',r'⟩:=hm;rw [ho]at ho';cases ho';exact⟨_,es',ep',hL,r'⟩) hok hg
theorem Inv.turned {t':Nat} {it:Addr} (I:Inv X pins σ H s) (k:∀b o,b≠it->s.heap.get? b=some o->h'.get? b=some o) (hn:H it=none) (hL:it≠X.env.locals)
 (h1:it∈X.ex\/X.s₀.heap.objs.size<=it) (h2:∀x c,X.env.cells.lookup x=some c->c≠it) (h3:∀p∈X.pn++pins,p.1≠it):Inv X pins σ H { s with heap:=h',toks:=t' }:=by
 have nit:∀b u,H b=some u->b≠it:=λb u e z=>by rw [z,hn]at e;cases e
 refine I.step (g':=s.gens) (d':=s.drawn) (ch:=[it]) (λb hb => ?_) (λb o _ _ hc e _=>k b o (λz=>hc (by simp [z])) e) (λb o _ _ hc e _=>⟨o.slots,k b o (λz=>hc (by simp [z])) e⟩) (λ_ _ _ _ n=>n)
  (λb o hc e=>⟨o,k b o (λz=>hc (by simp [z])) e⟩) (λ_ _ e=>e) (λ_ _ _ e=>e) (λb ps e=>⟨#[],by rw [e];simp⟩) (λm hm => ?_) (λb u e => ?_) I.bare
 · have e:b=it:=by simpa using hb
   subst e;exact⟨h1,hL,h2,h3⟩
 · obtain⟨o,es,ep,ho,r⟩:=hm
   exact⟨o,es,ep,k _ o (Ne.symm hL) ho,r⟩
 · refine(I.hok b u e).stay (λc v hc q=>k c v ?_ q) (λ_ q=>q) λ_ _ q=>q
   rcases hc with z|z
   · rw [z];exact nit b u e
   · exact nit c _ z
theorem Inv.tok(I:Inv X pins σ H s)(t:Nat):Inv X pins σ H { s with toks:=t }:=I.un (h':=s.heap) (t':=t) Un.refl I.hok
theorem Inv.kept{t':Nat}(I:Inv X pins σ H s)(k:∀b u,s.heap.get? b=some u->h'.get? b=some u):Inv X pins σ H { s with heap:=h',toks:=t' }:=I.un (Un.kept k) (I.hok.kept k)
theorem Inv.laid{a:Addr}{o:HO}{t':Nat}(I:Inv X pins σ H s)(k:∀b u,s.heap.get? b=some u->h'.get? b=some u)(hp:s.heap.objs.size<=a)(new:ObjOk X.prog X.w (upd H a o) h' a o) :
 Inv X pins σ (upd H a o) { s with heap:=h',toks:=t' }:=I.un (Un.laid k hp (I.hok.fresh hp)) (I.hok.laid k hp new)
theorem Inv.write {x e:Addr} {o:HO} {t':Nat} (I:Inv X pins σ H s) (mu:Mut (H x)) (he:e=x\/H e=some (.own x)) (k:∀b u,b≠e->s.heap.get? b=some u->h'.get? b=some u) (heo:∃u,h'.get? e=some u)
 (new:ObjOk X.prog X.w (upd H x o) h' x o):Inv X pins σ (upd H x o) { s with heap:=h',toks:=t' }:=I.un (Un.write mu he k heo) (I.hok.write mu he k heo new)
theorem Inv.pins_of{pins':List (Addr×Obj)}(I:Inv X pins σ H s)(h:∀p∈pins',s.heap.get? p.1=some p.2/\H p.1=none/\p.1≠X.env.locals/\p.1∉X.fs/\∀v,p.2.data ≠ .cell v):Inv X pins' σ H s:=
 ⟨I.ok,I.os,I.bare,I.base,I.loc,I.cell,I.free,I.freeC,λp hp=>(List.mem_append.mp hp).elim (λz=>I.pin p (List.mem_append_left _ z)) (h p),I.hok,I.len⟩
theorem Zbk{N:List Str}(hN:N.Nodup){i j:Nat}{x:Str}(a:N[i]? = some x)(b:N[j]? = some x):i=j:=by
 obtain⟨h1,e1⟩:=List.getElem?_eq_some_iff.mp a;obtain⟨h2,e2⟩:=List.getElem?_eq_some_iff.mp b;exact(List.getElem_inj hN).mp (e1.trans e2.symm)
theorem ZaM {M:Model} {A:Around} {E:Value->Shared->Prop} {i:Nat} {x:Str} {v:V} {u:Value} {Q:Unit->Shared->Prop} (I:Inv X pins σ H s) (hN:X.N.Nodup) (hi:X.N[i]? = some x) (hx:Loc X.env.scope x) (r:RelV v u)
 (h:∀s',Inv X pins (σ.set i (some v)) H s'->(∃a,Heap.SameBut a s.heap s'.heap/\(a=X.env.locals\/X.env.cells.lookup x=some a))->Q () s') (hf:X.fn x=true\/X.env.scope.names.lookup x=some .local:=by first|exact .inl rfl|exact .inr rfl|assumption):wpAny M A (storeName X.env x u) Q E s:=by
 obtain⟨m,hn,hl⟩:=id I.loc;have hcls:(X.env.scope.kind == .class||(X.env.scope.kind == .module&&X.env.locals != X.env.globals))=false:=by rw [I.ok.kind];rfl
 have hiσ:i<σ.length:=by rw [I.len];exact(List.getElem?_eq_some_iff.mp hi).1
 have cne:=I.cne
 have tracked:∀{a:Addr}{h':Heap},(∃o,s.heap.get? a=some o/\H a=none)->Heap.SameBut a s.heap h'->HOk X.prog X.w H h':=λ{a h'} ha hs b ob e=>by
  obtain⟨_,_,hfree⟩:=ha;refine(I.hok b ob e).stay (λc w' hc q=>(hs.2 c ?_).trans q) (λ_ q=>q) λ_ _ q=>q
  rintro rfl
  rcases hc with rfl|hc
  · rw [hfree]at e;cases e
  · rw [hfree]at hc;cases hc
 rcases hx with hk|hk
 · refine wpAny_storeName_local hk hn (λh' hn' hs => ?_) hcls
   obtain⟨oL,_,_,hoL,_⟩:=id hn;refine h _ ⟨I.ok,I.os,I.bare,⟨λb o e n hb hx => ?_,λb o e n hb hx => ?_,I.base.free,λb o e hx => ?_,I.base.tups,I.base.frzs,I.base.tbls⟩,⟨_,hn',λj y v' e1 e2 e3 => ?_⟩,λy c e => ?_,I.free,I.freeC,λp hp => ?_,tracked ⟨oL,hoL,I.free⟩ hs,by simpa using I.len⟩ ⟨_,hs,.inl rfl⟩
   · exact(hs.2 b (Nat.ne_of_lt (Nat.lt_of_lt_of_le (Heap.lt_size e) I.ok.above))).trans (I.base.keep b o e n hb hx)
   · obtain⟨sl,e1⟩:=I.base.slot b o e n hb hx
     exact⟨sl,(hs.2 b (Nat.ne_of_lt (Nat.lt_of_lt_of_le (Heap.lt_size e) I.ok.above))).trans e1⟩
   · obtain⟨o',e1⟩:=I.base.there b o e hx
     exact⟨o',(hs.2 b (Nat.ne_of_lt (Nat.lt_of_lt_of_le (Heap.lt_size e) I.ok.above))).trans e1⟩
   · by_cases hj:j=i
     · subst hj
       rw [hi]at e1;cases e1;rw [List.getElem?_set_self hiσ]at e2;cases e2;exact⟨u,r,.inl ⟨hk,by simp⟩⟩
     · rw [List.getElem?_set_ne (Ne.symm hj)]at e2
       obtain⟨u',r',q⟩:=hl j y v' e1 e2 e3;refine⟨u',r',?_⟩;rcases q with⟨k,e⟩|⟨k,c,e,z⟩
       · refine .inl ⟨k,?_⟩
         have:y≠x:=λe=>hj (Zbk hN e1 (e▸hi))
         simp [this,e]
       · exact .inr ⟨k,c,e,z.sameBut hs (cne y c e)⟩
   · obtain⟨w',z⟩:=I.cell y c e
     exact⟨w',z.sameBut hs (cne y c e)⟩
   · obtain⟨e,n,ne,nf,d⟩:=I.pin p hp
     exact⟨(hs.2 p.1 ne).trans e,n,ne,nf,d⟩
 · have hfn : X.fn x = true := by
    rcases hf with z|z
    · exact z
    · rw [z]at hk;cases hk
   obtain⟨c,hc⟩:=I.ok.has x (.inl hk);obtain⟨w',z⟩:=I.cell x c hc;refine wpAny_storeName_cell I.ok.kind hk hc z (λh' hc' hs => ?_);obtain⟨oc,hoc,hocd⟩:=id z;refine h { s with heap:=h' } ⟨I.ok,I.os,I.bare,⟨λb o e n hb hx => ?_,λb o e n hb hx => ?_,I.base.free,λb o e hx => ?_,I.base.tups,I.base.frzs,I.base.tbls⟩,⟨m,hn.sameBut hs (Ne.symm (cne x c hc)),λj y v' e1 e2 e3 => ?_⟩,λy c' e => ?_,I.free,I.freeC,λp hp => ?_,tracked ⟨oc,hoc,I.freeC x c hc⟩ hs,by simpa using I.len⟩ ⟨c,hs,.inr hc⟩
   · exact(hs.2 b (Nat.ne_of_lt (Nat.lt_of_lt_of_le (Heap.lt_size e) (I.ok.cab x c hfn hc)))).trans (I.base.keep b o e n hb hx)
   · obtain⟨sl,e1⟩:=I.base.slot b o e n hb hx
     exact⟨sl,(hs.2 b (Nat.ne_of_lt (Nat.lt_of_lt_of_le (Heap.lt_size e) (I.ok.cab x c hfn hc)))).trans e1⟩
   · obtain⟨o',e1⟩:=I.base.there b o e hx
     exact⟨o',(hs.2 b (Nat.ne_of_lt (Nat.lt_of_lt_of_le (Heap.lt_size e) (I.ok.cab x c hfn hc)))).trans e1⟩
   · by_cases hj:j=i
     · subst hj
       rw [hi]at e1;cases e1;rw [List.getElem?_set_self hiσ]at e2;cases e2;exact⟨u,r,.inr ⟨.inl hk,c,hc,hc'⟩⟩
     · rw [List.getElem?_set_ne (Ne.symm hj)]at e2
       obtain⟨u',r',q⟩:=hl j y v' e1 e2 e3;refine⟨u',r',?_⟩;rcases q with q|⟨k,c',e,z'⟩
       · exact .inl q
       · refine .inr ⟨k,c',e,z'.sameBut hs ?_⟩
         rintro rfl
         exact hj (Zbk hN e1 (I.ok.inj _ _ _ e hc▸hi))
   · by_cases hcc:c'=c
     · subst hcc;exact⟨_,hc'⟩
     · obtain⟨w2,z2⟩:=I.cell y c' e
       exact⟨w2,z2.sameBut hs hcc⟩
   · obtain⟨e,n,ne,nf,d⟩:=I.pin p hp
     refine⟨(hs.2 p.1 ?_).trans e,n,ne,nf,d⟩;intro q;rw [q,hoc]at e;have q':oc=p.2:=Option.some.inj e;exact d w' (by rw [<-q'];exact hocd)
theorem Zbl {M:Model} {A:Around} {E:Value->Shared->Prop} {i:Nat} {x:Str} {v:V} {u:Value} {Q:Unit->Shared->Prop} (I:Inv X pins σ H s) (hN:X.N.Nodup) (hi:X.N[i]? = some x) (hx:Loc X.env.scope x) (r:RelV v u)
 (h:∀s',Inv X pins (σ.set i (some v)) H s'->Q () s') (hf:X.fn x=true\/X.env.scope.names.lookup x=some .local:=by first|exact .inl rfl|exact .inr rfl|assumption):wpAny M A (storeName X.env x u) Q E s:=
 ZaM I hN hi hx r (λs' I' _=>h s' I') hf
theorem Inv.call' {s':Shared} {ch:List Addr} (I:Inv X pins σ H s) (ho:s'.os=s.os) (u:Un (frs X.stack) ch H H' s.heap s'.heap) (hok:HOk X.prog X.w H' s'.heap) (hg:AllBare s'.gens)
 (hch:∀b∈ch,(b∈X.ex\/X.s₀.heap.objs.size<=b)/\b≠X.env.locals/\(∀x c,X.env.cells.lookup x=some c->c≠b)/\∀p∈X.pn++pins,p.1≠b):Inv X pins σ H' s':=by
 obtain⟨h',g',d',t',o'⟩:=s';have e:o'=s.os:=ho;subst e;exact I.call (g':=g') (t':=t') (d':=d') u hok hg hch
end
abbrev XK:=Value->Option Addr->Hp->Prop
abbrev St:=List (Option V)
abbrev VK:=V->Hp->Prop
abbrev TE:=St->Hp->VK->Prop
abbrev TT:=St->Hp->(Bool->Hp->Prop)->Prop
abbrev TA:=St->Hp->(List V->Hp->Prop)->Prop
structure Ends where
 nx:St->Hp->Prop
 rt:VK
 bk:St->Hp->Prop:=λ_ _=>False
 ct:St->Hp->Prop:=λ_ _=>False
abbrev TS:=Ends->St->Hp->Prop
def EP(X:Cx)(pins:List (Addr×Obj))(σ:St)(Q:VK)(u:Value)(s':Shared):Prop:=∃v H',Inv X pins σ H' s'/\RelV v u/\Q v H'
def TP(X:Cx)(pins:List (Addr×Obj))(σ:St)(Q:Bool->Hp->Prop)(b:Bool)(s':Shared):Prop:=∃H',Inv X pins σ H' s'/\Q b H'
def AP(X:Cx)(pins:List (Addr×Obj))(σ:St)(Q:List V->Hp->Prop)(us:List Value)(s':Shared):Prop:=∃vs H',Inv X pins σ H' s'/\Vals vs us/\Q vs H'
def SP(X:Cx)(pins:List (Addr×Obj))(D:Ends)(f:Flow)(s':Shared):Prop:=
 match f with
 | .next=>∃σ' H',Inv X pins σ' H' s'/\D.nx σ' H'
 | .brk=>∃σ' H',Inv X pins σ' H' s'/\D.bk σ' H'
 | .cont=>∃σ' H',Inv X pins σ' H' s'/\D.ct σ' H'
 | .ret u=>∃v σ' H',Inv X pins σ' H' s'/\RelV v u/\D.rt v H'
def PE(X:Cx)(e:Expr)(t:TE):Prop:=
 ∀(pins:List (Addr×Obj))(s:Shared)(σ:St)(H:Hp)(Q:VK),Inv X pins σ H s->t σ H Q->wpAny (model X.prog X.w) X.A (eval e X.env) (EP X pins σ Q) X.xe s
def PT(X:Cx)(e:Expr)(t:TT):Prop:=
 ∀(pins:List (Addr×Obj))(s:Shared)(σ:St)(H:Hp)(Q:Bool->Hp->Prop),Inv X pins σ H s->t σ H Q->wpAny (model X.prog X.w) X.A (isTrue e X.env (eval e X.env)) (TP X pins σ Q) X.xe s
def PW(X:Cx)(e:Expr)(t:TT):Prop:=
 ∀(whole:Sem Value)(pins:List (Addr×Obj))(s:Shared)(σ:St)(H:Hp)(Q:Bool->Hp->Prop),Inv X pins σ H s->t σ H Q->wpAny (model X.prog X.w) X.A (isTrue e X.env whole) (TP X pins σ Q) X.xe s
theorem PW.pt{X:Cx}{e:Expr}{t:TT}(h:PW X e t):PT X e t:=h _
def PA(X:Cx)(es:List Expr)(t:TA):Prop:=
 ∀(pos:Pos)(pins:List (Addr×Obj))(s:Shared)(σ:St)(H:Hp)(Q:List V->Hp->Prop),Inv X pins σ H s->t σ H Q->wpAny (model X.prog X.w) X.A (spliced (backTo pos (starEach es X.env))) (AP X pins σ Q) X.xe s
def PS(X:Cx)(st:Stmt)(t:TS):Prop:=
 ∀(pins:List (Addr×Obj))(s:Shared)(σ:St)(H:Hp)(D:Ends),Inv X pins σ H s->t D σ H->wpAny (model X.prog X.w) X.A (exec st X.env) (SP X pins D) X.xe s
def PSs(X:Cx)(st:List Stmt)(t:TS):Prop:=
 ∀(pins:List (Addr×Obj))(s:Shared)(σ:St)(H:Hp)(D:Ends),Inv X pins σ H s->t D σ H->wpAny (model X.prog X.w) X.A (execs st X.env) (SP X pins D) X.xe s
theorem thn{α:Type}{t:Sem α}{Q Q':α->Shared->Prop}{M:Model}{A:Around}{E:Value->Shared->Prop}{s:Shared}(h:wpAny M A t Q E s)(hQ:∀a s,Q a s->Q' a s):wpAny M A t Q' E s:=wpAny_mono h hQ λ_ _ x=>x
end L2
namespace L2
open PySem PySem.Spec PyProof.Rows
section
variable{X:Cx}
def Vz(i:Nat):TE:=λσ H Q=>∃v,σ[i]? = some (some v)/\Q v H
def tC(v:V):TE:=λ_ H Q=>Q v H
theorem ZfW {i:Nat} {x:Str} {pos:Pos} (hN:X.N[i]? = some x) (hv:Vis X.env.scope x) (hd:(x == ("__debug__" : Str))=false:=by decide) (hcd:(x == ("__classdict__" : Str))=false:=by decide):PE X (.Name x pos) (Vz i):=by
 intro pins s σ H Q I h;obtain⟨v,e,h⟩:=h;obtain⟨m,hn,hl⟩:=I.loc;obtain⟨u,r,l⟩:=hl i x v hN e hv;have fin:EP X pins σ Q u s:=⟨v,H,I,r,h⟩
 rcases l with⟨hk,hm⟩|⟨hk,c,hc,hcell⟩
 · exact wpAny_Name (wpAny_loadName_local I.ok.kind hk hn hm fin) hd
 · rcases hk with hk|hk
   · exact wpAny_Name (wpAny_loadName_cell I.ok.kind hk hc hcell fin) hd
   · exact wpAny_Name (wpAny_loadName_free I.ok.kind hk hc hcell fin hcd) hd
theorem Zo{i j pos}:PE X (.Constant (.int i) j pos) (tC (.int i)):=λ_ _ _ H _ I h=>wpAny_Constant_int ⟨.int i,H,I.tok _,⟨_,rfl⟩,h⟩
theorem X7{b j pos}:PE X (.Constant (.bool b) j pos) (tC (.bl b)):=λ_ _ _ H _ I h=>Constant_bool ⟨.bl b,H,I,rfl,h⟩
theorem Y7{j pos}:PE X (.Constant .none j pos) (tC .non):=λ_ _ _ H _ I h=>Constant_none ⟨.non,H,I,rfl,h⟩
theorem ZfX{x j pos}:PE X (.Constant (.str x) j pos) (tC (.str x)):=λ_ _ _ H _ I h=>Calls.Constant_str ⟨.str x,H,I.tok _,⟨_,rfl⟩,h⟩
def Gl(X:Cx)(x:Str):Prop:=X.env.kindOf x=some .globalImplicit
theorem Ja {E:Value->Shared->Prop} {pins:List (Addr×Obj)} {s:Shared} {σ:St} {H:Hp} {x:Str} {u:Value} {pos:Pos} {Q:Value->Shared->Prop} (I:Inv X pins σ H s) (hg:Gl X x) (hm:X.mg x=some u) (h:Q u s)
 (hd:(x == ("__debug__" : Str))=false:=by decide):wpAny (model X.prog X.w) X.A (eval (.Name x pos) X.env) Q E s:=
 Calls.Name_function_global I.ok.kind hg (Calls.loadGlobal_global (by rw [I.ok.glob];exact I.mod.glob.keeps I.bk) hm h) hd
theorem Ut {E:Value->Shared->Prop} {pins:List (Addr×Obj)} {s:Shared} {σ:St} {H:Hp} {x:Str} {u:Value} {pos:Pos} {Q:Value->Shared->Prop} (I:Inv X pins σ H s) (hg:Gl X x) (hm:X.mg x=none) (hv:bootBuiltins x=some u) (h:Q u s)
 (hn:x ≠ "__name__" := by decide) (hd:(x == ("__debug__" : Str))=false:=by decide):wpAny (model X.prog X.w) X.A (eval (.Name x pos) X.env) Q E s:=by
 obtain⟨mb,h1,h2⟩:=I.mod.blt;exact Calls.Name_function_global I.ok.kind hg (Calls.loadGlobal_builtin (by rw [I.ok.glob];exact I.mod.glob.keeps I.bk) hm (by rw [I.ok.blt];exact h1.keeps I.bk) ((h2 x hn).trans hv) h) hd
theorem Jb {x:Str} {v:V} {u:Value} {pos:Pos} (hg:Gl X x) (hm:X.mg x=some u) (r:RelV v u) (hd:(x == ("__debug__" : Str))=false:=by decide):PE X (.Name x pos) (tC v):=
 λ_ _ _ H _ I h=>Ja I hg hm ⟨v,H,I,r,h⟩ hd
theorem X8 {x:Str} {v:V} {u:Value} {pos:Pos} (hg:Gl X x) (hm:X.mg x=none) (hv:bootBuiltins x=some u) (r:RelV v u) (hn:x ≠ "__name__" := by decide) (hd:(x == ("__debug__" : Str))=false:=by decide):PE X (.Name x pos) (tC v):=
 λ_ _ _ H _ I h=>Ut I hg hm hv ⟨v,H,I,r,h⟩ hn hd
variable{a b:Expr}{ta tb:TE}{pos:Pos}
def PC(X:Cx)(op:CmpOp)(a b:Expr)(t:TE):Prop:=
 ∀(pins:List (Addr×Obj))(s:Shared)(σ:St)(H:Hp)(Q:VK),Inv X pins σ H s->t σ H Q ->
  wpAny (model X.prog X.w) X.A (eval a X.env) (λv s₁=>wpAny (model X.prog X.w) X.A (eval b X.env) (λu s₂=>wpAny (model X.prog X.w) X.A (compareOp op v u) (EP X pins σ Q) X.xe s₂) X.xe s₁) X.xe s
theorem Zdp(b:Expr){op:CmpOp}(h:op ≠ .In)(h2:op ≠ .NotIn):behindInMarks op b=false:=by
 have e1:(op == CmpOp.In)=false:=by cases op<;>first|rfl|exact absurd rfl h
 have e2:(op == CmpOp.NotIn)=false:=by cases op<;>first|rfl|exact absurd rfl h2
 cases b<;>simp [behindInMarks,e1,e2]
def ZhI(ta:TE):TE:=λσ H Q=>ta σ H λx H1=>Q (.bl (decide (x = .non))) H1
def Zfl(ta:TE):TE:=λσ H Q=>ta σ H λx H1=>Q (.bl (!decide (x = .non))) H1
theorem RelV.none_iff{x:V}{v:Value}(r:RelV x v):(v == Value.none)=decide (x = .non):=by
 cases x with
 |non=>cases r;rfl
 |bl _=>cases r;rfl
 |int _=>obtain⟨t,rfl⟩:=r;rfl
 |str _=>obtain⟨t,rfl⟩:=r;rfl
 |byt _=>obtain⟨t,rfl⟩:=r;rfl
 |flt _=>obtain⟨t,rfl⟩:=r;rfl
 |ref _=>cases r;rfl
 |ty _=>cases r;rfl
theorem Uu{j pos'}(ha:PE X a ta):PC X .Is a (.Constant .none j pos') (ZhI ta):=by
 intro pins s σ H Q I h;refine thn (ha pins s σ H _ I h) λv s1 ⟨x,H1,I1,r1,q1⟩ => ?_
 exact Constant_none (is_none_gen ⟨.bl _,H1,I1,by rw [r1.none_iff];rfl,q1⟩)
theorem Zcm{j pos'}(ha:PE X a ta):PC X .IsNot a (.Constant .none j pos') (Zfl ta):=by
 intro pins s σ H Q I h;refine thn (ha pins s σ H _ I h) λv s1 ⟨x,H1,I1,r1,q1⟩ => ?_
 exact Constant_none (isnot_none_gen ⟨.bl _,H1,I1,by rw [r1.none_iff];rfl,q1⟩)
def tB(t:TE):TT:=λσ H Q=>t σ H λx H1=>∃c,x = .bl c/\Q c H1
theorem VB{op:CmpOp}{t:TE}(h:PC X op a b t)(h1:behindInMarks op b=false:=by first|exact Zdp _ (by decide) (by decide)|rfl):PT X (.Compare a [op] [b] pos) (tB t):=by
 intro pins s σ H Q I hw;refine wpAny_isTrue_Compare1 (thn (h pins s σ H _ I hw) λv s1 h1=>thn h1 λu s2 h2=>thn h2 λc s3 ⟨x,H1,I1,r1,q1⟩ => ?_) h1;obtain⟨d,rfl,q⟩:=q1;cases r1;exact wpAny_truthy_bool ⟨H1,I1,q⟩
theorem Y2{e:Expr}{t:TE}(h:PE X e t)(he:∀whole,isTrue e X.env whole=(do let v <-whole;standAt e.pos;holding [v] (truthy v)):=by intro _;rfl):PT X e (tB t):=by
 intro pins s σ H Q I hw;refine isTrue_plain (thn (h pins s σ H _ I hw) λv s1 ⟨x,H1,I1,r1,q1⟩ => ?_) (he _);obtain⟨d,rfl,q⟩:=q1;cases r1;exact wpAny_truthy_bool ⟨H1,I1,q⟩
variable{tA tB':TT}{rest:List Expr}
def ZhJ(t u:TT):TT:=λσ H Q=>t σ H λc H1=>if c=true then u σ H1 Q else Q false H1
def tOr(t u:TT):TT:=λσ H Q=>t σ H λc H1=>if c=true then Q true H1 else u σ H1 Q
def ZhK(t:TT):TT:=λσ H Q=>t σ H λc H1=>Q (!c) H1
theorem Jc(ha:PT X a tA):PW X (.BoolOp .And [a] pos) tA:=by
 intro wh pins s σ H Q I h;refine isTrue_and (thn (ha pins s σ H Q I h) λc s1 e => ?_);cases c with
 |true=>exact isTrue_and_nil e
 |false=>exact e
theorem Xk(ha:PT X a tA):PW X (.BoolOp .Or [a] pos) tA:=by
 intro wh pins s σ H Q I h;refine isTrue_or (thn (ha pins s σ H Q I h) λc s1 e => ?_);cases c with
 |false=>exact isTrue_or_nil e
 |true=>exact e
theorem Jd(ha:PT X a tA)(hb:PW X (.BoolOp .And (b::rest) pos) tB'):PW X (.BoolOp .And (a::b::rest) pos) (ZhJ tA tB'):=by
 intro wh pins s σ H Q I h;refine isTrue_and (thn (ha pins s σ H _ I h) λc s1 ⟨H1,I1,q1⟩ => ?_);cases c with
 |true=>exact hb wh pins s1 σ H1 Q I1 q1
 |false=>exact⟨H1,I1,q1⟩
theorem YO(ha:PT X a tA)(hb:PW X (.BoolOp .Or (b::rest) pos) tB'):PW X (.BoolOp .Or (a::b::rest) pos) (tOr tA tB'):=by
 intro wh pins s σ H Q I h;refine isTrue_or (thn (ha pins s σ H _ I h) λc s1 ⟨H1,I1,q1⟩ => ?_);cases c with
 |true=>exact⟨H1,I1,q1⟩
 |false=>exact hb wh pins s1 σ H1 Q I1 q1
theorem Y8(ha:PT X a tA):PT X (.UnaryOp .Not a pos) (ZhK tA):=by
 intro pins s σ H Q I h;exact isTrue_not (ha pins s σ H (λc H1=>Q (!c) H1) I h)
def Zfm(ta tb:TE):TE:=λσ H Q=>ta σ H λx H1=>∃c,x = .bl c/\if c=true then tb σ H1 Q else Q (.bl false) H1
def Zfn(ta:TE):TE:=λσ H Q=>ta σ H λx H1=>∃c,x = .bl c/\Q (.bl (!c)) H1
theorem ZdX{op}{t:TE}(h:PE X a t):PE X (.BoolOp op [a] pos) t:=λpins s σ H Q I hw=>BoolOp_one (h pins s σ H Q I hw)
theorem ZdY(ha:PE X a ta)(hb:PE X (.BoolOp .And (b::rest) pos) tb):PE X (.BoolOp .And (a::b::rest) pos) (Zfm ta tb):=by
 intro pins s σ H Q I h;refine BoolOp_and (thn (ha pins s σ H _ I h) λv s1 ⟨x,H1,I1,r1,q1⟩ => ?_);obtain⟨c,rfl,q1⟩:=q1;cases r1;refine wpAny_truthy_bool ?_;cases c with
 |true=>exact hb pins s1 σ H1 Q I1 q1
 |false=>exact⟨.bl false,H1,I1,rfl,q1⟩
theorem ZfY(ha:PE X a ta):PE X (.UnaryOp .Not a pos) (Zfn ta):=by
 intro pins s σ H Q I h;refine UnaryOp_ (thn (ha pins s σ H _ I h) λv s1 ⟨x,H1,I1,r1,q1⟩ => ?_);obtain⟨c,rfl,q1⟩:=q1;cases r1;exact not_of (wpAny_truthy_bool ⟨.bl (!c),H1,I1,rfl,q1⟩)
def tIf(t:TT)(ta tb:TE):TE:=λσ H Q=>t σ H λc H1=>if c=true then ta σ H1 Q else tb σ H1 Q
theorem V5{c:Expr}(hc:PT X c tA)(ha:PE X a ta)(hb:PE X b tb):PE X (.IfExp c a b pos) (tIf tA ta tb):=by
 intro pins s σ H Q I h;refine wpAny_IfExp (thn (hc pins s σ H _ I h) λd s1 ⟨H1,I1,q1⟩ => ?_);cases d with
 |true=>exact ha pins s1 σ H1 Q I1 q1
 |false=>exact hb pins s1 σ H1 Q I1 q1
end
end L2
namespace L2
open PySem PySem.Spec PyProof.Rows
def SqL(K:PySem.W.Frag)(H:Hp)(a:Addr)(xs:List V):Prop:=
 Rd H a (.lst xs) \/
  ∃(o:Obj) (its:Array Value) (n:Nat),K.lookup a=some o/\o.cls = .type "list" /\ o.dict=none/\o.data = .seq its n/\its.size<=sizeLine/\Vals xs its.toList
def SqT(K:PySem.W.Frag)(H:Hp)(a:Addr)(xs:List V):Prop:=
 Rd H a (.tup xs) \/
  ∃(o:Obj) (its:Array Value) (n:Nat),K.lookup a=some o/\o.cls = .type "tuple" /\ o.data = .seq its n/\its.size<=sizeLine/\Vals xs its.toList
def Zia:Value->Option V
 | .none=>some .non
 | .bool b=>some (.bl b)
 | .int i _=>some (.int i)
 | .str x _=>some (.str x)
 | .bytes b _=>some (.byt b)
 | .float b _=>some (.flt b)
 | .ref a=>some (.ref a)
 | .type n=>some (.ty n)
 |_=>none
theorem RelV.abs{x:V}{u:Value}(r:RelV x u):Zia u=some x:=by
 cases x with
 |non=>cases r;rfl
 |bl _=>cases r;rfl
 |int _=>obtain⟨t,rfl⟩:=r;rfl
 |str _=>obtain⟨t,rfl⟩:=r;rfl
 |byt _=>obtain⟨t,rfl⟩:=r;rfl
 |flt _=>obtain⟨t,rfl⟩:=r;rfl
 |ref _=>cases r;rfl
 |ty _=>cases r;rfl
theorem RelV.inj{x y:V}{u:Value}(r:RelV x u)(q:RelV y u):x=y:=Option.some.inj (r.abs.symm.trans q.abs)
theorem Vals.inj:∀{xs ys:List V}{us:List Value},Vals xs us->Vals ys us->xs=ys
 |_,_,_,.nil,.nil=>rfl
 |_,_,_,.cons r t,.cons r' t'=>by rw [r.inj r',Vals.inj t t']
section
variable{X:Cx}{pins:List (Addr×Obj)}{σ:St}{H:Hp}{s:Shared}{a:Addr}{xs ys:List V}
theorem SqL.of{K:PySem.W.Frag}(h:H a=some (.lst xs)):SqL K H a xs := .inl (.inl h)
theorem SqT.of{K:PySem.W.Frag}(h:H a=some (.tup xs)):SqT K H a xs := .inl (.inl h)
theorem Inv.list(I:Inv X pins σ H s)(h:SqL X.K H a xs):∃its:List Value,Vals xs its/\PlainL s.heap a its.toArray/\xs.length<=sizeLine:=by
 rcases h with h|⟨o,its,n,hk,hc,hd,hs,hz,r⟩
 · obtain⟨z,its,n,r,e⟩:=h.ok I.hok
   exact⟨its,r,⟨_,n,e,rfl,rfl,rfl⟩,z⟩
 · refine⟨its.toList,r,⟨o,n,I.kIn a o hk,hc,hd,by simpa using hs⟩,?_⟩
   have e:=r.length;simp only [Array.length_toList]at e;omega
theorem Inv.tuple(I:Inv X pins σ H s)(h:SqT X.K H a xs):∃its:List Value,Vals xs its/\IsTup s.heap a its.toArray/\xs.length<=sizeLine:=by
 rcases h with h|⟨o,its,n,hk,hc,hs,hz,r⟩
 · obtain⟨z,its,r,p⟩:=h.ok I.hok
   exact⟨its,r,p.tup,z⟩
 · refine⟨its.toList,r,⟨o,I.kIn a o hk,hc,n,by simpa using hs⟩,?_⟩
   have e:=r.length;simp only [Array.length_toList]at e;omega
theorem Inv.list_inj(I:Inv X pins σ H s)(h:SqL X.K H a xs)(h':SqL X.K H a ys):xs=ys:=by
 obtain⟨its,r,⟨o,n,e,_,_,d⟩,_⟩:=I.list h;obtain⟨its',r',⟨o',n',e',_,_,d'⟩,_⟩:=I.list h';rw [e]at e';cases e';rw [d]at d';injection d' with d1 _
 have:its=its':=by simpa using congrArg Array.toList d1
 subst this;exact r.inj r'
theorem Inv.tuple_inj(I:Inv X pins σ H s)(h:SqT X.K H a xs)(h':SqT X.K H a ys):xs=ys:=by
 obtain⟨its,r,⟨o,e,_,n,d⟩,_⟩:=I.tuple h;obtain⟨its',r',⟨o',e',_,n',d'⟩,_⟩:=I.tuple h';rw [e]at e';cases e';rw [d]at d';injection d' with d1 _
 have:its=its':=by simpa using congrArg Array.toList d1
 subst this;exact r.inj r'
end
abbrev Cx.wish(X:Cx)(E:Value->Shared->Prop):Cx:={ X with xe:=E }
abbrev Cx.nox(X:Cx):Cx:=X.wish λ_ _=>False
theorem Cx.Ok.wish{X:Cx}(ok:X.Ok)(E:Value->Shared->Prop):(X.wish E).Ok:=
 ⟨ok.mod,ok.kind,ok.glob,ok.blt,ok.above,ok.inj,ok.has,ok.cab,ok.hd,ok.frames,ok.stk,ok.exf,ok.bs,ok.bsz,ok.noex,ok.exfs,ok.funs,ok.frf⟩
theorem Cx.Ok.unwish{X:Cx}{E:Value->Shared->Prop}(ok:(X.wish E).Ok):X.Ok:=
 ⟨ok.mod,ok.kind,ok.glob,ok.blt,ok.above,ok.inj,ok.has,ok.cab,ok.hd,ok.frames,ok.stk,ok.exf,ok.bs,ok.bsz,ok.noex,ok.exfs,ok.funs,ok.frf⟩
section
variable{X:Cx}{pins:List (Addr×Obj)}{σ:St}{H:Hp}{s:Shared}{E:Value->Shared->Prop}
theorem Inv.wish(I:Inv X pins σ H s)(E:Value->Shared->Prop):Inv (X.wish E) pins σ H s:=⟨I.ok.wish E,I.os,I.bare,I.base,I.loc,I.cell,I.free,I.freeC,I.pin,I.hok,I.len⟩
theorem Inv.unwish(I:Inv (X.wish E) pins σ H s):Inv X pins σ H s:=⟨I.ok.unwish,I.os,I.bare,I.base,I.loc,I.cell,I.free,I.freeC,I.pin,I.hok,I.len⟩
theorem SP.unwish{D:Ends}{f:Flow}{s':Shared}(h:SP (X.wish E) pins D f s'):SP X pins D f s':=by
 cases f with
 |next=>obtain⟨σ',H',I,q⟩:=h;exact⟨σ',H',I.unwish,q⟩
 |brk=>obtain⟨σ',H',I,q⟩:=h;exact⟨σ',H',I.unwish,q⟩
 |cont=>obtain⟨σ',H',I,q⟩:=h;exact⟨σ',H',I.unwish,q⟩
 |ret u=>obtain⟨v,σ',H',I,r,q⟩:=h;exact⟨v,σ',H',I.unwish,r,q⟩
theorem PSs.nox{st:List Stmt}{t:TS}(h:PSs X.nox st t):PSs X st t:=λpins s σ H D I hw=>
 wpAny_mono (h pins s σ H D (I.wish _) hw) (λ_ _ q=>q.unwish) λ_ _ z=>False.elim z
end
section
variable{X:Cx}{st:Stmt}{rest:List Stmt}{t u:TS}{e:Expr}{te:TE}{pos:Pos}
def tNext:TS:=λD σ H=>D.nx σ H
def Uv(t u:TS):TS:=λD σ H=>t { D with nx:=u D } σ H
theorem Yu:PSs X [] tNext:=λ_ _ σ H _ I h=>wpAny_execs_nil ⟨σ,H,I,h⟩
theorem Zs(h1:PS X st t)(h2:PSs X rest u):PSs X (st::rest) (Uv t u):=by
 intro pins s σ H D I h;refine wpAny_execs_cons (thn (h1 pins s σ H { D with nx:=u D } I h) λf s1 q => ?_);cases f with
 |next=>
  obtain⟨σ',H',I',q⟩:=q;exact h2 pins s1 σ' H' D I' q
 |ret v=>exact q
 |brk=>exact q
 |cont=>exact q
theorem Zv(h1:PS X st t):PSs X [st] t:=by
 intro pins s σ H D I h;refine wpAny_execs_cons (thn (h1 pins s σ H D I h) λf s1 q => ?_);cases f with
 |next=>exact wpAny_execs_nil q
 |ret v=>exact q
 |brk=>exact q
 |cont=>exact q
theorem Inv.quiet{pins:List (Addr×Obj)}{σ:St}{H:Hp}{s:Shared}(I:Inv X pins σ H s):interactive X.env=false:=by simp [interactive,I.ok.kind]
def Je(te:TE):TS:=λD σ H=>te σ H λ_ H1=>D.nx σ H1
theorem Xl(he:PE X e te)(hs:swapsWith e none pos.line X.env=pure false:=by rfl):PS X (.Expr e pos) (Je te):=by
 intro pins s σ H D I h;exact wpAny_Expr_any (thn (he pins s σ H _ I h) λv s1 ⟨x,H1,I1,r1,q1⟩=>⟨σ,H1,I1,q1⟩) I.quiet hs
def Jf(te:TE):TS:=λD σ H=>te σ H D.rt
theorem ZJ(he:PE X e te):PS X (.Return (some e) pos) (Jf te):=by
 intro pins s σ H D I h;exact wpAny_Return_some (thn (he pins s σ H _ I h) λv s1 ⟨x,H1,I1,r1,q1⟩=>⟨x,σ,H1,I1,r1,q1⟩)
def ZhL(c:TT)(t u:TS):TS:=λD σ H=>c σ H λb H1=>if b=true then t D σ H1 else u D σ H1
theorem Yv{c:Expr}{a b:List Stmt}{tc:TT}(hc:PT X c tc)(ha:PSs X a t)(hb:PSs X b u):PS X (.If c a b pos) (ZhL tc t u):=by
 intro pins s σ H D I h;refine wpAny_If (thn (hc pins s σ H _ I h) λd s1 ⟨H1,I1,q1⟩ => ?_);cases d with
 |true=>exact ha pins s1 σ H1 D I1 q1
 |false=>exact hb pins s1 σ H1 D I1 q1
def tNever:TS:=λ_ _ _=>False
theorem Zbm:PS X st tNever:=λ_ _ _ _ _ _ h=>h.elim
end
abbrev TG:=V->St->Hp->(St->Hp->Prop)->Prop
abbrev TGs:=List V->St->Hp->(St->Hp->Prop)->Prop
def PG(X:Cx)(target:Expr)(t:TG):Prop:=
 ∀(pins:List (Addr×Obj))(s:Shared)(σ:St)(H:Hp)(v:V)(u:Value)(Q:St->Hp->Prop),Inv X pins σ H s->RelV v u->t v σ H Q ->
  wpAny (model X.prog X.w) X.A (assign target X.env u) (λ_ s'=>∃σ' H',Inv X pins σ' H' s'/\Q σ' H') X.xe s
def PGs(X:Cx)(ts:List Expr)(t:TGs):Prop:=
 ∀(pins:List (Addr×Obj))(s:Shared)(σ:St)(H:Hp)(vs:List V)(us:List Value)(Q:St->Hp->Prop),Inv X pins σ H s->Vals vs us->t vs σ H Q ->
  wpAny (model X.prog X.w) X.A (assignInOrder ((assignEach ts X.env).map (·.2)) us) (λ_ s'=>∃σ' H',Inv X pins σ' H' s'/\Q σ' H') X.xe s
abbrev TSet:=V->V->V->Hp->(Hp->Prop)->Prop
def ZhM(X:Cx)(t:TSet):Prop:=
 ∀(pins:List (Addr×Obj))(s:Shared)(σ:St)(H:Hp)(o i v:V)(ov iv u:Value)(Q:Hp->Prop),Inv X pins σ H s->RelV o ov->RelV i iv->RelV v u->t o i v H Q ->
  wpAny (model X.prog X.w) X.A (setItem ov iv u) (λ_ s'=>∃H',Inv X pins σ H' s'/\Q H') X.xe s
section
variable{X:Cx}{pos:Pos}
def X9(i:Nat):TG:=λv σ H Q=>Q (σ.set i (some v)) H
theorem Ye{i:Nat}{x:Str}(hN:X.N.Nodup)(hi:X.N[i]? = some x:=by rfl)(hx:Loc X.env.scope x:=by first|exact Or.inl rfl|exact Or.inr rfl)(hf:X.fn x=true\/X.env.scope.names.lookup x=some .local:=by first|exact .inl rfl|exact .inr rfl|assumption):PG X (.Name x pos) (X9 i):=by
 intro pins s σ H v u Q I r h;exact wpAny_assign_Name (Zbl I hN hi hx r (λs' I'=>⟨_,H,I',h⟩) hf)
def gNil:TGs:=λvs σ H Q=>vs=[]/\Q σ H
def Zfo(t:TG)(u:TGs):TGs:=λvs σ H Q=>∃v r,vs=v::r/\t v σ H λσ' H'=>u r σ' H' Q
theorem Jg:PGs X [] gNil:=by
 intro pins s σ H vs us Q I r h;obtain⟨e,h⟩:=h;subst e;cases r;exact assignInOrder_nil ⟨σ,H,I,h⟩
theorem Uw {e:Expr} {es:List Expr} {t:TG} {u:TGs} (h1:PG X e t) (h2:PGs X es u)
 (hs:(assignEach (e::es) X.env).map (·.2)=assign e X.env::(assignEach es X.env).map (·.2):=by rfl):PGs X (e::es) (Zfo t u):=by
 intro pins s σ H vs us Q I r h;obtain⟨v,vr,e1,h⟩:=h;subst e1;cases r with
 |cons r rr=>
  rw [hs];refine assignInOrder_cons (thn (h1 pins s σ H _ _ _ I r h) λ_ s1 ⟨σ1,H1,I1,q1⟩ => ?_);exact h2 pins s1 σ1 H1 _ _ Q I1 rr q1
def Jh(K:PySem.W.Frag)(n:Nat)(t:TGs):TG:=λv σ H Q=>∃a xs,v = .ref a/\SqT K H a xs/\xs.length=n/\t xs σ H Q
theorem ZfZ {es:List Expr} {k:Nat} {t:TGs} {n:Nat} (hc:X.calm=true) (h:PGs X es t)
 (hn:(assignEach es X.env).length=n:=by rfl) (hst:(assignEach es X.env).findIdx? (·.1)=none:=by rfl):PG X (.Tuple es k pos) (Jh X.K n t):=by
 intro pins s σ H v u Q I r hw;obtain⟨a,xs,e1,hq,hl,hw⟩:=hw;subst e1;cases r;obtain⟨its,rv,ht,hz⟩:=I.tuple hq;refine assign_Tuple_tuple (I.ok.hd hc) ht (by simp [hn,<-hl,rv.length]) hst λh' hx => ?_
 have I1:Inv X pins σ H { s with heap:=h' }:=I.kept (t':=s.toks) λb o e=>hx b o (Nat.ne_of_lt (Heap.lt_size e)) e
 exact h pins _ σ H xs _ Q I1 (by simpa using rv) hw
def Ji(to ti:TE)(t:TSet):TG:=λv σ H Q=>to σ H λo H1=>ti σ H1 λi H2=>t o i v H2 λH3=>Q σ H3
theorem ZdZ {o i:Expr} {to ti:TE} {t:TSet} (ho:PE X o to) (hi:PE X i ti) (hs:ZhM X t)
 (ha:∀v,assign (.Subscript o i pos) X.env v=(do
   let ov <-holding [v] (eval o X.env)
   let iv <-holding [v,ov] (eval i X.env)
   standAt pos
   holding [v,ov,iv] (setItem ov iv v)
   release [v,ov,iv] []):=by intro _;rfl):PG X (.Subscript o i pos) (Ji to ti t):=by
 intro pins s σ H v u Q I r h;rw [ha];refine wpAny_bind (wpAny_holding (thn (ho pins s σ H _ I h) λov s1 ⟨x,H1,I1,r1,q1⟩ => ?_));refine wpAny_bind (wpAny_holding (thn (hi pins s1 σ H1 _ I1 q1) λiv s2 ⟨y,H2,I2,r2,q2⟩ => ?_));refine wpAny_bind (wpAny_standAt (wpAny_bind (wpAny_holding (thn (hs pins s2 σ H2 x y v ov iv u _ I2 r1 r2 r q2) λ_ s3 ⟨H3,I3,q3⟩ => ?_))));exact wpAny_release ⟨σ,H3,I3,q3⟩
def Va(te:TE)(g:TG):TS:=λD σ H=>te σ H λx H1=>g x σ H1 D.nx
theorem Zd0 {tg e:Expr} {te:TE} {g:TG} (he:PE X e te) (hg:PG X tg g) (hs:swapsWithSole [tg] e pos.line X.env=pure false:=by rfl) (hw:swappedStores [tg] e X.env=pure none:=by rfl)
 (h1:(assignEach [tg] X.env).map (·.2)=[assign tg X.env]:=by rfl):PS X (.Assign [tg] e pos) (Va te g):=by
 intro pins s σ H D I h;refine wpAny_Assign_stores (thn (he pins s σ H _ I h) λv s1 ⟨x,H1,I1,r1,q1⟩ => ?_) hs hw;rw [h1];exact thn (hg pins s1 σ H1 x v _ I1 r1 q1) λ_ s2 q=>q
theorem ZN{i:Nat}{x:Str}{e:Expr}{te:TE}{pos':Pos}(hN:X.N.Nodup)(hi:X.N[i]? = some x)(hx:Loc X.env.scope x)(he:PE X e te)(hs:swapsWith e (some (.Name x pos')) pos.line X.env=pure false:=by rfl)(hf:X.fn x=true\/X.env.scope.names.lookup x=some .local:=by first|exact .inl rfl|exact .inr rfl|assumption) :
 PS X (.Assign [.Name x pos'] e pos) (Va te (X9 i)):=by
 intro pins s σ H D I h;refine wpAny_Assign_Name (thn (he pins s σ H _ I h) λv s1 ⟨y,H1,I1,r1,q1⟩ => ?_) hs;exact Zbl I1 hN hi hx r1 (λs2 I2=>⟨_,H1,I2,q1⟩) hf
end
section
variable{X:Cx}{pos:Pos}
end
structure It where
 go:Nat->Hp->Prop
 yld:Nat->Hp->V->Hp->Prop
 stop:Nat->Hp->Prop
def YW(X:Cx)(pins:List (Addr×Obj))(H:Hp)(b:Addr):Prop:=
 H b=none/\b≠X.env.locals/\b∉X.fs/\(b∈X.ex\/X.s₀.heap.objs.size<=b)/\(∀x c,X.env.cells.lookup x=some c->c≠b)/\∀p∈X.pn++pins,p.1≠b
theorem Inv.fpOk{X:Cx}{pins:List (Addr×Obj)}{σ:St}{H H':Hp}{s:Shared}{b:Addr}(I:Inv X pins σ H s)(hb:s.heap.objs.size<=b)(hn:H' b=none):YW X pins H' b:=by
 refine⟨hn,Nat.ne_of_gt (Nat.lt_of_lt_of_le I.lt hb),I.nofs hb,.inr (Nat.le_trans I.sz hb),λx c e z => ?_,λp hp z => ?_⟩
 · obtain⟨v,q⟩:=I.cell x c e
   exact absurd (Nat.lt_of_lt_of_le q.lt (by rw [z];exact hb)) (Nat.lt_irrefl _)
 · exact absurd (Nat.lt_of_lt_of_le (Heap.lt_size (I.pin p hp).1) (by rw [z];exact hb)) (Nat.lt_irrefl _)
structure Turn(P:Program)(w:World)(K:PySem.W.Frag)(tg:Expr)(J:It)(fp:List Addr)(it:Addr)(tn:Nat->Heap->Prop):Prop where
 mem:it∈fp
 obj:∀i h,tn i h->∀b∈fp,∃o,h.get? b=some o/\∀v,o.data ≠ .cell v
 keep:∀i h h',tn i h->(∀b∈fp,∀o,h.get? b=some o->h'.get? b=some o)->tn i h'
 item:∀(X:Cx),X.prog=P->X.w=w->X.K=K->X.calm=true->∀(i:Nat)(pins:List (Addr×Obj))(s:Shared)(σ:St)(H:Hp)(E:Value->Shared->Prop),Inv X pins σ H s->(∀b∈fp,YW X pins H b)->tn i s.heap->J.go i H ->
  wpAny (model P w) X.A (pyNext (.ref it)) (λr s1=>∃u,r=some u /\
   wpAny (model P w) X.A (letOwnedTupleGo tg (.ref it) u) (λ_ s2=>∃x H',Inv X pins σ H' s2/\RelV x u/\J.yld i H x H'/\tn (i+1) s2.heap/\∀b∈fp,H' b=none) E s1) E s
 done:∀(X:Cx),X.prog=P->X.w=w->X.K=K->X.calm=true->∀(i:Nat)(pins:List (Addr×Obj))(s:Shared)(σ:St)(H:Hp)(E:Value->Shared->Prop),Inv X pins σ H s->(∀b∈fp,YW X pins H b)->tn i s.heap->J.stop i H ->
  wpAny (model P w) X.A (pyNext (.ref it)) (λr s1=>r=none/\Inv X pins σ H s1) E s
 self:∀(A:Around)(i:Nat)(s:Shared)(Q:Value->Shared->Prop)(E:Value->Shared->Prop),tn i s.heap->Q (.ref it) s->wpAny (model P w) A (pyIter (.ref it)) Q E s
abbrev TI:=St->Hp->(It->Hp->Prop)->Prop
def PIE(X:Cx)(pins:List (Addr×Obj))(σ:St)(tg:Expr)(R:It->Hp->Prop)(itv:Value)(s2:Shared):Prop:=
 ∃(it:Addr) (fp:List Addr) (tn:Nat->Heap->Prop) (J:It) (H':Hp),itv = .ref it/\Inv X pins σ H' s2/\Turn X.prog X.w X.K tg J fp it tn/\tn 0 s2.heap/\(∀b∈fp,YW X pins H' b)/\R J H'
def PI(X:Cx)(tg iter:Expr)(wi:TI):Prop:=
 ∀(pins:List (Addr×Obj))(s:Shared)(σ:St)(H:Hp)(R:It->Hp->Prop),Inv X pins σ H s->wi σ H R ->
  wpAny (model X.prog X.w) X.A (eval iter X.env) (λv s1=>wpAny (model X.prog X.w) X.A (pyIter v) (PIE X pins σ tg R) X.xe s1) X.xe s
theorem Qj {M:Model} {A:Around} {E:Value->Shared->Prop} {s:Shared} {tg:Expr} {it:Addr} {u:Value} {o:Obj} {n:String} {vs:Array Value} {Q:Unit->Shared->Prop} (ho:s.heap.get? it=some o) (hc:o.cls = .type n) (hd:o.data = .fields vs)
 (hn:["enumerate", "zip", "dict_itemiterator", "dict_reverseitemiterator", "odict_iterator", "itertools.zip_longest", "itertools.pairwise"].contains n=false) (hQ:Q () s):wpAny M A (letOwnedTupleGo tg (.ref it) u) Q E s:=by
 unfold letOwnedTupleGo
 cases tg<;>first
  |exact wpAny_pure hQ
  | (cases u <;> first
      |exact wpAny_pure hQ
      | (refine wpAny_bind (wpAny_load ho ?_)
         rw [hc,hd];show wpAny M A (if(["enumerate", "zip", "dict_itemiterator", "dict_reverseitemiterator", "odict_iterator", "itertools.zip_longest", "itertools.pairwise"].contains n&&vs[0]? == some (rawInt _))=true then _ else _) Q E s;rw [if_neg (by intro h;rw [hn,Bool.false_and]at h;cases h)];exact wpAny_pure hQ))
def Itl(K:PySem.W.Frag)(a:Addr):It:=
 ⟨λi H=>∃xs x,SqL K H a xs/\xs[i]? = some x,λi H x H'=>H'=H/\∀xs,SqL K H a xs->xs[i]? = some x,λi H=>∃xs,SqL K H a xs/\xs.length<=i⟩
def Itt(K:PySem.W.Frag)(a:Addr):It:=
 ⟨λi H=>∃xs x,SqT K H a xs/\xs[i]? = some x,λi H x H'=>H'=H/\∀xs,SqT K H a xs->xs[i]? = some x,λi H=>∃xs,SqT K H a xs/\xs.length<=i⟩
def Itr(lo:Int)(n:Nat):It:=⟨λi _=>i<n,λi H x H'=>H'=H/\x = .int (lo+i),λi _=>n<=i⟩
theorem ZcW{P:Program}{w:World}{K:PySem.W.Frag}{tg:Expr}(a it:Addr):Turn P w K tg (Itl K a) [it] it (λi h=>h.IsListIter it a i) where
 mem:=by simp
 obj:=λi h st b hb=>by
  have e:b=it:=by simpa using hb
  subst e;obtain⟨o,e,c,d⟩:=st;exact⟨o,e,λv z=>by rw [d]at z;cases z⟩
 keep:=λi h h' st k=>st.at λo e=>k it (by simp) o e
 item:=by
  intro X hP hw hK hc i pins s σ H E I hf st hg;subst hP hw hK;obtain⟨xs,x,hq,hx⟩:=hg;obtain⟨its,rv,p,hz⟩:=I.list hq;obtain⟨u,hu,ru⟩:=rv.get hx;obtain⟨f0,f1,f2,f3,f4,f5⟩:=hf it (by simp);refine wpAny_pyNext_list_item st p.isList (x:=u) (by simpa using hu) λh' st' sb => ?_
  have I1:Inv X pins σ H { s with heap:=h' }:=I.turned (t':=s.toks) (λb o hb e=>(sb.2 b hb).trans e) f0 f1 f3 f4 f5;obtain⟨o,e,c,d⟩:=id st';exact⟨u,rfl,Qj (s:={ s with heap:=h' }) e c d (by decide) ⟨x,H,I1,ru,⟨rfl,λys hy=>by rw [I.list_inj hy hq];exact hx⟩,st',λb hb=>(hf b hb).1⟩⟩
 done:=by
  intro X hP hw hK hc i pins s σ H E I hf st hg;subst hP hw hK;obtain⟨xs,hq,hx⟩:=hg;obtain⟨its,rv,p,hz⟩:=I.list hq;obtain⟨f0,f1,f2,f3,f4,f5⟩:=hf it (by simp);have hl:=rv.length;exact wpAny_pyNext_list_end (I.ok.hd hc) st p.isList (by simp;omega) λh' eb=>⟨rfl,I.turned (t':=s.toks) (λb o hb e=>eb b o hb e) f0 f1 f3 f4 f5⟩
 self:=λ_ _ _ _ _ st h=>wpAny_pyIter_listiter st h
theorem Zar{P:Program}{w:World}{K:PySem.W.Frag}{tg:Expr}(a it:Addr):Turn P w K tg (Itt K a) [it] it (λi h=>h.IsTupleIter it a i) where
 mem:=by simp
 obj:=λi h st b hb=>by
  have e:b=it:=by simpa using hb
  subst e;obtain⟨o,e,c,d⟩:=st;exact⟨o,e,λv z=>by rw [d]at z;cases z⟩
 keep:=λi h h' st k=>st.at λo e=>k it (by simp) o e
 item:=by
  intro X hP hw hK hc i pins s σ H E I hf st hg;subst hP hw hK;obtain⟨xs,x,hq,hx⟩:=hg;obtain⟨its,rv,p,hz⟩:=I.tuple hq;obtain⟨u,hu,ru⟩:=rv.get hx;obtain⟨f0,f1,f2,f3,f4,f5⟩:=hf it (by simp);refine wpAny_pyNext_tuple_item st (show s.heap.IsTuple a its.toArray from p) (x:=u) (by simpa using hu) λh' st' sb => ?_
  have I1:Inv X pins σ H { s with heap:=h' }:=I.turned (t':=s.toks) (λb o hb e=>(sb.2 b hb).trans e) f0 f1 f3 f4 f5;obtain⟨o,e,c,d⟩:=id st';exact⟨u,rfl,Qj (s:={ s with heap:=h' }) e c d (by decide) ⟨x,H,I1,ru,⟨rfl,λys hy=>by rw [I.tuple_inj hy hq];exact hx⟩,st',λb hb=>(hf b hb).1⟩⟩
 done:=by
  intro X hP hw hK hc i pins s σ H E I hf st hg;subst hP hw hK;obtain⟨xs,hq,hx⟩:=hg;obtain⟨its,rv,p,hz⟩:=I.tuple hq;obtain⟨f0,f1,f2,f3,f4,f5⟩:=hf it (by simp);have hl:=rv.length;exact wpAny_pyNext_tuple_end (I.ok.hd hc) st (show s.heap.IsTuple a its.toArray from p) (by simp;omega) λh' eb=>⟨rfl,I.turned (t':=s.toks) (λb o hb e=>eb b o hb e) f0 f1 f3 f4 f5⟩
 self:=λ_ _ _ _ _ st h=>wpAny_pyIter_tupleiter st h
theorem ZbR{P:Program}{w:World}{K:PySem.W.Frag}{tg:Expr}(it:Addr)(lo:Int)(n:Nat):Turn P w K tg (Itr lo n) [it] it (λi h=>IsRangeIter h it (lo+(i:Nat)*1) ((n:Int)-(i:Nat)) 1) where
 mem:=by simp
 obj:=λi h st b hb=>by
  have e:b=it:=by simpa using hb
  subst e
  exact⟨_,st,λv z=>by
   have z':Data.fields _=Data.cell v:=z;cases z'⟩
 keep:=λi h h' st k=>k it (by simp) _ st
 item:=by
  intro X hP hw hK hc i pins s σ H E I hf st hg;subst hP hw hK;obtain⟨f0,f1,f2,f3,f4,f5⟩:=hf it (by simp);have W:=Walks.range (prog:=X.prog) (w:=X.w) (I.ok.hd hc) it lo 1 n;refine W.item i s _ _ hg st λv h' tk hv st' kk => ?_
  obtain⟨t,rfl⟩:=hv;have I1:Inv X pins σ H { s with heap:=h',toks:=tk }:=I.turned (λb o hb e=>kk b o (by simpa using hb) e) f0 f1 f3 f4 f5;refine⟨_,rfl,Qj (s:={ s with heap:=h',toks:=tk }) (n:="range_iterator") st' rfl rfl (by decide) ⟨.int (lo+i),H,I1,⟨t,?_⟩,⟨rfl,rfl⟩,st',λb hb=>(hf b hb).1⟩⟩;rw [Int.mul_one]
 done:=by
  intro X hP hw hK hc i pins s σ H E I hf st hg;subst hP hw hK;obtain⟨f0,f1,f2,f3,f4,f5⟩:=hf it (by simp);exact wpAny_pyNext_range_end (I.ok.hd hc) st (by have:n<=i:=hg;omega) λh' eb=>⟨rfl,I.turned (t':=s.toks) (λb o hb e=>eb b o hb e) f0 f1 f3 f4 f5⟩
 self:=λ_ _ _ _ _ st h=>wpAny_pyIter_rangeiter st h
end L2
namespace L2
open PySem PySem.Spec PyProof.Rows
section
variable{X:Cx}{tg:Expr}
def Zib(K:PySem.W.Frag)(tl:TE):TI:=λσ H R=>tl σ H λx H1=>∃a,x = .ref a/\(∃xs,SqT K H1 a xs)/\R (Itt K a) H1
theorem Zf0{l:Expr}{tl:TE}(hl:PE X l tl):PI X tg l (Zib X.K tl):=by
 intro pins s σ H R I h;refine thn (hl pins s σ H _ I h) λv s1 ⟨x,H1,I1,r1,q1⟩ => ?_
 obtain⟨a,e,⟨xs,hq⟩,q⟩:=q1;subst e;cases r1;obtain⟨its,rv,p,hz⟩:=I1.tuple hq;refine wpAny_pyIter_tuple (show s1.heap.IsTuple a its.toArray from p) ?_;refine⟨s1.heap.objs.size,[s1.heap.objs.size],_,_,H1,rfl,I1.kept (t':=s1.toks) λb o e=>Heap.get?_push_of_some _ e,Zar a _,⟨_,Heap.get?_push_size _ rfl,rfl,rfl⟩,λb hb => ?_,q⟩;have e:b=s1.heap.objs.size:=by simpa using hb
 subst e;exact I1.fpOk (Nat.le_refl _) (I1.hok.fresh (Nat.le_refl _))
theorem Zbn {pins:List (Addr×Obj)} {σ:St} {H:Hp} {s:Shared} {R:It->Hp->Prop} {E:Value->Shared->Prop} {lo hi:Int} {t u v:Tok} {tk:Nat} (I:Inv X pins σ H s) (h1 : -(2 ^ 62)<=lo) (h2:lo<2 ^ 62) (h3 : -(2 ^ 62)<=hi) (h4:hi<2 ^ 62)
 (q:R (Itr lo (hi-lo).toNat) H):wpAny (model X.prog X.w) X.A (pyIter (.ref s.heap.objs.size)) (PIE X pins σ tg R) E { s with heap:=s.heap.push { cls := .type "range",data := .fields #[.int lo t,.int hi u,.int 1 v] },toks:=tk }:=by
 refine wpAny_pyIter_range (IsRange.new ..) (small_one h1 h2 h3 h4) ?_;have I1:Inv X pins σ H { s with heap:=s.heap.push { cls := .type "range",data := .fields #[.int lo t,.int hi u,.int 1 v] },toks:=tk }:=I.kept λb o e=>Heap.get?_push_of_some _ e
 refine⟨(s.heap.push { cls := .type "range",data := .fields #[.int lo t,.int hi u,.int 1 v] }).objs.size,[(s.heap.push { cls := .type "range",data := .fields #[.int lo t,.int hi u,.int 1 v] }).objs.size],_,_,H,rfl,
  I1.kept (t':=tk) λb o e=>Heap.get?_push_of_some _ e,ZbR _ lo (hi-lo).toNat,?_,λb hb => ?_,q⟩
 · have e1:lo+((0:Nat):Int)*1=lo:=by simp
   have e2:(((hi-lo).toNat:Nat):Int)-((0:Nat):Int)=Builtin.Range.rangeSize lo hi 1:=by rw [rangeSize_one];split<;>omega
   show IsRangeIter _ _ (lo+((0:Nat):Int)*1) ((((hi-lo).toNat:Nat):Int)-((0:Nat):Int)) 1;rw [e1,e2];exact Heap.get?_push_size _ rfl
 · have e:b=(s.heap.push { cls := .type "range",data := .fields #[.int lo t,.int hi u,.int 1 v] }).objs.size:=by simpa using hb
   subst e;exact I1.fpOk (Nat.le_refl _) (I1.hok.fresh (Nat.le_refl _))
def Zfp(ta:TA):TI:=λσ H R=>ta σ H λvs H1=>∃j:Int,vs=[.int j] /\ -(2 ^ 62)<=j/\j<2 ^ 62/\R (Itr 0 j.toNat) H1
def Zfq(ta:TA):TI:=λσ H R=>ta σ H λvs H1=>∃i j:Int,vs=[.int i,.int j]/\(-(2 ^ 62)<=i/\i<2 ^ 62 /\ -(2 ^ 62)<=j/\j<2 ^ 62)/\R (Itr i (j-i).toNat) H1
theorem V6 {a:Expr} {ta:TA} {p pos:Pos} (hg:Gl X "range") (hm:X.mg "range" = none) (ha:PA X [a] ta) (hs:starEach [a] X.env=[(false,eval a X.env)]:=by rfl):PI X tg (.Call (.Name "range" p) [a] [] pos) (Zfp ta):=by
 intro pins s σ H R I h;refine Call_ (Ut I hg hm boot_range (PyProof.Rows.callWith_type1 (thn (ha pos pins s σ H _ I h) λus s1 ⟨vs,H1,I1,r1,q1⟩ => ?_) hs rfl));obtain⟨j,e,q1,q2,q⟩:=q1;subst e;cases r1 with
 |cons r rr=>
  cases rr;obtain⟨t,rfl⟩:=r;exact call_range_1 (Zbn I1 (by omega) (by omega) q1 q2 (by simpa using q))
theorem ZcX {a b:Expr} {ta:TA} {p pos:Pos} (hg:Gl X "range") (hm:X.mg "range" = none) (ha:PA X [a,b] ta) (hs:starEach [a,b] X.env=[(false,eval a X.env),(false,eval b X.env)]:=by rfl) (hs2:starEach [b] X.env=[(false,eval b X.env)]:=by rfl) :
 PI X tg (.Call (.Name "range" p) [a,b] [] pos) (Zfq ta):=by
 intro pins s σ H R I h;refine Call_ (Ut I hg hm boot_range (PyProof.Rows.callWith_type1 (thn (ha pos pins s σ H _ I h) λus s1 ⟨vs,H1,I1,r1,q1⟩ => ?_) (by rw [hs,hs2]) (by rw [hs2];rfl)));obtain⟨i,j,e,⟨q1,q2,q3,q4⟩,q⟩:=q1;subst e;cases r1 with
 |cons r rr=>
  cases rr with
  |cons r' rr=>
   cases rr;obtain⟨t,rfl⟩:=r;obtain⟨t',rfl⟩:=r';exact call_range_2 (Zbn I1 q1 q2 q3 q4 q)
def ZhN(wi:TI)(g:TG)(tb:TS):TS:=λD σ H=>wi σ H λJ H1=>∃W:Nat->Nat->St->Hp->Prop,(∃m,W 0 m σ H1)/\∀i m σ H,W i m σ H ->
 (J.stop i H/\D.nx σ H)\/(J.go i H/\∃N:St->Hp->Prop,(∀σ' H',N σ' H'->∃m',m'<m/\W (i+1) m' σ' H')/\∀x H',J.yld i H x H'->g x σ H' λσ2 H2=>tb { D with nx:=N,ct:=N,bk:=D.nx } σ2 H2)
def XH(fp:List Addr)(h:Heap):List (Addr×Obj):=fp.filterMap λb=>(h.get? b).map λo=>(b,o)
theorem Qk{fp:List Addr}{h:Heap}{b:Addr}{o:Obj}(hb:b∈fp)(e:h.get? b=some o):(b,o)∈XH fp h:=List.mem_filterMap.mpr ⟨b,hb,by rw [e];rfl⟩
theorem ZaN{fp:List Addr}{h:Heap}{p:Addr×Obj}(hp:p∈XH fp h):p.1∈fp/\h.get? p.1=some p.2:=by
 obtain⟨b,hb,e⟩:=List.mem_filterMap.mp hp;cases q:h.get? b with
 |none=>rw [q]at e;cases e
 |some o=>
  rw [q]at e;have e':(b,o)=p:=Option.some.inj e;subst e';exact⟨hb,q⟩
theorem Inv.pinned{pins:List (Addr×Obj)}{σ:St}{H:Hp}{s:Shared}{fp:List Addr}(I:Inv X pins σ H s)(hf:∀b∈fp,YW X pins H b)(ho:∀b∈fp,∃o,s.heap.get? b=some o/\∀v,o.data ≠ .cell v):Inv X (pins++XH fp s.heap) σ H s:=
 I.pins_of λp hp=>(List.mem_append.mp hp).elim (λz=>I.pin p (List.mem_append_right _ z)) λz=>by
  obtain⟨hb,e⟩:=ZaN z;obtain⟨f0,f1,f2,_⟩:=hf p.1 hb;obtain⟨o,e',d⟩:=ho p.1 hb;rw [e]at e';cases e';exact⟨e,f0,f1,f2,d⟩
theorem Inv.unpinned{pins pl:List (Addr×Obj)}{σ:St}{H:Hp}{s:Shared}(I:Inv X (pins++pl) σ H s):Inv X pins σ H s:=I.pins_of λp hp=>I.pin p (List.mem_append_right _ (List.mem_append_left _ hp))
theorem XI {iter:Expr} {body:List Stmt} {wi:TI} {g:TG} {tb:TS} {pos:Pos} (hp:PassesOwn (model X.prog X.w) X.A X.env X.xe) (hc:X.calm=true) (hi:PI X tg iter wi) (hg:PG X tg g) (hb:PSs X body tb)
 (hs:∀x,foldedSetIterable iter X.env x=pure x:=by intro _;rfl):PS X (.For tg iter body [] pos) (ZhN wi g tb):=by
 intro pins s σ H D I h;refine wpAny_For (thn (hi pins s σ H _ I h) λv s1 h1=>thn h1 λitv s2 h2 => ?_) hs;obtain⟨it,fp,tn,J,H2,e,I2,T,st2,f2,W,⟨m0,w0⟩,turn⟩:=h2;subst e;have stat:∀{H':Hp},(∀b∈fp,H' b=none)->∀b∈fp,YW X pins H' b:=λhn b hb=>⟨hn b hb,(f2 b hb).2⟩
 refine codeAny_forLoop_any (λn s'=>∃i σ' H',Inv X pins σ' H' s'/\tn i s'.heap/\(∀b∈fp,H' b=none)/\W i n σ' H') ?_ m0 ⟨0,σ,H2,I2,st2,λb hb=>(f2 b hb).1,w0⟩
 rintro n s3 ⟨i,σ3,H3,I3,st3,fr3,w3⟩
 rcases turn i n σ3 H3 w3 with⟨stop,qn⟩|⟨go,N,hN,step⟩
 · refine wpAny_passesOwn hp (thn (T.done X rfl rfl rfl hc i pins s3 σ3 H3 X.xe I3 (stat fr3) st3 stop) λr s4 ⟨hr,I4⟩ => ?_)
   subst hr;exact wpAny_execs_nil ⟨σ3,H3,I4,qn⟩
 · refine wpAny_passesOwn hp (thn (T.item X rfl rfl rfl hc i pins s3 σ3 H3 X.xe I3 (stat fr3) st3 go) λr s4 ⟨u,hr,h4⟩ => ?_)
   subst hr;refine wpAny_passesOwn hp (thn h4 λ_ s5 ⟨x,H5,I5,r5,y5,st5,fr5⟩ => ?_);have I5':=I5.pinned (stat fr5) (T.obj _ _ st5);refine wpAny_passesOwn hp (thn (hg _ s5 σ3 H5 x u _ I5' r5 (step x H5 y5)) λ_ s6 ⟨σ6,H6,I6,q6⟩ => ?_);refine wpAny_passesOwn hp (thn (hb _ s6 σ6 H6 _ I6 q6) λf s7 q7 => ?_)
   have again:∀{σ7:St}{H7:Hp},Inv X (pins++XH fp s5.heap) σ7 H7 s7->N σ7 H7->∃m,m<n/\∃i σ' H',Inv X pins σ' H' s7/\tn i s7.heap/\(∀b∈fp,H' b=none)/\W i m σ' H':=λ{σ7 H7} I7 n7=>by
    obtain⟨m',hm,w7⟩:=hN σ7 H7 n7;refine⟨m',hm,i+1,σ7,H7,I7.unpinned,T.keep _ _ _ st5 λb hb o e=>(I7.pin (b,o) (List.mem_append_right _ (List.mem_append_right _ (Qk hb e)))).1,λb hb => ?_,w7⟩;obtain⟨o,e,d⟩:=T.obj _ _ st5 b hb;exact(I7.pin (b,o) (List.mem_append_right _ (List.mem_append_right _ (Qk hb e)))).2.1
   cases f with
   |next=>obtain⟨σ7,H7,I7,n7⟩:=q7;exact again I7 n7
   |cont=>obtain⟨σ7,H7,I7,n7⟩:=q7;exact again I7 n7
   |brk=>obtain⟨σ7,H7,I7,q7⟩:=q7;exact⟨σ7,H7,I7.unpinned,q7⟩
   |ret v=>obtain⟨x7,σ7,H7,I7,r7,q7⟩:=q7;exact⟨x7,σ7,H7,I7.unpinned,r7,q7⟩
end
end L2
namespace L2
open PySem PySem.Spec PyProof.Rows
abbrev R2:=V->V->Hp->VK->Prop
def OpR(X:Cx)(f:Value->Value->Sem Value)(r:R2):Prop:=
 ∀(pins:List (Addr×Obj))(s:Shared)(σ:St)(H:Hp)(x y:V)(v u:Value)(Q:VK),Inv X pins σ H s->RelV x v->RelV y u->r x y H Q ->
  wpAny (model X.prog X.w) X.A (f v u) (EP X pins σ Q) X.xe s
def YD(X:Cx)(f:Value)(r:List V->Hp->VK->Prop):Prop:=
 ∀(pins:List (Addr×Obj))(s:Shared)(σ:St)(H:Hp)(xs:List V)(us:List Value)(Q:VK),Inv X pins σ H s->Vals xs us->r xs H Q ->
  wpAny (model X.prog X.w) X.A (call f us) (EP X pins σ Q) X.xe s
def tOp(r:R2)(ta tb:TE):TE:=λσ H Q=>ta σ H λx H1=>tb σ H1 λy H2=>r x y H2 Q
def rI(C:Int->Int->Prop)(g:Int->Int->V):R2:=λx y H Q=>∃i j,x = .int i/\y = .int j/\C i j/\Q (g i j) H
def rI0(g:Int->Int->V):R2:=λx y H Q=>∃i j,x = .int i/\y = .int j/\Q (g i j) H
section
variable{X:Cx}{a b c:Expr}{ta tb tc:TE}{pos:Pos}
theorem Jj (ha:PE X a ta) (hb:PE X b tb) {pins:List (Addr×Obj)} {s:Shared} {σ:St} {H:Hp} {R:V->V->Hp->Prop} (I:Inv X pins σ H s)
 (h:ta σ H λx H1=>tb σ H1 λy H2=>R x y H2) {Q:Value->Shared->Prop} {f:Value->Value->Sem Value}
 (hf:∀v u s2 x y H2,Inv X pins σ H2 s2->RelV x v->RelV y u->R x y H2->wpAny (model X.prog X.w) X.A (f v u) Q X.xe s2) :
 wpAny (model X.prog X.w) X.A (eval a X.env) (λv s₁=>wpAny (model X.prog X.w) X.A (eval b X.env) (λu s₂=>wpAny (model X.prog X.w) X.A (f v u) Q X.xe s₂) X.xe s₁) X.xe s:=by
 refine thn (ha pins s σ H _ I h) λv s1 ⟨x,H1,I1,r1,q1⟩ => ?_
 refine thn (hb pins s1 σ H1 _ I1 q1) λu s2 ⟨y,H2,I2,r2,q2⟩ => ?_
 exact hf v u s2 x y H2 I2 r1 r2 q2
theorem ZL{op:Operator}{r:R2}(ho:OpR X (binaryOp op) r)(ha:PE X a ta)(hb:PE X b tb):PE X (.BinOp a op b pos) (tOp r ta tb):=by
 intro pins s σ H Q I h;exact wpAny_BinOp (Jj ha hb I h λv u s2 x y H2 I2 rx ry q=>ho pins s2 σ H2 x y v u Q I2 rx ry q)
theorem opI {f:Value->Value->Sem Value} {C:Int->Int->Prop} {g:Int->Int->Int}
 (rule:∀(i j:Int)(t u:Tok)(s:Shared)(Q:Value->Shared->Prop)(E:Value->Shared->Prop),C i j->Q (.int (g i j) s.toks) { s with toks:=s.toks+1 }->wpAny (model X.prog X.w) X.A (f (.int i t) (.int j u)) Q E s) :
 OpR X f (rI C λi j => .int (g i j)):=by
 intro pins s σ H x y v u Q I rx ry h;obtain⟨i,j,rfl,rfl,hc,q⟩:=h;obtain⟨t,rfl⟩:=rx;obtain⟨t',rfl⟩:=ry;exact rule i j t t' s _ _ hc ⟨.int (g i j),H,I.tok _,⟨_,rfl⟩,q⟩
theorem ZhO {f:Value->Value->Sem Value} {g:Int->Int->Int}
 (rule:∀(i j:Int)(t u:Tok)(s:Shared)(Q:Value->Shared->Prop)(E:Value->Shared->Prop),Q (.int (g i j) s.toks) { s with toks:=s.toks+1 }->wpAny (model X.prog X.w) X.A (f (.int i t) (.int j u)) Q E s) :
 OpR X f (rI0 λi j => .int (g i j)):=by
 intro pins s σ H x y v u Q I rx ry h;obtain⟨i,j,rfl,rfl,q⟩:=h;obtain⟨t,rfl⟩:=rx;obtain⟨t',rfl⟩:=ry;exact rule i j t t' s _ _ ⟨.int (g i j),H,I.tok _,⟨_,rfl⟩,q⟩
theorem Qm {f:Value->Value->Sem Value} {g:Int->Int->Bool}
 (rule:∀(i j:Int)(t u:Tok)(s:Shared)(Q:Value->Shared->Prop)(E:Value->Shared->Prop),Q (.bool (g i j)) s->wpAny (model X.prog X.w) X.A (f (.int i t) (.int j u)) Q E s) :
 OpR X f (rI0 λi j => .bl (g i j)):=by
 intro pins s σ H x y v u Q I rx ry h;obtain⟨i,j,rfl,rfl,q⟩:=h;obtain⟨t,rfl⟩:=rx;obtain⟨t',rfl⟩:=ry;exact rule i j t t' s _ _ ⟨.bl (g i j),H,I,rfl,q⟩
def UR(i j:Int):Prop:=0<j/\j<1073741824
def ZhP(i j:Int):Prop:=0<=j/\j<=1000000/\i.natAbs<2 ^ 64
def CMul(i j:Int):Prop:=(-(2 ^ 64)<i/\i<2 ^ 64)\/(-(2 ^ 64)<j/\j<2 ^ 64)
theorem CMul.ok{i j:Int}(h:CMul i j):IntMulOk i j:=by
 rcases h with⟨h1,h2⟩|⟨h1,h2⟩
 · exact .of_left (intBits_le_64 h1 h2)
 · exact .of_right (intBits_le_64 h1 h2)
theorem op_add:OpR X (binaryOp .Add) (rI0 λi j => .int (i+j)):=ZhO λ_ _ _ _ _ _ _ q=>add_int q
theorem Zd1:OpR X (binaryOp .Sub) (rI0 λi j => .int (i-j)):=ZhO λ_ _ _ _ _ _ _ q=>sub_int q
theorem Vb:OpR X (binaryOp .Mod) (rI (λ_ j=>j≠0) λi j => .int (i.fmod j)):=opI λ_ _ _ _ _ _ _ hc q=>mod_int' hc q
end
def XJ:V->V->Bool
 | .non,.non=>true | .non,.int _=>true | .int _,.non=>true | .non,.bl _=>true | .bl _,.non=>true | .non,.str _=>true | .str _,.non=>true
 | .int _,.int _=>true | .bl _,.bl _=>true | .str _,.str _=>true | .byt _,.byt _=>true
 | .int _,.str _=>true | .str _,.int _=>true | .bl _,.str _=>true | .str _,.bl _=>true
 |_,_=>false
def rEq:R2:=λx y H Q=>XJ x y=true/\Q (.bl (decide (x=y))) H
def rNe:R2:=λx y H Q=>XJ x y=true/\Q (.bl (!decide (x=y))) H
theorem Zcn{i j:Int}:decide (V.int i=V.int j)=(i == j):=by
 rw [Bool.eq_iff_iff];simp
theorem Zd2{i j:Bool}:decide (V.bl i=V.bl j)=(i == j):=by
 rw [Bool.eq_iff_iff];simp
theorem Zco{i j:Str}:decide (V.str i=V.str j)=(i == j):=by
 rw [Bool.eq_iff_iff];simp
theorem Zcp{i j:Array UInt8}:decide (V.byt i=V.byt j)=(i.toList == j.toList):=by
 rw [Bool.eq_iff_iff];cases i;cases j;simp
section
variable{X:Cx}{a b c:Expr}{ta tb tc:TE}{pos:Pos}
theorem ZZ{pins:List (Addr×Obj)}{σ:St}{H:Hp}{s:Shared}{Q:VK}{k k':Bool}(I:Inv X pins σ H s)(q:Q (.bl k) H)(e:k=k'):EP X pins σ Q (.bool k') s:=by
 subst e;exact⟨.bl k,H,I,rfl,q⟩
theorem ZgB:OpR X (compareOp .Eq) rEq:=by
 intro pins s σ H x y v u Q I rx ry h;obtain⟨hs,q⟩:=h;cases x with
 |non=>
  cases rx;cases y with
  |non=>cases ry;exact PySem.EqNone.eq_none_none (ZZ I q (by simp))
  |bl j=>cases ry;exact PySem.EqNone.eq_none_bool (ZZ I q (by simp))
  |int j=>obtain⟨t',rfl⟩:=ry;exact PySem.EqNone.eq_none_int (ZZ I q (by simp))
  |str j=>obtain⟨t',rfl⟩:=ry;exact PySem.EqNone.eq_none_str (ZZ I q (by simp))
  |_=>exact absurd (show false=true from hs) Bool.false_ne_true
 |bl i=>
  cases rx;cases y with
  |non=>cases ry;exact PySem.EqNone.eq_bool_none (ZZ I q (by simp))
  |bl j=>cases ry;exact eq_bool (ZZ I q Zd2)
  |str j=>obtain⟨t',rfl⟩:=ry;exact PySem.EqMixed.eq_bool_str (ZZ I q (by simp))
  |_=>exact absurd (show false=true from hs) Bool.false_ne_true
 |int i=>
  obtain⟨t,rfl⟩:=rx;cases y with
  |non=>cases ry;exact PySem.EqNone.eq_int_none (ZZ I q (by simp))
  |int j=>obtain⟨t',rfl⟩:=ry;exact eq_int (ZZ I q Zcn)
  |str j=>obtain⟨t',rfl⟩:=ry;exact PySem.EqMixed.eq_int_str (ZZ I q (by simp))
  |_=>exact absurd (show false=true from hs) Bool.false_ne_true
 |str i=>
  obtain⟨t,rfl⟩:=rx;cases y with
  |non=>cases ry;exact PySem.EqNone.eq_str_none (ZZ I q (by simp))
  |bl j=>cases ry;exact PySem.EqMixed.eq_str_bool (ZZ I q (by simp))
  |int j=>obtain⟨t',rfl⟩:=ry;exact PySem.EqMixed.eq_str_int (ZZ I q (by simp))
  |str j=>obtain⟨t',rfl⟩:=ry;exact eq_str (ZZ I q Zco)
  |_=>exact absurd (show false=true from hs) Bool.false_ne_true
 |byt i=>
  obtain⟨t,rfl⟩:=rx;cases y with
  |byt j=>obtain⟨t',rfl⟩:=ry;exact PySem.W.eq_bytes (ZZ I q Zcp)
  |_=>exact absurd (show false=true from hs) Bool.false_ne_true
 |_=>cases y<;>exact absurd (show false=true from hs) Bool.false_ne_true
theorem ZgC:OpR X (compareOp .NotEq) rNe:=by
 intro pins s σ H x y v u Q I rx ry h;obtain⟨hs,q⟩:=h;cases x with
 |non=>
  cases rx;cases y with
  |non=>cases ry;exact PySem.EqNone.ne_none_none (ZZ I q (by simp))
  |bl j=>cases ry;exact PySem.EqNone.ne_none_bool (ZZ I q (by simp))
  |int j=>obtain⟨t',rfl⟩:=ry;exact PySem.EqNone.ne_none_int (ZZ I q (by simp))
  |str j=>obtain⟨t',rfl⟩:=ry;exact PySem.EqNone.ne_none_str (ZZ I q (by simp))
  |_=>exact absurd (show false=true from hs) Bool.false_ne_true
 |bl i=>
  cases rx;cases y with
  |non=>cases ry;exact PySem.EqNone.ne_bool_none (ZZ I q (by simp))
  |bl j=>cases ry;exact ne_bool (ZZ I q (congrArg not Zd2))
  |str j=>obtain⟨t',rfl⟩:=ry;exact PySem.EqMixed.ne_bool_str (ZZ I q (by simp))
  |_=>exact absurd (show false=true from hs) Bool.false_ne_true
 |int i=>
  obtain⟨t,rfl⟩:=rx;cases y with
  |non=>cases ry;exact PySem.EqNone.ne_int_none (ZZ I q (by simp))
  |int j=>obtain⟨t',rfl⟩:=ry;exact ne_int (ZZ I q (congrArg not Zcn))
  |str j=>obtain⟨t',rfl⟩:=ry;exact PySem.EqMixed.ne_int_str (ZZ I q (by simp))
  |_=>exact absurd (show false=true from hs) Bool.false_ne_true
 |str i=>
  obtain⟨t,rfl⟩:=rx;cases y with
  |non=>cases ry;exact PySem.EqNone.ne_str_none (ZZ I q (by simp))
  |bl j=>cases ry;exact PySem.EqMixed.ne_str_bool (ZZ I q (by simp))
  |int j=>obtain⟨t',rfl⟩:=ry;exact PySem.EqMixed.ne_str_int (ZZ I q (by simp))
  |str j=>obtain⟨t',rfl⟩:=ry;exact ne_str (ZZ I q (congrArg not Zco))
  |_=>exact absurd (show false=true from hs) Bool.false_ne_true
 |byt i=>
  obtain⟨t,rfl⟩:=rx;cases y with
  |byt j=>obtain⟨t',rfl⟩:=ry;exact PySem.W.ne_bytes (ZZ I q (congrArg not Zcp))
  |_=>exact absurd (show false=true from hs) Bool.false_ne_true
 |_=>cases y<;>exact absurd (show false=true from hs) Bool.false_ne_true
theorem Jk:OpR X (compareOp .Lt) (rI0 λi j => .bl (decide (i<j))):=Qm λ_ _ _ _ _ _ _ q=>lt_int q
theorem ZgD:OpR X (compareOp .LtE) (rI0 λi j => .bl (decide (i<=j))):=Qm λ_ _ _ _ _ _ _ q=>le_int q
theorem Jl:OpR X (compareOp .Gt) (rI0 λi j => .bl (decide (j<i))):=Qm λ_ _ _ _ _ _ _ q=>gt_int q
theorem ZgE:OpR X (compareOp .GtE) (rI0 λi j => .bl (decide (j<=i))):=Qm λ_ _ _ _ _ _ _ q=>ge_int q
theorem ZcY:OpR X (compareOp .In) (λx y H Q=>∃i j,x = .str i/\y = .str j/\Q (.bl (!(Builtin.Str.occurrences j i 0 j.length 1).isEmpty)) H):=by
 intro pins s σ H x y v u Q I rx ry h;obtain⟨i,j,rfl,rfl,q⟩:=h;obtain⟨t,rfl⟩:=rx;obtain⟨t',rfl⟩:=ry;exact in_str (ZZ I q rfl)
theorem OpR.or{f:Value->Value->Sem Value}{r r':R2}(h:OpR X f r)(h':OpR X f r'):OpR X f (λx y H Q=>r x y H Q\/r' x y H Q):=by
 intro pins s σ H x y v u Q I rx ry q;rcases q with q|q
 · exact h pins s σ H x y v u Q I rx ry q
 · exact h' pins s σ H x y v u Q I rx ry q
theorem Yp(b:Expr){op:CmpOp}(h:op ≠ .In:=by decide)(h2:op ≠ .NotIn:=by decide):behindInMarks op b=false:=by
 have e1:(op == CmpOp.In)=false:=by cases op<;>first|rfl|exact absurd rfl h
 have e2:(op == CmpOp.NotIn)=false:=by cases op<;>first|rfl|exact absurd rfl h2
 cases b<;>simp [behindInMarks,e1,e2]
theorem Jm{op:CmpOp}{r:R2}(ho:OpR X (compareOp op) r)(ha:PE X a ta)(hb:PE X b tb)(hm:behindInMarks op b=false):PE X (.Compare a [op] [b] pos) (tOp r ta tb):=by
 intro pins s σ H Q I h;exact wpAny_Compare1 (Jj ha hb I h λv u s2 x y H2 I2 rx ry q=>ho pins s2 σ H2 x y v u Q I2 rx ry q) hm
def Zfr(t:TE):TT:=λσ H Q=>t σ H λx H'=>∃k,x = .bl k/\Q k H'
theorem Yg{op:CmpOp}{r:R2}(ho:OpR X (compareOp op) r)(ha:PE X a ta)(hb:PE X b tb)(hm:behindInMarks op b=false):PT X (.Compare a [op] [b] pos) (Zfr (tOp r ta tb)):=by
 intro pins s σ H Q I h
 refine wpAny_isTrue_Compare1 (thn (ha pins s σ H _ I h) λv s1 ⟨x,H1,I1,r1,q1⟩=>thn (hb pins s1 σ H1 _ I1 q1) λu s2 ⟨y,H2,I2,r2,q2⟩=>
  thn (ho pins s2 σ H2 x y v u _ I2 r1 r2 q2) λc s3 ⟨z,H3,I3,r3,k,e,q3⟩ => ?_) hm
 subst e;cases r3;exact wpAny_truthy_bool ⟨H3,I3,q3⟩
theorem Ux:(sizeLine:Nat)<2 ^ 63:=by rw [sizeLine_eq];decide
theorem ZbS:OpR X (binaryOp .Add) (λx y H Q=>∃i j,x = .str i/\y = .str j/\i.length+j.length<=sizeLine/\Q (.str (i++j)) H):=by
 intro pins s σ H x y v u Q I rx ry h;obtain⟨i,j,rfl,rfl,hz,q⟩:=h;obtain⟨t,rfl⟩:=rx;obtain⟨t',rfl⟩:=ry;exact add_str (λt' tk=>⟨.str (i++j),H,I.tok _,⟨_,rfl⟩,q⟩) hz
theorem Xm{x:V}{us:List Value}(r:Vals [x] us):∃u,us=[u]/\RelV x u:=by
 cases r with
 |cons r1 r2=>cases r2;exact⟨_,rfl,r1⟩
theorem Zfs{x y:V}{us:List Value}(r:Vals [x,y] us):∃u w',us=[u,w']/\RelV x u/\RelV y w':=by
 cases r with
 |cons r1 r2=>
  cases r2 with
  |cons r3 r4=>cases r4;exact⟨_,_,rfl,r1,r3⟩
theorem ZcZ:YD X (.type "int") (λxs H Q=>(∃i,xs=[.int i]/\Q (.int i) H)\/∃k,xs=[.bl k]/\Q (.int (if k then 1 else 0)) H):=by
 intro pins s σ H xs us Q I r h;rcases h with⟨i,rfl,q⟩|⟨k,rfl,q⟩
 · obtain⟨u,rfl,t,rfl⟩:=Xm r
   exact call_int_int ⟨.int i,H,I,⟨_,rfl⟩,q⟩
 · obtain⟨u,rfl,r1⟩:=Xm r
   cases r1;exact call_int_bool ⟨.int (if k then 1 else 0),H,I.tok _,⟨_,rfl⟩,q⟩
theorem Za5:YD X (.type "str") (λxs H Q=>∃i,xs=[.int i]/\i.natAbs.log2<1920/\Q (.str (toString i)) H):=by
 intro pins s σ H xs us Q I r h;obtain⟨i,rfl,hz,q⟩:=h;obtain⟨u,rfl,t,rfl⟩:=Xm r;exact PySem.P.str_of_int hz ⟨.str _,H,I.tok _,⟨_,rfl⟩,q⟩
end
end L2
namespace L2
open PySem PySem.Spec PyProof.Rows
structure ObjM(h:Heap)(x dx C:Addr)(mA:Str->Option Value):Prop where
 obj:h.get? x=some (instObj C dx)
 ns:h.Ns1 dx mA
 ne:dx≠x
theorem Zc0{h:Heap}{dx:Addr}{mA:Str->Option Value}(n:h.Ns1 dx mA):∃od,h.get? dx=some od/\∀name,PySem.W.lookIn name od=some (mA name):=by
 obtain⟨o,es,ep,ho,hd,hk,_,hm⟩:=n;refine⟨o,ho,λname => ?_⟩;have e:=hm name;unfold nsFind findBy at e;rw [<-Array.find?_toList]at e;unfold PySem.W.lookIn;rw [hd];dsimp only
 split
 · rename_i y q
   rw [q]at e;exact congrArg some e
 · rename_i q
   rw [q]at e
   have a:es.toList.any (·.refKey)=false:=by
    rw [List.any_eq_false];intro y hy;obtain⟨z,t,hkey⟩:=hk y (Array.mem_toList_iff.mp hy);simp [DictEntry.refKey,hkey]
   have a':¬es.toList.any (·.refKey)=true:=by rw [a];exact Bool.false_ne_true
   rw [if_neg a'];exact congrArg some e
theorem ObjM.look{h:Heap}{x dx C:Addr}{mA:Str->Option Value}(I:ObjM h x dx C mA):∃od,PySem.W.InstAt h x (instObj C dx) C (some od)/\∀name,PySem.W.lookIn name od=some (mA name):=
 let⟨od,ho,hl⟩:=Zc0 I.ns
 ⟨od,⟨I.obj,rfl,rfl,ho⟩,hl⟩
section
variable{prog:Program}{w:World}{A:Around}{E:Value->Shared->Prop}{s:Shared}{K:PySem.W.Frag}{x dx C f:Addr}{mA:Str->Option Value}{name:Str}{v:Value}
theorem Zew {expr:Bool} {Q:Value->Shared->Prop} (X:K.In s.heap) (I:ObjM s.heap x dx C mA) (hg:PySem.W.plainGet K C name=true) (hh:PySem.W.hasDictIn K C=true)
 (ha:PySem.W.findIn K (.ref C) name=some none) (hv:mA name=some v) (hv':PySem.W.handedIn v=true) (h:Q v { s with toks:=s.toks+1 }) :
 wpAny (model prog w) A (getAttr (.ref x) name expr) Q E s:=by
 obtain⟨od,J,hl⟩:=I.look;exact PySem.W.get_value X J (PySem.W.plainGet_of hg).1 (PySem.W.findObj_own hh ha rfl (by rw [hl,hv])) hv' h
theorem Zdq {pl:Sem Bool} {Q:Value×List Value->Shared->Prop} (X:K.In s.heap) (I:ObjM s.heap x dx C mA) (hg:PySem.W.plainGet K C name=true)
 (hf:PySem.W.findIn K (.ref C) name=some (some (.ref f))) (ht:isFn K (.ref f)=true) (hv:mA name=none) (h:Q (.ref f,[.ref x]) s) :
 wpAny (model prog w) A (getMethod (.ref x) name pl) Q E s:=by
 obtain⟨od,J,hl⟩:=I.look;exact PySem.W.method_fn X J (PySem.W.plainGet_of hg).1 (PySem.W.plainGet_of hg).2 hf (beq_iff_eq.mp ht) (by show(PySem.W.lookIn name od).map (·.isSome)=some false;rw [hl,hv];rfl) h
theorem Zex {ns:List Str} {Q:Unit->Shared->Prop} (X:K.In s.heap) (I:ObjM s.heap x dx C mA)
 (hs:PySem.W.findIn K (.ref C) "__setattr__" = some (some (.builtin "object.__setattr__"))) (hp:PySem.W.plainOver K C=true) (ht:PySem.W.takerIn K C name=some none) (hh:PySem.W.hasDictIn K C=true)
 (hw:PySem.Within mA ns) (hsz:ns.length<=sizeLine)
 (h:∀h',ObjM h' x dx C (λy=>if y=name then some v else mA y)->Heap.SameBut dx s.heap h'->Q () { s with heap:=h',toks:=s.toks+2 }) :
 wpAny (model prog w) A (setAttr (.ref x) name v) Q E s:=by
 obtain⟨od,J,hl⟩:=I.look;refine PySem.W.set_plain X J hs (PySem.W.osa_open (s:={ s with toks:=s.toks+1 }) (r:=none) X J hp ht λb => ?_);obtain⟨cd,hc,hd'⟩:=PySem.W.any_some hh;have hx:s.heap.get? x=some ⟨.ref C,some dx,.plain,#[]⟩:=I.obj;refine wpAny_bind (wpAny_pure (wpAny_bind (wpAny_bind (wpAny_loadPart hx (wpAny_bind (PySem.W.Looks.here (s:={ s with toks:=s.toks+1 }) (PySem.W.looks_clsIn X hc) ?_))))))
 rw [hd'];refine wpAny_pure (a:=some dx) (wpAny_bind (wpAny_pure (wpAny_bind ?_)));refine wpAny_nsSet1 (s:={ s with toks:=s.toks+1 }) I.ns λh' hn2 hs2 => ?_
 obtain⟨oD,esD,epD,hoD,hdD,hcD⟩:=hn2.count (PySem.Within.cons name v hw);refine wpAny_bind (wpAny_lookBehind hoD (by rw [hdD];exact pastItsLine_dict (Nat.le_trans hcD (by rw [List.length_cons];omega))) ?_);exact wpAny_pure (h _ ⟨(hs2.2 _ (Ne.symm I.ne)).trans I.obj,hn2,I.ne⟩ hs2)
theorem Zdr {R:Result->Shared->Prop} {vs:List Value} {kw:List (Str×Value)} (X:K.In s.heap) (hm:PySem.W.makesIn K C=true)
 (hi:PySem.W.findIn K (.ref C) "__init__" = some (some (.ref f))) (hf:PySem.W.typeIn K (.ref f)=some (.type "function"))
 (h:codeAny (model prog w) (A.under (.builtin "type.__call__" ⟨.ref C::vs,kw⟩)) (.call (.ref f) ⟨.ref (s.heap.objs.size+1)::vs,kw⟩) (PySem.W.InitBack (s.heap.objs.size+1) R)
   { s with heap:=(s.heap.push emptyDict).push (instObj C s.heap.objs.size) }) :
 codeAny (model prog w) A (.call (.ref C) ⟨vs,kw⟩) R s:=by
 obtain⟨hh,g,d,t,os⟩:=s;exact PySem.W.make_core (PySem.W.makes_of X hm) (PySem.W.looks_findIn X hi) (λself=>PySem.W.bind_fn X self hf) (.inl rfl) h
end
def Yt(f:Str)(v:V):List (Str×V)->List (Str×V)
 | []=>[(f,v)]
 |(g,x)::r=>if g=f then(g,v)::r else(g,x)::Yt f v r
theorem Zak(f g:Str)(v:V):∀fs:List (Str×V),(Yt f v fs).lookup g=if g=f then some v else fs.lookup g
 | []=>by
  show List.lookup g [(f,v)]=_
  by_cases h:g=f
  · have hb:(g == f)=true:=beq_iff_eq.mpr h
    simp only [List.lookup,hb,if_pos h]
  · have hb:(g == f)=false:=beq_eq_false_iff_ne.mpr h
    simp only [List.lookup,hb,if_neg h]
 |(k,x)::r=>by
  have ih:=Zak f g v r;rw [show Yt f v ((k,x)::r)=(if k=f then(k,v)::r else(k,x)::Yt f v r)from rfl]
  by_cases hk:k=f
  · rw [if_pos hk]
    by_cases h:g=k
    · have hb:(g == k)=true:=beq_iff_eq.mpr h
      simp only [List.lookup,hb,if_pos (h.trans hk)]
    · have hb:(g == k)=false:=beq_eq_false_iff_ne.mpr h
      simp only [List.lookup,hb,if_neg (λe:g=f=>h (e.trans hk.symm))]
  · rw [if_neg hk]
    by_cases h:g=k
    · have hb:(g == k)=true:=beq_iff_eq.mpr h
      simp only [List.lookup,hb,if_neg (λe:g=f=>hk (h.symm.trans e))]
    · have hb:(g == k)=false:=beq_eq_false_iff_ne.mpr h
      simp only [List.lookup,hb];exact ih
theorem Jn(f:Str)(v:V):∀fs:List (Str×V),f∈(Yt f v fs).map (·.1)/\∀g,g∈fs.map (·.1)->g∈(Yt f v fs).map (·.1)
 | []=>⟨by simp [Yt],λg h=>by simp at h⟩
 |(k,x)::r=>by
  obtain⟨i1,i2⟩:=Jn f v r;rw [show Yt f v ((k,x)::r)=(if k=f then(k,v)::r else(k,x)::Yt f v r)from rfl]
  by_cases hk:k=f
  · rw [if_pos hk]
    subst hk;exact⟨by simp,λg h=>by simpa using h⟩
  · rw [if_neg hk]
    refine⟨?_,λg h => ?_⟩
    · rw [List.map_cons]
      exact List.mem_cons_of_mem _ i1
    · rw [List.map_cons]at h ⊢
      rcases List.mem_cons.mp h with e|e
      · exact List.mem_cons.mpr (.inl e)
      · exact List.mem_cons_of_mem _ (i2 g e)
theorem Zal(f:Str)(v:V):∀fs:List (Str×V),(Yt f v fs).length<=fs.length+1
 | []=>by simp [Yt]
 |(k,x)::r=>by
  have ih:=Zal f v r;rw [show Yt f v ((k,x)::r)=(if k=f then(k,v)::r else(k,x)::Yt f v r)from rfl]
  by_cases hk:k=f
  · rw [if_pos hk,List.length_cons,List.length_cons];omega
  · rw [if_neg hk,List.length_cons,List.length_cons];omega
theorem RelO.some_of{v:V}{o:Option Value}(r:RelO (some v) o):∃u,o=some u/\RelV v u:=by
 cases o with
 |none=>exact(show False from r).elim
 |some u=>exact⟨u,rfl,r⟩
theorem RelO.none_of{o:Option Value}(r:RelO none o):o=none:=by
 cases o with
 |none=>rfl
 |some u=>exact(show False from r).elim
theorem Zc1{v:V}{u:Value}(r:RelV v u):PySem.W.handedIn u=true:=by
 cases v with
 |non=>cases(show u=Value.none from r);rfl
 |bl b=>cases(show u=Value.bool b from r);rfl
 |int i=>obtain⟨t,e⟩:=(show ∃t,u=Value.int i t from r);cases e;rfl
 |str x=>obtain⟨t,e⟩:=(show ∃t,u=Value.str x t from r);cases e;rfl
 |byt b=>obtain⟨t,e⟩:=(show ∃t,u=Value.bytes b t from r);cases e;rfl
 |flt b=>obtain⟨t,e⟩:=(show ∃t,u=Value.float b t from r);cases e;rfl
 |ref a=>cases(show u=Value.ref a from r);rfl
 |ty n=>cases(show u=Value.type n from r);rfl
section
variable{P:Program}{w:World}{H H':Hp}{h h':Heap}{a C dx:Addr}{fs fs':List (Str×V)}
theorem Qn(hok:HOk P w H h)(e:H a=some (.ins C dx fs)):∃mA,ObjM h a dx C mA/\(∀f,RelO (fs.lookup f) (mA f))/\PySem.Within mA (fs.map (·.1))/\fs.length<=1000/\H dx=some (.own a):=by
 obtain⟨d,z,ne,ob,mA,n,r,q⟩:=(show ObjOk P w H h a (.ins C dx fs)from hok a _ e)
 exact⟨mA,⟨ob,n,ne⟩,r,q,z,d⟩
end
structure Cls(K:PySem.W.Frag)(C:Addr):Prop where
 pg:PySem.W.plainGet K C Str.empty=true
 hd:PySem.W.hasDictIn K C=true
 po:PySem.W.plainOver K C=true
 sa:PySem.W.findIn K (.ref C) "__setattr__" = some (some (.builtin "object.__setattr__"))
theorem Cls.get{K:PySem.W.Frag}{C:Addr}(c:Cls K C)(f:Str):PySem.W.plainGet K C f=true:=c.pg
def NoAttr(K:PySem.W.Frag)(C:Addr)(f:Str):Prop:=PySem.W.findIn K (.ref C) f=some none
theorem NoAttr.taker{K:PySem.W.Frag}{C:Addr}{f:Str}(n:NoAttr K C f):PySem.W.takerIn K C f=some none:=by
 unfold PySem.W.takerIn;rw [show PySem.W.findIn K (.ref C) f=some none from n];rfl
structure Con(K:PySem.W.Frag)(C:Addr)(f:Str)(v:V)(u:Value):Prop where
 at_:PySem.W.findIn K (.ref C) f=some (some u)
 rel:RelV v u
 get:PySem.W.specialIn K u "__get__" = some none
 cp:PySem.W.copiedNames.contains f=false
structure Meth(K:PySem.W.Frag)(C:Addr)(m:Str)(f:Addr):Prop where
 at_:PySem.W.findIn K (.ref C) m=some (some (.ref f))
 fn:isFn K (.ref f)=true
 kp:keepIn K (.ref f)=true
section
variable{X:Cx}{pins:List (Addr×Obj)}{σ:St}{H:Hp}{s:Shared}{a C dx:Addr}{fs:List (Str×V)}{f:Str}{v:V}{A:Around}{E:Value->Shared->Prop}
theorem ZbT {b:Bool} {Q:Value->Shared->Prop} (I:Inv X pins σ H s) (e:H a=some (.ins C dx fs)) (c:Cls X.K C) (n:NoAttr X.K C f) (l:fs.lookup f=some v)
 (h:∀u s',Inv X pins σ H s'->RelV v u->Q u s'):wpAny (model X.prog X.w) A (getAttr (.ref a) f b) Q E s:=by
 obtain⟨mA,O,r,_,_,_⟩:=Qn I.hok e;obtain⟨u,hu,ru⟩:=RelO.some_of (v:=v) (o:=mA f) (by rw [<-l];exact r f);exact Zew I.kIn O (c.get f) c.hd n hu (Zc1 ru) (h u _ (I.tok _) ru)
theorem ZbU {m:Str} {g:Addr} {pl:Sem Bool} {Q:Value×List Value->Shared->Prop} (I:Inv X pins σ H s) (e:H a=some (.ins C dx fs)) (c:Cls X.K C) (k:Meth X.K C m g) (l:fs.lookup m=none)
 (h:Q (.ref g,[.ref a]) s):wpAny (model X.prog X.w) A (getMethod (.ref a) m pl) Q E s:=by
 obtain⟨mA,O,r,_,_,_⟩:=Qn I.hok e;have hn:mA m=none:=RelO.none_of (by rw [<-l];exact r m);exact Zdq I.kIn O (c.get m) k.at_ k.fn hn h
theorem ZbV {y:V} {u:Value} {Q:Unit->Shared->Prop} (I:Inv X pins σ H s) (e:H a=some (.ins C dx fs)) (c:Cls X.K C) (n:NoAttr X.K C f) (hl:fs.length<1000) (ry:RelV y u)
 (h:∀s',Inv X pins σ (upd H a (.ins C dx (Yt f y fs))) s'->Q () s'):wpAny (model X.prog X.w) A (setAttr (.ref a) f u) Q E s:=by
 obtain⟨mA,O,r,wi,_,ho⟩:=Qn I.hok e;have hz:(fs.map (·.1)).length<=sizeLine:=by rw [List.length_map,sizeLine_eq];omega
 refine Zex I.kIn O c.sa c.po n.taker c.hd wi hz λh' O' sb=>h _ ?_
 have hd:∃o,h'.get? dx=some o:=let⟨o,_,_,e',_⟩:=O'.ns;⟨o,e'⟩
 refine I.write (x:=a) (e:=dx) (by rw [e];exact True.intro) (.inr ho) (λb q hb z=>(sb.2 b hb).trans z) hd ?_;refine⟨by rw [ZF O.ne];exact ho,?_,O.ne,O'.obj,_,O'.ns,λg => ?_,λg hg => ?_⟩
 · have:=Zal f y fs;omega
 · show RelO ((Yt f y fs).lookup g) (if g=f then some u else mA g)
   rw [Zak]
   by_cases q:g=f
   · rw [if_pos q,if_pos q];exact ry
   · rw [if_neg q,if_neg q];exact r g
 · by_cases q:g=f
   · rw [q];exact(Jn f y fs).1
   · refine(Jn f y fs).2 g (wi g λz=>hg ?_)
     show(if g=f then some u else mA g)=none;rw [if_neg q];exact z
theorem Inv.made(I:Inv X pins σ H s):Inv X pins σ (upd (upd H s.heap.objs.size (.own (s.heap.objs.size+1))) (s.heap.objs.size+1) (.ins C s.heap.objs.size []))
 { s with heap:=(s.heap.push emptyDict).push (instObj C s.heap.objs.size) }:=by
 have e1:(s.heap.push emptyDict).get? s.heap.objs.size=some emptyDict:=Heap.get?_push_size s.heap rfl
 have e2:((s.heap.push emptyDict).push (instObj C s.heap.objs.size)).get? (s.heap.objs.size+1)=some (instObj C s.heap.objs.size):=by
  have:=Heap.get?_push_size (s.heap.push emptyDict) (o:=instObj C s.heap.objs.size) rfl
  rwa [Heap.size_push]at this
 have e3:(s.heap.push emptyDict).Ns s.heap.objs.size (λ_=>none):=⟨emptyDict,#[],_,e1,rfl,(λe he=>absurd he (by simp)),λ_=>rfl⟩
 have I1:=I.laid (a:=s.heap.objs.size) (o:=.own (s.heap.objs.size+1)) (h':=s.heap.push emptyDict) (t':=s.toks) (λb u q=>Heap.get?_push_of_some _ q) (Nat.le_refl _) ⟨_,e1⟩;refine I1.laid (a:=s.heap.objs.size+1) (o:=.ins C s.heap.objs.size []) (t':=s.toks) (λb u q=>Heap.get?_push_of_some _ q) (Nat.le_of_eq (Heap.size_push _ _)) ?_;have ne:s.heap.objs.size≠s.heap.objs.size+1:=Nat.ne_of_lt (Nat.lt_succ_self _)
 refine⟨by rw [ZF ne,ZS],Nat.zero_le _,ne,e2,λ_=>none,(Heap.Ns1.of_empty e3).at λo q=>Heap.get?_push_of_some _ q,λ_=>True.intro,λy hy=>absurd rfl hy⟩
theorem Zey {prog:Program} {w:World} {env:Env} {e:Expr} {f:Str} {pos:Pos} {s:Shared} {Q:Value->Shared->Prop} (hb:attributeBase e f env (eval e env)=eval e env)
 (h:wpAny (model prog w) A (eval e env) (λo s₁=>wpAny (model prog w) A (getAttr o f true) Q E s₁) E s):wpAny (model prog w) A (eval (.Attribute e f pos) env) Q E s:=
 Attribute_any_ h (by rw [arm_eval_Attribute,hb])
end
def Jo(K:PySem.W.Frag)(ta:TE)(f:Str):TE:=λσ H Q=>ta σ H λx H1=>∃a C dx fs v,x = .ref a/\H1 a=some (.ins C dx fs)/\Cls K C/\NoAttr K C f/\fs.lookup f=some v/\Q v H1
def ZhQ(K:PySem.W.Frag)(ta tv:TE)(f:Str):TS:=λD σ H=>tv σ H λy H1=>ta σ H1 λx H2=>∃a C dx fs,x = .ref a/\H2 a=some (.ins C dx fs)/\Cls K C/\NoAttr K C f/\fs.length<1000 /\
 D.nx σ (upd H2 a (.ins C dx (Yt f y fs)))
section
variable{X:Cx}{o e value:Expr}{f:Str}{pos pos' tpos:Pos}{ta tv:TE}
theorem Zf1(he:PE X e ta)(hb:attributeBase e f X.env (eval e X.env)=eval e X.env):PE X (.Attribute e f pos) (Jo X.K ta f):=by
 intro pins s σ H Q I h;refine Zey hb (thn (he pins s σ H _ I h) λu s1 ⟨x,H1,I1,rx,a,C,dx,fs,v,ex,ea,c,n,l,q⟩ => ?_);subst ex;obtain rfl:u=Value.ref a:=rx;exact ZbT I1 ea c n l λu' s2 I2 ru=>⟨v,H1,I2,ru,q⟩
theorem US(ha:PE X o ta)(hv:PE X value tv)(hs:swapsWith value (some (.Attribute o f pos')) pos.line X.env=pure false):PS X (.Assign [.Attribute o f pos'] value pos) (ZhQ X.K ta tv f):=by
 intro pins s σ H D I h;refine plainObj_wpAny_Assign_Attribute (thn (hv pins s σ H _ I h) λu s1 ⟨y,H1,I1,ry,q⟩=>thn (ha pins s1 σ H1 _ I1 q) λov s2 ⟨x,H2,I2,rx,a,C,dx,fs,ex,ea,c,n,l,q2⟩ => ?_) hs;subst ex;obtain rfl:ov=Value.ref a:=rx;exact ZbV I2 ea c n l ry λs3 I3=>⟨σ,_,I3,q2⟩
end
section
variable{X:Cx}{pins:List (Addr×Obj)}{σ:St}{H:Hp}{s:Shared}{A:Around}{E:Value->Shared->Prop}{Q:Value->Shared->Prop}{c:Value}{b:Bool}
inductive TyOf(K:PySem.W.Frag)(H:Hp):V->Value->Prop where
 |non:TyOf K H .non (.type "NoneType")
 |bl (x:Bool):TyOf K H (.bl x) (.type "bool")
 |int (i:Int):TyOf K H (.int i) (.type "int")
 |str (x:Str):TyOf K H (.str x) (.type "str")
 |flt (x:UInt64):TyOf K H (.flt x) (.type "float")
 |lst {a:Addr} {xs:List V} (e:H a=some (.lst xs)):TyOf K H (.ref a) (.type "list")
 |frz {a:Addr} {o:Obj} {xs:List V} (e:H a=some (.frz o (.lst xs))):TyOf K H (.ref a) (.type "list")
 |tup {a:Addr} {xs:List V} (e:H a=some (.tup xs)):TyOf K H (.ref a) (.type "tuple")
 |dK {a:Addr} {kvs:List (Key×V)} (e:H a=some (.dK kvs)):TyOf K H (.ref a) (.type "dict")
 |dT {a:Addr} {kvs:List (List Key×V)} (e:H a=some (.dT kvs)):TyOf K H (.ref a) (.type "dict")
 |ins {a C dx:Addr} {fs:List (Str×V)} (e:H a=some (.ins C dx fs)) (cl:Cls K C) (ha:PySem.W.findIn K (.ref C) "__class__" = some (some (.builtin "object.__class__")))
  (hn:PySem.W.specialIn K (.builtin "object.__class__") "__get__" = some (some (.builtin "getset_descriptor.__get__"))) (htk:PySem.W.takesIn K (.builtin "object.__class__")=some true)
  (hm:PySem.W.mroIn K C (.type "object")=some true):TyOf K H (.ref a) (.ref C)
theorem Zc2{x:V}{u t:Value}(I:Inv X pins σ H s)(rx:RelV x u)(ty:TyOf X.K H x t)(e:kitOne X.K t c=some b)(h:∀tk,Q (.bool b) { s with toks:=tk }) :
 wpAny (model X.prog X.w) A (call (.builtin "isinstance") [u,c]) Q E s:=by
 cases ty with
 |non=>cases(show u=Value.none from rx);exact PySem.W.kia_one PySem.W.kitx_none I.kIn True.intro e (λz=>nomatch z) h
 |bl y=>cases(show u=Value.bool y from rx);exact PySem.W.kia_one PySem.W.kitx_bool I.kIn True.intro e (λz=>nomatch z) h
 |int i=>obtain⟨t,q⟩:=(show ∃t,u=Value.int i t from rx);cases q;exact PySem.W.kia_one PySem.W.kitx_int I.kIn True.intro e (λz=>nomatch z) h
 |str y=>obtain⟨t,q⟩:=(show ∃t,u=Value.str y t from rx);cases q;exact PySem.W.kia_one PySem.W.kitx_str I.kIn True.intro e (λz=>nomatch z) h
 |flt y=>obtain⟨t,q⟩:=(show ∃t,u=Value.float y t from rx);cases q;exact PySem.W.kia_one PySem.W.kitx_float I.kIn True.intro e (λz=>nomatch z) h
 | @lst a xs ea=>
  cases(show u=Value.ref a from rx);obtain⟨_,_,n,_,h1⟩:=(show ObjOk X.prog X.w H s.heap a (.lst xs)from I.hok a _ ea)
  exact PySem.W.kia_one PySem.W.kitx_list I.kIn ⟨_,h1,rfl⟩ e (λz=>nomatch z) h
 | @frz a ob xs ea=>
  cases(show u=Value.ref a from rx);obtain⟨_,_,_,n,_,h1⟩:=(show ObjOk X.prog X.w H s.heap a (.frz ob (.lst xs))from I.hok a _ ea)
  exact PySem.W.kia_one PySem.W.kitx_list I.kIn ⟨_,h1,rfl⟩ e (λz=>nomatch z) h
 | @tup a xs ea=>
  cases(show u=Value.ref a from rx);obtain⟨_,_,_,p⟩:=(show ObjOk X.prog X.w H s.heap a (.tup xs)from I.hok a _ ea)
  obtain⟨o,h1,h2,_⟩:=p;exact PySem.W.kia_one PySem.W.kitx_tuple I.kIn ⟨o,h1,h2⟩ e (λz=>nomatch z) h
 | @dK a kvs ea=>
  cases(show u=Value.ref a from rx);obtain⟨_,_,vs,_,p⟩:=(show ObjOk X.prog X.w H s.heap a (.dK kvs)from I.hok a _ ea)
  obtain⟨o,es,ep,h1,h2,_⟩:=p;exact PySem.W.kia_one PySem.W.kitx_dict I.kIn ⟨o,h1,h2.1⟩ e (λz=>nomatch z) h
 | @dT a kvs ea=>
  cases(show u=Value.ref a from rx);obtain⟨_,_,xs,_,o,es,ep,h1,h2,_⟩:=(show ObjOk X.prog X.w H s.heap a (.dT kvs)from I.hok a _ ea)
  exact PySem.W.kia_one PySem.W.kitx_dict I.kIn ⟨o,h1,h2.1⟩ e (λz=>nomatch z) h
 | @ins a C dx fs ea cl ha hn htk hm=>
  cases(show u=Value.ref a from rx);obtain⟨mA,O,_⟩:=Qn I.hok ea;obtain⟨od,J,_⟩:=O.look;exact PySem.W.kia_one (PySem.W.kitx_own (cl.get _) cl.hd ha hn htk hm) I.kIn J e (λz=>nomatch z) h
end
end L2
namespace L2
open PySem PySem.Spec PyProof.Rows
structure Room(k:Nat)(A:Around):Prop where
 hd:A.handled=none
 dp:A.depth+3*k+5<recursionLimit
 un:A.units+16*k+200<cLine
theorem Room.mono{j k:Nat}{A:Around}(r:Room k A)(h:j<=k):Room j A:=⟨r.hd,by have:=r.dp;omega,by have:=r.un;omega⟩
theorem Room.deeper{k:Nat}{A:Around}(r:Room (k+1) A)(env:Env):Room k (A.deeper env):=
 ⟨r.hd,by have:=r.dp;show A.depth+1+3*k+5<_;omega,by have:=r.un;show A.units+3+16*k+200<_;omega⟩
theorem ZbW{A:Around}{C:Addr}{us:List Value}{kw:List (Str×Value)}:(A.under (.builtin "type.__call__" ⟨.ref C::us,kw⟩)).depth=A.depth+1:=by
 first|rfl|simp [Around.under,Code.weight,Code.isCreation,Code.isGuard,Code.isCaller,Code.frames,Code.isFrame,guardIds]
theorem ZbX{A:Around}{C:Addr}{us:List Value}{kw:List (Str×Value)}:(A.under (.builtin "type.__call__" ⟨.ref C::us,kw⟩)).units=A.units+1:=by
 first|rfl|simp [Around.under,Code.cUnits,Code.frames,Code.isFrame]
theorem Room.make{k:Nat}{A:Around}(r:Room (k+1) A)(C:Addr)(us:List Value)(kw:List (Str×Value)):Room k (A.under (.builtin "type.__call__" ⟨.ref C::us,kw⟩)):=
 ⟨r.hd,by have:=r.dp;rw [ZbW];omega,by have:=r.un;rw [ZbX];omega⟩
theorem Room.depth{k:Nat}{A:Around}(r:Room k A):A.depth<recursionLimit:=by have:=r.dp;omega
theorem Room.units{k:Nat}{A:Around}(r:Room k A):A.units+64<cLine:=by have:=r.un;omega
def tNil:TA:=λ_ H Q=>Q [] H
def Xn(ta:TE)(tr:TA):TA:=λσ H Q=>ta σ H λx H1=>tr σ H1 λxs H2=>Q (x::xs) H2
section
variable{X:Cx}{e:Expr}{es:List Expr}{te:TE}{t:TA}{pos:Pos}
theorem Zi:PA X [] tNil:=λ_ _ _ _ H Q I h=>Calls.spliced_nil ⟨[],H,I,.nil,h⟩
theorem Zc(ha:PE X e te)(hr:PA X es t)(hs:starEach (e::es) X.env=(false,eval e X.env)::starEach es X.env:=by rfl):PA X (e::es) (Xn te t):=by
 intro pos pins s σ H Q I h;rw [hs];show wpAny _ _ (spliced ((false,eval e X.env)::backTo pos (starEach es X.env))) _ _ s;refine Calls.spliced_cons (thn (ha pins s σ H _ I h) λu s1 ⟨x,H1,I1,r1,q1⟩ => ?_);exact thn (hr pos pins s1 σ H1 _ I1 q1) λus s2 ⟨xs,H2,I2,r2,q2⟩=>⟨x::xs,H2,I2,.cons r1 r2,q2⟩
def Jp(t:TA):TE:=λσ H Q=>t σ H λxs H1=>xs.length<=sizeLine/\∀p,H1 p=none->Q (.ref p) (upd H1 p (.tup xs))
def ZhR(t:TA):TE:=λσ H Q=>t σ H λxs H1=>xs.length<=sizeLine/\∀p,H1 p=none->Q (.ref p) (upd H1 p (.lst xs))
theorem UT{x1}(h:PA X es t):PE X (.Tuple es x1 pos) (Jp t):=by
 intro pins s σ H Q I hq;refine wpAny_Tuple_spliced (thn (h pos pins s σ H _ I hq) λus s1 ⟨xs,H1,I1,r,z,q⟩=>⟨by rw [<-r.length];exact z,?_⟩);have hf:H1 s1.heap.objs.size=none:=I1.hok.fresh (Nat.le_refl _);refine⟨.ref s1.heap.objs.size,upd H1 s1.heap.objs.size (.tup xs),I1.laid (t':=s1.toks) (λb u e=>Heap.get?_push_of_some _ e) (Nat.le_refl _) ?_,rfl,q _ hf⟩;exact⟨z,us,r,⟨_,Heap.get?_push_size _ rfl,rfl,⟨_,rfl⟩,rfl⟩⟩
theorem Y9(h:PA X es t):PE X (.List es pos) (ZhR t):=by
 intro pins s σ H Q I hq;refine wpAny_List_spliced (thn (h pos pins s σ H _ I hq) λus s1 ⟨xs,H1,I1,r,z,q⟩=>⟨by rw [<-r.length];exact z,?_⟩);have hf:H1 s1.heap.objs.size=none:=I1.hok.fresh (Nat.le_refl _);refine⟨.ref s1.heap.objs.size,upd H1 s1.heap.objs.size (.lst xs),I1.laid (t':=s1.toks) (λb u e=>Heap.get?_push_of_some _ e) (Nat.le_refl _) ?_,rfl,q _ hf⟩;exact⟨z,us,0,r,Heap.get?_push_size _ rfl⟩
end
abbrev Sp:=List V->Hp->VK->XK->Prop
abbrev CXT:=List Env->Hp->Shared->XK->Value->Shared->Prop
structure Env0(P:Program)(w:World)(K:PySem.W.Frag)(mg:Str->Option Value)(base:Heap)(A:Around)(outer:List Env)(s:Shared)(H:Hp):Prop where
 frames:A.frames=some outer
 mod:Mod K mg base
 bs:∀b o,base.get? b=some o->s.heap.get? b=some o/\H b=none
 bsz:base.objs.size<=s.heap.objs.size
 funs:s.heap.FunFrames base outer
 frf:∀b∈frs outer,H b=none
 hok:HOk P w H s.heap
 bare:AllBare s.gens
def CE(outer:List Env)(P:Program)(w:World)(H:Hp)(s:Shared)(Q:VK)(u:Value)(s':Shared):Prop:=
 ∃v H',s'.os=s.os/\AllBare s'.gens/\Un (frs outer) [] H H' s.heap s'.heap/\HOk P w H' s'.heap/\RelV v u/\Q v H'
def CR(CX:CXT)(outer:List Env)(P:Program)(w:World)(H:Hp)(s:Shared)(Q:VK)(E:XK)(r:Result)(s':Shared):Prop:=
 match r with
 | .ok (.ret u)=>CE outer P w H s Q u s'
 | .ok _=>False
 | .error e=>CX outer H s E e s'
structure FnOk(P:Program)(w:World)(K:PySem.W.Frag)(mg:Str->Option Value)(base:Heap)(CX:CXT)(k:Nat)(f:Addr)(fd:FuncData)(ps:List Str)(sp:Sp):Prop where
 len:∀vs H Q E,sp vs H Q E->vs.length=ps.length
 run:∀(A:Around)(outer:List Env)(s:Shared)(H:Hp)(args:Args)(us:List Value)(vs:List V)(Q:VK)(E:XK),Room k A->Env0 P w K mg base A outer s H->BindsTo s fd args (ps.zip us)->Vals vs us->sp vs H Q E ->
  codeAny (model P w) A (.call (.ref f) args) (CR CX outer P w H s Q E) s
theorem FnOk.mono{P:Program}{w:World}{K:PySem.W.Frag}{mg:Str->Option Value}{base:Heap}{CX:CXT}{j k:Nat}{f:Addr}{fd:FuncData}{ps:List Str}{sp:Sp}(F:FnOk P w K mg base CX j f fd ps sp)(h:j<=k) :
 FnOk P w K mg base CX k f fd ps sp:=⟨F.len,λA outer s H args us vs Q E hr=>F.run A outer s H args us vs Q E (hr.mono h)⟩
theorem FnOk.imp {P:Program} {w:World} {K:PySem.W.Frag} {mg:Str->Option Value} {base:Heap} {CX:CXT} {k:Nat} {f:Addr} {fd:FuncData} {ps:List Str} {sp sp':Sp} (F:FnOk P w K mg base CX k f fd ps sp)
 (h:∀vs H Q E,sp' vs H Q E->sp vs H Q E):FnOk P w K mg base CX k f fd ps sp':=
 ⟨λvs H Q E q=>F.len vs H Q E (h _ _ _ _ q),λA outer s H args us vs Q E hr he hb hv hs=>F.run A outer s H args us vs Q E hr he hb hv (h _ _ _ _ hs)⟩
theorem Env0.make{P:Program}{w:World}{K:PySem.W.Frag}{mg:Str->Option Value}{base:Heap}{A:Around}{outer:List Env}{s:Shared}{H:Hp}(e:Env0 P w K mg base A outer s H)(C:Addr)(us:List Value)(kw:List (Str×Value)) :
 Env0 P w K mg base (A.under (.builtin "type.__call__" ⟨.ref C::us,kw⟩)) outer s H:=⟨by first|exact e.frames|(simpa [Around.under,Code.envs,Code.isFrame,pushEnvs]using e.frames),e.mod,e.bs,e.bsz,e.funs,e.frf,e.hok,e.bare⟩
section
variable{X:Cx}{pins:List (Addr×Obj)}{σ:St}{H:Hp}{s s':Shared}
theorem Inv.env0(I:Inv X pins σ H s):Env0 X.prog X.w X.K X.mg X.base X.A X.stack s H:=
 ⟨I.ok.frames,I.ok.mod,I.bs,Nat.le_trans I.ok.bsz I.sz,I.stack,I.stkFree,I.hok,I.bare⟩
theorem Inv.after{Q:VK}{u:Value}(I:Inv X pins σ H s)(h:CE X.stack X.prog X.w H s Q u s'):EP X pins σ Q u s':=by
 obtain⟨v,H',os,bare,un,hok,r,q⟩:=h;obtain⟨hh,g,d,t,os'⟩:=s';obtain rfl:os'=s.os:=os;exact⟨v,H',I.call (h':=hh) (g':=g) (d':=d) (t':=t) (ch:=[]) un hok bare (λb z=>absurd z (by simp)),r,q⟩
end
def Jq(sp:Sp)(dvs:List V)(E:XK)(t:TA):TE:=λσ H Q=>t σ H λvs H1=>sp (vs++dvs) H1 Q E
def Zft(C:Addr)(sp:Sp)(dvs:List V)(E:XK)(t:TA):TE:=λσ H Q=>t σ H λvs H1=>∀x dx,H1 x=none->H1 dx=none->dx≠x ->
 sp (.ref x::(vs++dvs)) (upd (upd H1 dx (.own x)) x (.ins C dx [])) (λv H2=>v = .non/\Q (.ref x) H2) E
def Binds(K:PySem.W.Frag)(fd:FuncData)(ps:List Str)(ds:List Value):Prop:=
 ∀(s:Shared)(us:List Value),K.In s.heap->(us++ds).length=ps.length->BindsTo s fd ⟨us,[]⟩ (ps.zip (us++ds))
theorem Binds.all{K:PySem.W.Frag}{fd:FuncData}{ps:List Str}(h:∀us:List Value,us.length=ps.length->bindArgs fd ⟨us,[]⟩=pure (ps.zip us)):Binds K fd ps []:=λs us _ hl=>by
 rw [List.append_nil]at hl ⊢;exact .of_eq (h us hl)
def UU(CX:CXT)(X:Cx)(E:XK):Prop:=∀(pins:List (Addr×Obj))(σ:St)(H:Hp)(s:Shared)(e:Value)(s':Shared),Inv X pins σ H s->CX X.stack H s E e s'->X.xe e s'
section
variable{X:Cx}{CX:CXT}{k:Nat}{f C:Addr}{fd:FuncData}{ps:List Str}{sp:Sp}{dvs:List V}{ds:List Value}{E:XK}{x m:Str}{p pos apos:Pos}{e o:Expr}{es:List Expr}{ta:TE}{t:TA}
theorem Zd3 {pins:List (Addr×Obj)} {σ:St} {H:Hp} {s:Shared} {Q:VK} {us:List Value} {vs:List V} (F:FnOk X.prog X.w X.K X.mg X.base CX k f fd ps sp) (hr:Room k X.A) (hb:Binds X.K fd ps ds) (hd:Vals dvs ds) (hx:UU CX X E)
 (I:Inv X pins σ H s) (r:Vals vs us) (h:sp (vs++dvs) H Q E):wpAny (model X.prog X.w) X.A (call (.ref f) us) (EP X pins σ Q) X.xe s:=by
 have r2:Vals (vs++dvs) (us++ds):=r.append hd;have hl:(us++ds).length=ps.length:=by rw [<-r2.length];exact F.len _ _ _ _ h
 refine wpAny_call (codeAny_mono (F.run X.A X.stack s H ⟨us,[]⟩ (us++ds) (vs++dvs) Q E hr I.env0 (hb s us I.kIn hl) r2 h) λr s' hq => ?_);cases r with
 |error e=>exact hx pins σ H s e s' I hq
 |ok fl=>
  cases fl with
  |ret u=>exact I.after hq
  |next=>exact False.elim hq
  |brk=>exact False.elim hq
  |cont=>exact False.elim hq
theorem ZC (F:FnOk X.prog X.w X.K X.mg X.base CX k f fd ps sp) (hr:Room k X.A) (hg:Gl X x) (hm:X.mg x=some (.ref f)) (hk:keepIn X.K (.ref f)=true) (hb:Binds X.K fd ps ds) (hd:Vals dvs ds) (hx:UU CX X E)
 (ha:PA X (e::es) t) (hdb:(x == ("__debug__" : Str))=false:=by decide) (he:starEach (e::es) X.env=(false,eval e X.env)::starEach es X.env:=by rfl) (hpl:(backTo pos (starEach es X.env)).any (·.1)=false:=by rfl) :
 PE X (.Call (.Name x p) (e::es) [] pos) (Jq sp dvs E t):=by
 intro pins s σ H Q I h;refine wpAny_Call_Name_kw (Ja I hg hm ?_ hdb);refine PySem.W.callWith_K (h₀:=X.base) I.ok.mod.kin hk (thn (ha pos pins s σ H _ I h) λus s1 ⟨vs,H1,I1,r,q⟩=>⟨I1.kIn,?_⟩) he hpl;exact Zd3 F hr hb hd hx I1 r q
structure Mk(K:PySem.W.Frag)(C f:Addr):Prop where
 makes:PySem.W.makesIn K C=true
 init:PySem.W.findIn K (.ref C) "__init__" = some (some (.ref f))
 fn:isFn K (.ref f)=true
 kp:keepIn K (.ref C)=true
theorem Zds {pins:List (Addr×Obj)} {σ:St} {H:Hp} {s:Shared} {Q:VK} {us:List Value} {vs:List V} (M:Mk X.K C f) (F:FnOk X.prog X.w X.K X.mg X.base CX k f fd ps sp) (hr:Room (k+1) X.A) (hb:Binds X.K fd ps ds) (hd:Vals dvs ds)
 (hx:UU CX X E) (I:Inv X pins σ H s) (r:Vals vs us)
 (h:∀x dx,H x=none->H dx=none->dx≠x->sp (.ref x::(vs++dvs)) (upd (upd H dx (.own x)) x (.ins C dx [])) (λv H2=>v = .non/\Q (.ref x) H2) E) :
 wpAny (model X.prog X.w) X.A (call (.ref C) us) (EP X pins σ Q) X.xe s:=by
 have hq:=h (s.heap.objs.size+1) s.heap.objs.size (I.hok.fresh (Nat.le_succ _)) (I.hok.fresh (Nat.le_refl _)) (Nat.ne_of_lt (Nat.lt_succ_self _));have I2:=Inv.made (C:=C) I;have r2:Vals (V.ref (s.heap.objs.size+1)::(vs++dvs)) (Value.ref (s.heap.objs.size+1)::(us++ds)) := .cons rfl (r.append hd)
 have hl:(Value.ref (s.heap.objs.size+1)::us++ds).length=ps.length:=by
  have e:=r2.length;rw [F.len _ _ _ _ hq]at e;exact e.symm
 refine wpAny_call (Zdr (f:=f) I.kIn M.makes M.init (beq_iff_eq.mp M.fn) (codeAny_mono (F.run _ X.stack _ _ ⟨Value.ref (s.heap.objs.size+1)::us,[]⟩ (Value.ref (s.heap.objs.size+1)::(us++ds)) _ _ E (hr.make C us [])
  (I2.env0.make C us []) (hb _ (Value.ref (s.heap.objs.size+1)::us) I2.kIn hl) r2 hq) λr s' hq' => ?_))
 cases r with
 |error e=>exact hx pins σ _ _ e s' I2 hq'
 |ok fl=>
  cases fl with
  |ret u=>
   obtain⟨v,H',I3,rv,ev,q3⟩:=I2.after hq';subst ev;exact⟨rv,⟨V.ref (s.heap.objs.size+1),H',I3,rfl,q3⟩⟩
  |next=>exact False.elim hq'
  |brk=>exact False.elim hq'
  |cont=>exact False.elim hq'
theorem Zcq (M:Mk X.K C f) (F:FnOk X.prog X.w X.K X.mg X.base CX k f fd ps sp) (hr:Room (k+1) X.A) (hg:Gl X x) (hm:X.mg x=some (.ref C)) (hb:Binds X.K fd ps ds) (hd:Vals dvs ds) (hx:UU CX X E)
 (ha:PA X (e::es) t) (hdb:(x == ("__debug__" : Str))=false:=by decide) (he:starEach (e::es) X.env=(false,eval e X.env)::starEach es X.env:=by rfl) (hpl:(backTo pos (starEach es X.env)).any (·.1)=false:=by rfl) :
 PE X (.Call (.Name x p) (e::es) [] pos) (Zft C sp dvs E t):=by
 intro pins s σ H Q I h;refine wpAny_Call_Name_kw (Ja I hg hm ?_ hdb);refine PySem.W.callWith_K (h₀:=X.base) I.ok.mod.kin M.kp (thn (ha pos pins s σ H _ I h) λus s1 ⟨vs,H1,I1,r,q⟩=>⟨I1.kIn,?_⟩) he hpl;exact Zds M F hr hb hd hx I1 r q
end
section
variable{X:Cx}{CX:CXT}{k:Nat}{f C:Addr}{fd:FuncData}{ps ks:List Str}{sp:Sp}{E:XK}{x m:Str}{p pos apos kpos:Pos}{e o:Expr}{es:List Expr}{kws:List Keyword}{te ta:TE}{t tk:TA}{nm:Option Str}
structure KBinds(K:PySem.W.Frag)(fd:FuncData)(ps ks:List Str)(g:List Value->List Value->List Value)(gV:List V->List V->List V):Prop where
 to:∀(s:Shared)(us ws:List Value),K.In s.heap->(g us ws).length=ps.length->BindsTo s fd ⟨us,ks.zip ws⟩ (ps.zip (g us ws))
 rel:∀{vs:List V}{us:List Value}{zs:List V}{ws:List Value},Vals vs us->Vals zs ws->Vals (gV vs zs) (g us ws)
variable{g:List Value->List Value->List Value}{gV:List V->List V->List V}
end
structure FnScope(N P:List Str)(sc:Scope):Prop where
 kind:sc.kind = .function
 co:sc.isCoroutine=false
 gen:sc.isGenerator=false
 nd:N.Nodup
 pre:N.take P.length=P
 par:∀x∈P,sc.names.lookup x=some .local\/sc.names.lookup x=some .cell
 nofree:∀y∈sc.names,y.2 ≠ .free
theorem ZaO{kindOf:Str->Option NameKind}{x:Str}:∀{binds:List (Str×Value)}{m:Str->Option Value},(∀v,(x,v)∉binds)->bindL kindOf binds m x=m x
 | [],_,_=>rfl
 |(n,v)::r,m,h=>by
  unfold bindL;rw [ZaO λw hw=>h w (List.mem_cons_of_mem _ hw)]
  split
  · have:x≠n:=by rintro rfl;exact h v List.mem_cons_self
    simp [this]
  · rfl
theorem ZaP{kindOf:Str->Option NameKind}{x:Str}:∀{binds:List (Str×Value)}{m:Str->Option Value},(∀v,(x,v)∉binds)->bindC kindOf binds m x=m x
 | [],_,_=>rfl
 |(n,v)::r,m,h=>by
  unfold bindC;rw [ZaP λw hw=>h w (List.mem_cons_of_mem _ hw)]
  split
  · rfl
  · have:x≠n:=by rintro rfl;exact h v List.mem_cons_self
    simp [this]
theorem ZaQ{kindOf:Str->Option NameKind}{x:Str}{v:Value}:∀{P:List Str}{vs:List Value}{i:Nat}{m:Str->Option Value},P.Nodup->P[i]? = some x->vs[i]? = some v->kindOf x=some .local ->
 bindL kindOf (P.zip vs) m x=some v
 | [],_,_,_,_,h,_,_=>by simp at h
 |_::_,[],_,_,_,_,h,_=>by simp at h
 |p::P,w::vs,0,m,nd,h1,h2,hk=>by
  simp at h1 h2;subst h1;subst h2;show bindL kindOf ((p,w)::P.zip vs) m p=_;unfold bindL;rw [ZaO λv hv=>(List.nodup_cons.mp nd).1 (List.of_mem_zip hv).1,if_pos hk];simp
 |p::P,w::vs,i+1,m,nd,h1,h2,hk=>by
  show bindL kindOf ((p,w)::P.zip vs) m x=_;unfold bindL;exact ZaQ (i:=i) (List.nodup_cons.mp nd).2 (by simpa using h1) (by simpa using h2) hk
theorem ZaR{kindOf:Str->Option NameKind}{x:Str}{v:Value}:∀{P:List Str}{vs:List Value}{i:Nat}{m:Str->Option Value},P.Nodup->P[i]? = some x->vs[i]? = some v->kindOf x≠some .local ->
 bindC kindOf (P.zip vs) m x=some v
 | [],_,_,_,_,h,_,_=>by simp at h
 |_::_,[],_,_,_,_,h,_=>by simp at h
 |p::P,w::vs,0,m,nd,h1,h2,hk=>by
  simp at h1 h2;subst h1;subst h2;show bindC kindOf ((p,w)::P.zip vs) m p=_;unfold bindC;rw [ZaP λv hv=>(List.nodup_cons.mp nd).1 (List.of_mem_zip hv).1,if_neg hk];simp
 |p::P,w::vs,i+1,m,nd,h1,h2,hk=>by
  show bindC kindOf ((p,w)::P.zip vs) m x=_;unfold bindC;exact ZaR (i:=i) (List.nodup_cons.mp nd).2 (by simpa using h1) (by simpa using h2) hk
def start(N:List Str)(vs:List V):St:=vs.map some++List.replicate (N.length-vs.length) none
def Xo(CX:CXT)(P:Program)(w:World)(K:PySem.W.Frag)(mg:Str->Option Value)(base:Heap)(N:List Str)(qual:Str)(scope:Scope)(f:Addr)(cd:Value)(A:Around)(outer:List Env)(s:Shared)(H:Hp)(E:XK):Cx where
 prog:=P
 w:=w
 K:=K
 mg:=mg
 base:=base
 A:=A.deeper (envOfC qual scope s.heap.objs.size f cd)
 N:=N
 s₀:=s
 H₀:=H
 env:=envOfC qual scope s.heap.objs.size f cd
 outer:=outer
 stack:=envOfC qual scope s.heap.objs.size f cd::outer
 ex:=[]
 calm:=true
 fn:=λ_=>true
 pn:=[]
 xe:=λe s'=>wpAny (model P w) (A.deeper (envOfC qual scope s.heap.objs.size f cd)) (leaving (envOfC qual scope s.heap.objs.size f cd) e) (λ_ s''=>CX outer H s E e s'') (λe' s''=>CX outer H s E e' s'') s'
theorem Zbo{sc:Scope}{n:Nat}{x:Str}(h:sc.names.lookup x=some .cell):∃c,(cellsFrom n sc.names []).lookup x=some c:=by
 have q:=PySem.W.cellsFrom_some sc.names n [] (.inl h);exact Option.isSome_iff_exists.mp q
theorem Zc3 {CX:CXT} {P:Program} {w:World} {K:PySem.W.Frag} {mg:Str->Option Value} {base:Heap} {N ps:List Str} {qual:Str} {scope:Scope} {f:Addr} {cd:Value} {A:Around} {outer:List Env} {s s1:Shared} {H:Hp} {E:XK} {us:List Value} {vs:List V}
 (S:FnScope N ps scope) (hd:A.handled=none) (e0:Env0 P w K mg base A outer s H) (hl:vs.length=ps.length) (r:Vals vs us)
 (x:InCallC s s.heap.objs.size (bindL (envOfC qual scope s.heap.objs.size f cd).kindOf (ps.zip us) λ_=>none) (cellsFrom (s.heap.objs.size+1) scope.names []) (bindC (envOfC qual scope s.heap.objs.size f cd).kindOf (ps.zip us) λ_=>none) s1) :
 Inv (Xo CX P w K mg base N qual scope f cd A outer s H E) [] (start N vs) H s1:=by
 have hpl:ps.length<=N.length:=by have:=congrArg List.length S.pre;rw [List.length_take]at this;omega
 obtain⟨h1,tk,rfl,hk⟩:=x.done;have noA:∀b:Addr,b∉(Xo CX P w K mg base N qual scope f cd A outer s H E).ex:=λb z=>absurd (show b∈([]:List Addr)from z) (by simp)
 refine⟨⟨e0.mod,S.kind,rfl,rfl,Nat.le_refl _,λy z c h1 h2 => ?_,λy hy => ?_,λy c _ h => ?_,λ_=>hd,Around.frames_deeper e0.frames,.inr ⟨rfl,rfl⟩,λb z=>absurd z (noA b),e0.bs,e0.bsz,λb _ _=>noA b,λb z=>absurd z (noA b),e0.funs,e0.frf⟩,
  rfl,e0.bare,Un.kept hk,⟨_,x.toInCall.ns,λi y v h1 h2 h3 => ?_⟩,λy c h=>⟨_,x.cell y c h⟩,e0.hok.fresh (Nat.le_refl _),λy c h => ?_,λp hp=>absurd (show p∈([]:List (Addr×Obj))from hp) (by simp),e0.hok.kept hk,?_⟩
 · exact name_of_addr x.apart (PySem.mem_of_lookup h1) (PySem.mem_of_lookup h2)
 · have hy:scope.names.lookup y=some .cell\/scope.names.lookup y=some .free:=hy
   rcases hy with hy|hy
   · exact Zbo hy
   · exact absurd rfl (S.nofree _ (PySem.mem_of_lookup hy))
 · exact Nat.le_of_lt (x.above y c (PySem.mem_of_lookup h))
 · have hi : i < vs.length := by
    unfold start at h2
    by_cases hi:i<vs.length
    · exact hi
    · rw [List.getElem?_append_right (by simpa using hi)]at h2
      rw [List.getElem?_replicate]at h2
      split at h2<;>cases h2
   have ha:vs[i]? = some v:=by
    unfold start at h2;rw [List.getElem?_append_left (by simpa using hi),List.getElem?_map]at h2;cases e:vs[i]? with
    |none=>rw [e]at h2;cases h2
    |some a=>rw [e]at h2;cases h2;rfl
   obtain⟨u,hu,rv⟩:=r.get ha
   have hp:ps[i]? = some y:=by
    rw [<-S.pre,List.getElem?_take_of_lt (by omega)];exact h1
   have ndP:ps.Nodup:=by rw [<-S.pre];exact S.nd.sublist (List.take_sublist _ _)
   refine⟨u,rv,?_⟩;rcases S.par y (List.mem_of_getElem? hp)with k|k
   · exact .inl ⟨k,ZaQ ndP hp hu k⟩
   · obtain⟨c,e⟩:=Zbo (n:=s.heap.objs.size+1) k
     refine .inr ⟨.inl k,c,e,?_⟩;have q:=x.cell y c e;rw [ZaR ndP hp hu (by show scope.names.lookup y≠_;rw [k];decide)]at q;exact q
 · exact e0.hok.fresh (Nat.le_of_lt (x.above y c (PySem.mem_of_lookup h)))
 · unfold start
   show _=N.length;rw [List.length_append,List.length_map,List.length_replicate];omega
theorem Zfu {CX:CXT} {P:Program} {w:World} {K:PySem.W.Frag} {mg:Str->Option Value} {base:Heap} {k:Nat} {f:Addr} {name qual:Str} {params:Arguments} {body:List Stmt} {scope:Scope} {dV kV doc pm cdv ct oc:Value} {an od:Option Addr}
 {osl:Array (Option Value)} {N ps:List Str} {sp:Sp} (lk:K.lookup f=some ⟨oc,od,.func (fnOf name qual params body scope dV kV doc pm an cdv ct),osl⟩) (hcd:codeIn K cdv qual=true) (S:FnScope N ps scope)
 (len:∀vs H Q E,sp vs H Q E->vs.length=ps.length)
 (hbody:∀(A:Around)(outer:List Env)(s:Shared)(H:Hp)(vs:List V)(Q:VK)(E:XK),Room k (A.deeper (envOfC qual scope s.heap.objs.size f cdv))->sp vs H Q E ->
   ∃t,PSs (Xo CX P w K mg base N qual scope f cdv A outer s H E) body t/\t { nx:=λ_ H'=>Q .non H',rt:=Q } (start N vs) H) :
 FnOk P w K mg base CX (k+1) f (fnOf name qual params body scope dV kV doc pm an cdv ct) ps sp:=by
 refine⟨len,λA outer s H args us vs Q E hr e0 hb r hsp => ?_⟩;have hl:=len _ _ _ _ hsp;have KX:K.In s.heap:=e0.mod.kin.keeps λb o e=>(e0.bs b o e).1
 have lim:s.heap.NoLimit:=e0.mod.nolimit.keeps λb o e=>(e0.bs b o e).1
 have hkind:∀y∈ps.zip us,scope.names.lookup y.1=some .local\/(scope.names.lookup y.1=some .cell/\((cellsFrom (s.heap.objs.size+1) scope.names []).lookup y.1).isSome=true):=λ⟨n,v⟩ hy=>by
  rcases S.par n (List.of_mem_zip hy).1 with q|q
  · exact .inl q
  · exact .inr ⟨q,PySem.W.cellsFrom_some _ _ _ (.inl q)⟩
 refine codeAny_call_function hr.depth (KX _ _ lk) rfl S.co S.gen rfl (PySem.W.codeRec_of KX hcd) (hb _ _ _ _ ?_);refine wpAny_newFunctionEnv_cells S.kind hkind λenv he s1 x => ?_
 subst he;refine⟨lim.keeps x.toInCall.keep,codeAny_func ?_⟩;obtain⟨t,ht,hq⟩:=hbody A outer s H vs Q E (hr.deeper _) hsp;have I:Inv (Xo CX P w K mg base N qual scope f cdv A outer s H E) [] (start N vs) H s1:=Zc3 S hr.hd e0 hl r x;refine wpAny_mono (ht [] s1 (start N vs) H _ I hq) (λfl s' hs => ?_) λe s' hs=>hs
 have fin:∀{σ':St}{H':Hp}{v:V}{u:Value},Inv (Xo CX P w K mg base N qual scope f cdv A outer s H E) [] σ' H' s'->RelV v u->Q v H'->CE outer P w H s Q u s':=
  λ{σ' H' v u} J rv q=>⟨v,H',J.os,J.bare,J.base,J.hok,rv,q⟩
 cases fl with
 |ret u=>
  obtain⟨v,σ',H',J,rv,q⟩:=hs;exact fin J rv q
 |next=>
  obtain⟨σ',H',J,q⟩:=hs;exact fin (v:=V.non) (u:=Value.none) J rfl q
 |brk=>
  obtain⟨_,_,_,q⟩:=hs;exact False.elim q
 |cont=>
  obtain⟨_,_,_,q⟩:=hs;exact False.elim q
end L2
namespace L2
open PySem PySem.Spec PyProof.Rows
section
variable{X:Cx}{x:Str}{p pos:Pos}{e:Expr}{es:List Expr}{t:TA}{id T:String}{r:List V->Hp->VK->Prop}
def tCB(r:List V->Hp->VK->Prop)(t:TA):TE:=λσ H Q=>t σ H λvs H1=>r vs H1 Q
theorem ZP (hc:YD X (.builtin id) r) (hg:Gl X x) (hm:X.mg x=none) (hv:bootBuiltins x=some (.builtin id)) (ha:PA X (e::es) t) (hn:x ≠ "__name__" := by decide) (hdb:(x == ("__debug__" : Str))=false:=by decide)
 (he:starEach (e::es) X.env=(false,eval e X.env)::starEach es X.env:=by rfl) (hpl:(backTo pos (starEach es X.env)).any (·.1)=false:=by rfl):PE X (.Call (.Name x p) (e::es) [] pos) (tCB r t):=by
 intro pins s σ H Q I h;refine wpAny_Call_Name_kw (Ut I hg hm hv ?_ hn hdb);exact PyProof.Rows.callWith_builtin1 (thn (ha pos pins s σ H _ I h) λus s1 ⟨vs,H1,I1,r1,q1⟩=>hc pins s1 σ H1 vs us Q I1 r1 q1) he hpl
theorem YX (hc:YD X (.type T) r) (hg:Gl X x) (hm:X.mg x=none) (hv:bootBuiltins x=some (.type T)) (ha:PA X (e::es) t) (hn:x ≠ "__name__" := by decide) (hdb:(x == ("__debug__" : Str))=false:=by decide)
 (he:starEach (e::es) X.env=(false,eval e X.env)::starEach es X.env:=by rfl) (hpl:(backTo pos (starEach es X.env)).any (·.1)=false:=by rfl):PE X (.Call (.Name x p) (e::es) [] pos) (tCB r t):=by
 intro pins s σ H Q I h;refine wpAny_Call_Name_kw (Ut I hg hm hv ?_ hn hdb);exact PyProof.Rows.callWith_type1 (thn (ha pos pins s σ H _ I h) λus s1 ⟨vs,H1,I1,r1,q1⟩=>hc pins s1 σ H1 vs us Q I1 r1 q1) he hpl
end
end L2
namespace HT
open PySem PyProof.Rows
section
open PySem.SeqAt
open PySem.AutoSeq1 (wpAny_loadPart')
open PySem.MeetsSeq PySem.MeetsSeq2 PySem.MeetsSeq3
end
section
variable{prog:Program}{w:World}{A:Around}{E:Value->Shared->Prop}{s:Shared}
def sIx(n d:Nat):Option Int->Nat
 |none=>d
 |some v=>if v<0 then(v+(n:Int)).toNat else min v.toNat n
theorem Zf2(n d:Nat)(hd:d<=n)(o:Option Int):sIx n d o<=n:=by
 cases o with
 |none=>exact hd
 |some v=>
  show(if v<0 then(v+(n:Int)).toNat else min v.toNat n)<=n
  by_cases hv:v<0
  · rw [if_pos hv];omega
  · rw [if_neg hv];exact Nat.min_le_right _ _
theorem Zcr(v:Int)(n d:Nat):(if v<0 then max (v+(n:Int)) 0 else min v (n:Int))=((sIx n d (some v):Nat):Int):=by
 show(if v<0 then max (v+(n:Int)) 0 else min v (n:Int))=(((if v<0 then(v+(n:Int)).toNat else min v.toNat n):Nat):Int)
 by_cases hv:v<0
 · simp only [if_pos hv];omega
 · simp only [if_neg hv];omega
theorem ZbY(lo hi:Option Int)(n:Nat):Builtin.Slice.sliceAdjust lo hi 1 (n:Int)=(((sIx n 0 lo:Nat):Int),((sIx n n hi:Nat):Int)):=by
 have h1:¬((1:Int)<0):=by omega
 unfold Builtin.Slice.sliceAdjust;simp only [h1,if_false];refine Prod.ext ?_ ?_
 · cases lo with
   |none=>rfl
   |some v=>exact Zcr v n 0
 · cases hi with
   |none=>rfl
   |some v=>exact Zcr v n n
theorem ZbZ(i j:Nat):Builtin.Slice.slicePlaces (i:Int) (j:Int) 1=j-i:=by
 unfold Builtin.Slice.slicePlaces;have h1:(1:Int)>0:=by omega
 simp only [h1,if_true,Int.ediv_one]
 split<;>omega
theorem Zas{v:Value}{o:Option Int}{Q:Option Int->Shared->Prop}(p:IsPart v o)(h:Q o s):wpAny (model prog w) A (Builtin.Slice.slicePartIndex v) Q E s:=by
 cases p with
 |none=>exact slicePart_none h
 |int i t=>exact slicePart_int h
theorem Zaf {sl:Addr} {vl vu:Value} {lo hi:Option Int} {n:Nat} {Q:Int×Int×Nat->Shared->Prop} (hs:s.heap.IsSliceOf sl vl vu .none) (pl:IsPart vl lo) (pu:IsPart vu hi)
 (h:Q (((sIx n 0 lo:Nat):Int),1,sIx n n hi-sIx n 0 lo) s):wpAny (model prog w) A (Builtin.Slice.sliceApplied (.ref sl) (pure (n:Int))) Q E s:=by
 obtain⟨os,hos,hcs,hds⟩:=id hs;unfold Builtin.Slice.sliceApplied Builtin.Slice.sliceFields;refine wpAny_bind (wpAny_bind (wpAny_field hos hds (x:=vl) rfl (wpAny_bind (wpAny_field hos hds (x:=vu) rfl (wpAny_bind (wpAny_field hos hds (x:=.none) rfl (wpAny_pure ?_)))))));refine wpAny_bind (slicePart_none ?_);show wpAny _ _ (if((1:Int) == 0)=true then _ else _) _ _ s;rw [if_neg (by decide)]
 refine wpAny_bind (Zas pl (wpAny_bind (Zas pu (wpAny_bind (wpAny_pure ?_)))));show wpAny _ _ (match Builtin.Slice.sliceAdjust lo hi 1 (n:Int)with|(lo,hi)=>pure (lo,(1:Int),Builtin.Slice.slicePlaces lo hi 1)) _ _ s;rw [ZbY lo hi n];show wpAny _ _ (pure (((sIx n 0 lo:Nat):Int),(1:Int),Builtin.Slice.slicePlaces ((sIx n 0 lo:Nat):Int) ((sIx n n hi:Nat):Int) 1)) _ _ s;rw [ZbZ]
 exact wpAny_pure h
theorem Zdt(xs:Array Value)(i k:Nat):((List.range k).filterMap λ(m:Nat)=>xs[((i:Int)+(m:Int)*1).toNat]?).toArray=((xs.toList.drop i).take k).toArray:=by
 have e:(λ(m:Nat)=>xs[((i:Int)+(m:Int)*1).toNat]?)=λm=>xs[i+m]? := by
  funext m
  have:((i:Int)+(m:Int)*1).toNat=i+m:=by omega
  rw [this]
 rw [e];have:=pick_run xs i k;rw [List.filterMap_map]at this;have e2:((λx=>xs[x]?)∘λx=>i+x)=λm=>xs[i+m]? := rfl
 rw [e2]at this;rw [this]
theorem getItem_tuple_cut {t sl:Addr} {items:Array Value} {vl vu:Value} {lo hi:Option Int} {Q:Value->Shared->Prop} (ht:IsTup s.heap t items) (hs:s.heap.IsSliceOf sl vl vu .none) (pl:IsPart vl lo) (pu:IsPart vu hi)
 (hw:¬(sIx items.size 0 lo=0/\sIx items.size items.size hi=items.size))
 (h:Q (.ref s.heap.objs.size) { s with heap:=s.heap.push { cls := .type "tuple",data := .seq ((items.toList.drop (sIx items.size 0 lo)).take (sIx items.size items.size hi-sIx items.size 0 lo)).toArray } })
 (hsz:items.size<=sizeLine):wpAny (model prog w) A (getItem (.ref t) (.ref sl)) Q E s:=by
 have htake:sizeOk (.seq ((items.toList.drop (sIx items.size 0 lo)).take (sIx items.size items.size hi-sIx items.size 0 lo)).toArray):=by
  show((items.toList.drop (sIx items.size 0 lo)).take (sIx items.size items.size hi-sIx items.size 0 lo)).toArray.size<=sizeLine;rw [List.size_toArray,List.length_take,List.length_drop,Array.length_toList];omega
 have hj:sIx items.size items.size hi<=items.size:=Zf2 _ _ (Nat.le_refl _) hi;obtain⟨os,hos,hcs,hds⟩:=id hs;have hTs:s.TypeIs (.ref sl) "slice" := ⟨os,hos,hcs⟩
 unfold getItem
 try with_reducible refine wpAny_holding ?_
 first|refine wpAny_bind (wpAny_pure ?_)|skip
 refine wpAny_bind (wpAny_sequenceKey ht.typeIs (by decide) ?_)
 refine wpAny_bind (wpAny_callSpecial?_slot (name:=Str.ofString "__getitem__") ht.typeIs PyProof.Rows.slot_tuple_getitem
  (wpAny_call_entry PyProof.Rows.slot_tuple_getitem ht.typeIs entry_tuple_getitem ?_ (args_tuple_getitem _ _)))
 show wpAny _ _ (Builtin.Tuple.tupleItemsOf (.ref t) >>= _) _ _ s;refine wpAny_bind (tupleItemsOf_ ht ?_);refine wpAny_bind (wpAny_typeOf hTs ?_);rw [if_pos (by decide)];refine wpAny_bind (Zaf hs pl pu ?_)
 have hno:¬((((sIx items.size 0 lo:Nat):Int) == 0&&(1:Int) == 1&&(sIx items.size items.size hi-sIx items.size 0 lo) == items.size)=true):=by
  intro q;rw [Bool.and_eq_true,Bool.and_eq_true]at q;have q1:((sIx items.size 0 lo:Nat):Int)=0:=eq_of_beq q.1.1;have q2:sIx items.size items.size hi-sIx items.size 0 lo=items.size:=eq_of_beq q.2;exact hw ⟨by omega,by omega⟩
 show wpAny _ _ (if(((sIx items.size 0 lo:Nat):Int) == 0&&(1:Int) == 1&&(sIx items.size items.size hi-sIx items.size 0 lo) == items.size)=true then _ else _) _ _ s;rw [if_neg hno,Zdt]
 first
  |exact wpAny_bind (m:=Builtin.Tuple.tupleExact _) (wpAny_newObj_type (wpAny_pure ⟨_,rfl,wpAny_pure h⟩) htake)
  |exact wpAny_bind (m:=Builtin.Tuple.tupleExact _) (wpAny_newObj_type (wpAny_bind (wpAny_pure (wpAny_pure ⟨_,rfl,wpAny_pure h⟩))) htake)
  |exact wpAny_bind (wpAny_bind (m:=Builtin.Tuple.tupleExact _) (wpAny_newObj_type (wpAny_pure (wpAny_pure ⟨_,rfl,wpAny_pure h⟩)) htake))
  |exact wpAny_bind (wpAny_bind (m:=Builtin.Tuple.tupleExact _) (wpAny_newObj_type (wpAny_pure ⟨_,rfl,wpAny_pure h⟩) htake))
end
end HT
namespace L2
open PySem PySem.Spec PyProof.Rows
abbrev TO:=St->Hp->(Option Int->Hp->Prop)->Prop
def PO(X:Cx)(e:Option Expr)(t:TO):Prop:=
 ∀(pins:List (Addr×Obj))(s:Shared)(σ:St)(H:Hp)(Q:Option Int->Hp->Prop),Inv X pins σ H s->t σ H Q ->
  wpAny (model X.prog X.w) X.A (evalPart e X.env) (λu s'=>∃o H',Inv X pins σ H' s'/\IsPart u o/\Q o H') X.xe s
def tNoPart:TO:=λ_ H Q=>Q none H
def Zfv(t:TE):TO:=λσ H Q=>t σ H λx H1=>∃i,x = .int i/\Q (some i) H1
section
variable{X:Cx}{e:Expr}{te:TE}{lo hi:Option Expr}{tl th:TO}{pos p2:Pos}
theorem Zez:PO X none tNoPart:=by
 intro pins s σ H Q I h;rw [evalPart_none];exact wpAny_pure ⟨none,H,I,.none,h⟩
theorem ZeA(h:PE X e te):PO X (some e) (Zfv te):=by
 intro pins s σ H Q I hw;rw [evalPart_some];refine thn (h pins s σ H _ I hw) λu s1 ⟨x,H1,I1,r1,q1⟩ => ?_
 obtain⟨i,rfl,q⟩:=q1;obtain⟨t,rfl⟩:=r1;exact⟨some i,H1,I1,.int i t,q⟩
def SlR(X:Cx)(r:V->Option Int->Option Int->Hp->VK->Prop):Prop:=
 ∀(pins:List (Addr×Obj))(s:Shared)(σ:St)(H:Hp)(x:V)(v vl vu:Value)(lo hi:Option Int)(sl:Addr)(Q:VK),Inv X pins σ H s->RelV x v->s.heap.IsSliceOf sl vl vu .none->IsPart vl lo->IsPart vu hi->r x lo hi H Q ->
  ∃T id,typeLookup (.type T) "__getitem__" = pure (some (.builtin id))/\s.TypeIs v T/\wpAny (model X.prog X.w) X.A (getItem v (.ref sl)) (EP X pins σ Q) X.xe s
theorem SlR.or{r r':V->Option Int->Option Int->Hp->VK->Prop}(h:SlR X r)(h':SlR X r'):SlR X (λx lo hi H Q=>r x lo hi H Q\/r' x lo hi H Q):=by
 intro pins s σ H x v vl vu lo hi sl Q I rx hs pl pu q;rcases q with q|q
 · exact h pins s σ H x v vl vu lo hi sl Q I rx hs pl pu q
 · exact h' pins s σ H x v vl vu lo hi sl Q I rx hs pl pu q
def tSl(r:V->Option Int->Option Int->Hp->VK->Prop)(te:TE)(tl th:TO):TE:=λσ H Q=>te σ H λx H1=>tl σ H1 λl H2=>th σ H2 λu H3=>r x l u H3 Q
theorem Zdu{r:V->Option Int->Option Int->Hp->VK->Prop}(hr:SlR X r)(he:PE X e te)(hl:PO X lo tl)(hu:PO X hi th):PE X (.Subscript e (.Slice lo hi none p2) pos) (tSl r te tl th):=by
 intro pins s σ H Q I h;refine Subscript_ (thn (he pins s σ H _ I h) λv s1 ⟨x,H1,I1,r1,q1⟩ => ?_);refine wpAny_Slice (thn (hl pins s1 σ H1 _ I1 q1) λvl s2 ⟨l,H2,I2,pl,q2⟩=>thn (hu pins s2 σ H2 _ I2 q2) λvu s3 ⟨u,H3,I3,pu,q3⟩ => ?_);rw [evalPart_none];refine wpAny_pure ?_;have I4:Inv X pins σ H3 { s3 with heap:=s3.heap.push { cls := .type "slice",data := .fields #[vl,vu,.none] } }:=I3.kept (t':=s3.toks) λb ob q=>Heap.get?_push_of_some _ q
 obtain⟨T,id,hT,ht,hg⟩:=hr pins { s3 with heap:=s3.heap.push { cls := .type "slice",data := .fields #[vl,vu,.none] } } σ H3 x v vl vu l u s3.heap.objs.size Q I4 r1 (Heap.IsSliceOf.new ..) pl pu q3;show wpAny (model X.prog X.w) X.A (subscriptTail e (.Slice lo hi none p2) v (.ref s3.heap.objs.size)) (EP X pins σ Q) X.xe { s3 with heap:=s3.heap.push { cls := .type "slice",data := .fields #[vl,vu,.none] } }
 exact tail_any (ops:=[.ref s3.heap.objs.size,v]) ht hT hg (by with_unfolding_all rfl)
def VC(xs:List V)(lo hi:Option Int):List V:=(xs.drop (HT.sIx xs.length 0 lo)).take (HT.sIx xs.length xs.length hi-HT.sIx xs.length 0 lo)
theorem Zam(xs:List V)(lo hi:Option Int):(VC xs lo hi).length<=xs.length:=by
 unfold VC;rw [List.length_take,List.length_drop];omega
def ZhS(K:PySem.W.Frag):V->Option Int->Option Int->Hp->VK->Prop:=λx lo hi H Q=>∃a xs,x = .ref a/\SqT K H a xs /\
 ¬(HT.sIx xs.length 0 lo=0/\HT.sIx xs.length xs.length hi=xs.length)/\∀p,H p=none->Q (.ref p) (upd H p (.tup (VC xs lo hi)))
theorem Zf3:SlR X (ZhS X.K):=by
 intro pins s σ H x v vl vu lo hi sl Q I rx hs pl pu h;obtain⟨a,xs,rfl,hx,hw,q⟩:=h;cases rx;obtain⟨its,r,ht,hz⟩:=I.tuple hx;have hlen:its.toArray.size=xs.length:=by rw [List.size_toArray];exact r.length.symm
 refine⟨"tuple",_,PyProof.Rows.slot_tuple_getitem.lookup,ht.typeIs,?_⟩;refine HT.getItem_tuple_cut ht hs pl pu (by rw [hlen];exact hw) ?_ (by rw [hlen];exact hz);rw [hlen];refine⟨.ref s.heap.objs.size,_,I.laid (t':=s.toks) (o:=.tup (VC xs lo hi)) (λb ob q=>Heap.get?_push_of_some _ q) (Nat.le_refl _) ?_,rfl,q _ (I.hok.fresh (Nat.le_refl _))⟩;exact⟨Nat.le_trans (Zam xs lo hi) hz,_,(r.drop (HT.sIx xs.length 0 lo)).take (HT.sIx xs.length xs.length hi-HT.sIx xs.length 0 lo),TupN.new _ _⟩
end
end L2
namespace L2
open PySem PySem.Spec PyProof.Rows
def ixN(n:Nat)(i:Int):Option Nat:=if 0<=i then(if i<n then some i.toNat else none)else if -(n:Int)<=i then some (i+n).toNat else none
def atI{α:Type}(xs:List α)(i:Int):Option α:=(ixN xs.length i).bind λj=>xs[j]?
theorem Zcs{n:Nat}{i:Int}{j:Nat}(h:ixN n i=some j):seqIndex? i n=some j/\j<n /\ -(n:Int)<=i/\i<n:=by
 unfold ixN at h
 by_cases h0:0<=i
 · rw [if_pos h0]at h
   by_cases h1:i<n
   · rw [if_pos h1]at h
     have e:i.toNat=j:=Option.some.inj h;exact⟨by rw [seqIndex_of h0 h1,e],by omega,by omega,h1⟩
   · rw [if_neg h1]at h;cases h
 · rw [if_neg h0]at h
   by_cases h1 : -(n:Int)<=i
   · rw [if_pos h1]at h
     have e:(i+n).toNat=j:=Option.some.inj h;exact⟨by rw [seqIndex_neg (by omega) h1,e],by omega,h1,by omega⟩
   · rw [if_neg h1]at h;cases h
theorem Jr{α:Type}{xs:List α}{i:Int}{v:α}(h:atI xs i=some v):∃j,seqIndex? i xs.length=some j/\xs[j]? = some v/\j<xs.length /\ -(xs.length:Int)<=i/\i<xs.length:=by
 unfold atI at h;cases e:ixN xs.length i with
 |none=>rw [e]at h;cases h
 |some j=>
  rw [e]at h;obtain⟨h1,h2,h3,h4⟩:=Zcs e;exact⟨j,h1,h,h2,h3,h4⟩
theorem UV{α:Type}{xs:List α}{j:Nat}{v:α}(h:xs[j]? = some v):atI xs (j:Int)=some v:=by
 have hj:j<xs.length:=(List.getElem?_eq_some_iff.mp h).1
 have e:ixN xs.length (j:Int)=some j:=by
  unfold ixN;rw [if_pos (by omega),if_pos (by omega)];simp
 unfold atI;rw [e];exact h
def ZeB(b:Expr):Prop:=∀o i,subscripted b false o i=operate [o,i] (getItem o i)
def IxR(X:Cx)(r:R2):Prop:=
 ∀(value slice:Expr)(pins:List (Addr×Obj))(s:Shared)(σ:St)(H:Hp)(x y:V)(v u:Value)(Q:VK),Inv X pins σ H s->RelV x v->RelV y u->r x y H Q ->
  subscripted slice false v u=operate [v,u] (getItem v u)->wpAny (model X.prog X.w) X.A (subscriptTail value slice v u) (EP X pins σ Q) X.xe s
def MtR(X:Cx)(id:String)(r:V->List V->Hp->VK->Prop):Prop:=
 ∀(pins:List (Addr×Obj))(s:Shared)(σ:St)(H:Hp)(x:V)(xs:List V)(v:Value)(us:List Value)(Q:VK),Inv X pins σ H s->RelV x v->Vals xs us->r x xs H Q ->
  wpAny (model X.prog X.w) X.A (call (.builtin id) (v::us)) (EP X pins σ Q) X.xe s
section
variable{X:Cx}{a b:Expr}{ta tb:TE}{pos:Pos}
theorem IxR.or{r r':R2}(h:IxR X r)(h':IxR X r'):IxR X (λx y H Q=>r x y H Q\/r' x y H Q):=by
 intro value slice pins s σ H x y v u Q I rx ry q hs;rcases q with q|q
 · exact h value slice pins s σ H x y v u Q I rx ry q hs
 · exact h' value slice pins s σ H x y v u Q I rx ry q hs
theorem ZA{r:R2}(hr:IxR X r)(ha:PE X a ta)(hb:PE X b tb)(hs:ZeB b):PE X (.Subscript a b pos) (tOp r ta tb):=by
 intro pins s σ H Q I h;exact Subscript_ (Jj ha hb I h λv u s2 x y H2 I2 rx ry q=>hr a b pins s2 σ H2 x y v u Q I2 rx ry q (hs _ _))
def ZhT(K:PySem.W.Frag):R2:=λx y H Q=>∃p xs i v,x = .ref p/\y = .int i/\SqL K H p xs/\atI xs i=some v/\Q v H
def ZhU(K:PySem.W.Frag):R2:=λx y H Q=>∃p xs i v,x = .ref p/\y = .int i/\SqT K H p xs/\atI xs i=some v/\Q v H
def rIxS:R2:=λx y H Q=>∃z i c,x = .str z/\y = .int i/\z.length<=sizeLine/\atI z.cps.toList i=some c/\Q (.str ⟨#[c]⟩) H
theorem ix_list:IxR X (ZhT X.K):=by
 intro value slice pins s σ H x y v u Q I rx ry h hs;obtain⟨p,xs,i,z,rfl,rfl,hq,he,q⟩:=h;cases rx;obtain⟨t,rfl⟩:=ry;obtain⟨its,r,pl,hz⟩:=I.list hq;obtain⟨j,h1,h2,h3,h4,h5⟩:=Jr he;obtain⟨w,ew,rw'⟩:=r.get h2;have hl:=r.length;have hn:=Ux;have fin:EP X pins σ Q w s:=⟨z,H,I,rw',q⟩
 by_cases h0:0<=i
 · have hj : i.toNat = j := by
    rw [seqIndex_of h0 h5]at h1;exact Option.some.inj h1
   exact item_listR pl.isList h0 (by omega) (by rw [hj];simpa using ew) fin hs
 · have hj : (i + (its.toArray.size : Int)).toNat = j := by
    rw [seqIndex_neg (by omega) h4]at h1;rw [List.size_toArray,<-hl];exact Option.some.inj h1
   exact subscriptTail_builtinR (x:=w) pl.isList.typeIs slot_list_getitem.lookup
    (wpAny_getItem_list_neg (Q:=λr s'=>r=w/\EP X pins σ Q r s') pl.isList (by omega) (by rw [List.size_toArray]<;>omega) (by omega) (by rw [hj];simpa using ew) ⟨rfl,fin⟩) hs
theorem ix_tup:IxR X (ZhU X.K):=by
 intro value slice pins s σ H x y v u Q I rx ry h hs;obtain⟨p,xs,i,z,rfl,rfl,hq,he,q⟩:=h;cases rx;obtain⟨t,rfl⟩:=ry;obtain⟨its,r,pl,hz⟩:=I.tuple hq;obtain⟨j,h1,h2,h3,h4,h5⟩:=Jr he;obtain⟨w,ew,rw'⟩:=r.get h2;have hl:=r.length;have hn:=Ux;have fin:EP X pins σ Q w s:=⟨z,H,I,rw',q⟩
 exact subscriptTail_builtinR (x:=w) pl.typeIs slot_tuple_getitem.lookup
  (getItem_tuple (j:=j) (Q:=λr s'=>r=w/\EP X pins σ Q r s') pl (by omega) (by omega) (by rw [List.size_toArray,<-hl];exact h1) (by simpa using ew) ⟨rfl,fin⟩) hs
theorem ix_str:IxR X rIxS:=by
 intro value slice pins s σ H x y v u Q I rx ry h hs;obtain⟨z,i,c,rfl,rfl,hz,he,q⟩:=h;obtain⟨t,rfl⟩:=rx;obtain⟨t',rfl⟩:=ry;obtain⟨j,h1,h2,h3,h4,h5⟩:=Jr he;have hl:z.cps.toList.length=z.length:=by simp [Str.length]
 rw [hl]at h1 h4 h5;have hn:=Ux
 exact tail_any (typeIs_str s z t) slot_str_getitem.lookup (getItem_str (c:=c) (by
  have e1:decide (i < -(2 ^ 63:Int))=false:=decide_eq_false (by omega);have e2:decide (i ≥ 2 ^ 63)=false:=decide_eq_false (by omega);rw [e1,e2,Bool.or_false]) (by rw [h1];simpa using h2) ⟨.str ⟨#[c]⟩,H,I.tok _,⟨_,rfl⟩,q⟩) hs
theorem Zb0(its:List Value)(n j:Nat)(u:Value):Obj.mapSeq (·.setIfInBounds j u) { cls := .type "list",data := .seq its.toArray n }={ cls := .type "list",data := .seq (its.set j u).toArray n }:=by
 simp [Obj.mapSeq]
theorem Inv.lst{pins:List (Addr×Obj)}{σ:St}{H:Hp}{s:Shared}{p:Addr}{xs:List V}(I:Inv X pins σ H s)(h:H p=some (.lst xs)) :
 ∃(its:List Value) (n:Nat),Vals xs its/\s.heap.get? p=some { cls := .type "list",data := .seq its.toArray n }/\xs.length<=sizeLine:=by
 obtain⟨z,its,n,r,e⟩:=I.hok p _ h;exact⟨its,n,r,e,z⟩
theorem Inv.lstUpd {pins:List (Addr×Obj)} {σ:St} {H:Hp} {s:Shared} {p:Addr} {xs ys:List V} {its its':List Value} {n n':Nat} {f:Obj->Obj} (I:Inv X pins σ H s) (h:H p=some (.lst xs))
 (ho:s.heap.get? p=some { cls := .type "list",data := .seq its.toArray n }) (hf:f { cls := .type "list",data := .seq its.toArray n }={ cls := .type "list",data := .seq its'.toArray n' }) (r:Vals ys its') (hz:ys.length<=sizeLine) (t:Nat) :
 Inv X pins σ (upd H p (.lst ys)) { s with heap:=s.heap.update p f,toks:=t }:=by
 have e:(s.heap.update p f).get? p=some { cls := .type "list",data := .seq its'.toArray n' }:=by
  rw [Heap.get?_update_self f ho (by rw [hf]<;>rfl),hf]
 refine I.write (x:=p) (e:=p) (by rw [h];trivial) (.inl rfl) (λb u hb q=>(Heap.get?_update_other _ _ (Ne.symm hb)).trans q) ⟨_,e⟩ ?_;exact⟨hz,its',n',r,e⟩
def rSetL:V->V->V->Hp->(Hp->Prop)->Prop:=λo i v H Q=>∃p xs k j,o = .ref p/\i = .int k/\H p=some (.lst xs)/\ixN xs.length k=some j/\Q (upd H p (.lst (xs.set j v)))
theorem Zbp:ZhM X rSetL:=by
 intro pins s σ H o i v ov iv u Q I ro ri rv h;obtain⟨p,xs,k,j,rfl,rfl,hp,hj,q⟩:=h;cases ro;obtain⟨t,rfl⟩:=ri;obtain⟨its,n,r,ho,hz⟩:=I.lst hp;obtain⟨h1,h2,h3,h4⟩:=Zcs hj;have hl:=r.length;have hn:=Ux
 have I':Inv X pins σ (upd H p (.lst (xs.set j v))) { s with heap:=s.heap.update p (Obj.mapSeq (·.setIfInBounds j u)) }:=
  I.lstUpd hp ho (Zb0 its n j u) (r.set rv j) (by rw [List.length_set];exact hz) s.toks
 by_cases h0:0<=k
 · have hk : k.toNat = j := by
    rw [seqIndex_of h0 h4]at h1;exact Option.some.inj h1
   exact PySem.W.ki_setAt ho h0 (by omega) (by rw [List.size_toArray,<-hl];exact h4) (by rw [hk];exact⟨_,I',q⟩)
 · have hk : (k + (its.toArray.size : Int)).toNat = j := by
    rw [seqIndex_neg (by omega) h3]at h1;rw [List.size_toArray,<-hl];exact Option.some.inj h1
   exact PySem.W.ki_setBack ho (by omega) (by rw [List.size_toArray,<-hl];exact h3) (by omega) (by rw [hk];exact⟨_,I',q⟩)
theorem Za6(lo hi:Option Int)(n:Nat):(sliceBounds lo hi none n).1=((HT.sIx n 0 lo:Nat):Int)/\(sliceBounds lo hi none n).2.1=((HT.sIx n n hi:Nat):Int)/\(sliceBounds lo hi none n).2.2=1:=by
 refine⟨?_,?_,rfl⟩
 · cases lo with
   |none=>simp [sliceBounds,HT.sIx]
   |some i=>
    simp only [sliceBounds,HT.sIx,Option.getD_none,show(1:Int)>0 by decide,if_true]
    by_cases h:i<0
    · simp only [h,if_true]<;>omega
    · simp only [h,if_false]<;>omega
 · cases hi with
   |none=>simp [sliceBounds,HT.sIx]
   |some i=>
    simp only [sliceBounds,HT.sIx,Option.getD_none,show(1:Int)>0 by decide,if_true]
    by_cases h:i<0
    · simp only [h,if_true]<;>omega
    · simp only [h,if_false]<;>omega
theorem ZaK(its:List Value)(lo hi:Option Int):slicePick its.toArray lo hi none=((its.drop (HT.sIx its.length 0 lo)).take (HT.sIx its.length its.length hi-HT.sIx its.length 0 lo)).toArray:=by
 obtain⟨h1,h2,h3⟩:=Za6 lo hi its.toArray.size;unfold slicePick;rw [h1,h2,h3];simp only [sliceRange_one,pick_run,List.size_toArray]<;>rfl
def ZhV(K:PySem.W.Frag):V->Option Int->Option Int->Hp->VK->Prop:=λx lo hi H Q=>∃a xs,x = .ref a/\SqL K H a xs/\∀p,H p=none->Q (.ref p) (upd H p (.lst (VC xs lo hi)))
theorem sl_list:SlR X (ZhV X.K):=by
 intro pins s σ H x v vl vu lo hi sl Q I rx hs pl pu h;obtain⟨a,xs,rfl,hx,q⟩:=h;cases rx;obtain⟨its,r,ht,hz⟩:=I.list hx;have hlen:=r.length;refine⟨"list",_,slot_list_getitem.lookup,ht.isList.typeIs,?_⟩;refine wpAny_getItem_list_slice ht.isList hs pl pu .none (by simp) ?_ (by rw [List.size_toArray]<;>omega);rw [ZaK,<-hlen];refine⟨.ref s.heap.objs.size,_,I.laid (t':=s.toks) (o:=.lst (VC xs lo hi)) (λb ob q=>Heap.get?_push_of_some _ q) (Nat.le_refl _) ?_,rfl,q _ (I.hok.fresh (Nat.le_refl _))⟩
 exact⟨Nat.le_trans (Zam xs lo hi) hz,_,0,(r.drop (HT.sIx xs.length 0 lo)).take (HT.sIx xs.length xs.length hi-HT.sIx xs.length 0 lo),Heap.get?_push_size _ rfl⟩
def XM:V->Bool
 | .non=>true
 | .bl _=>true
 | .int _=>true
 | .str _=>true
 |_=>false
def eqV:V->V->Bool
 | .non,.non=>true
 | .bl a,.bl b=>a == b
 | .bl a,.int b=>(if a then 1 else 0) == b
 | .int a,.bl b=>a == (if b then 1 else 0)
 | .int a,.int b=>a == b
 | .str a,.str b=>a == b
 |_,_=>false
theorem Zf4{A:Around}{s:Shared}{y x:V}{u v:Value}(ry:RelV y u)(rx:RelV x v)(fy:XM y=true)(fx:XM x=true):SeqAt.EqAt A s u v (eqV y x):=by
 cases y with
 |non=>
  cases ry;cases x with
  |non=>cases rx;exact SeqAt.EqAt.same _
  |bl b=>cases rx;exact SeqAt.EqAt.none_bool b
  |int b=>obtain⟨t,rfl⟩:=rx;exact SeqAt.EqAt.none_int b t
  |str b=>obtain⟨t,rfl⟩:=rx;exact SeqAt.EqAt.none_str b t
  |_=>exact absurd (show false=true from fx) Bool.false_ne_true
 |bl a=>
  cases ry;cases x with
  |non=>cases rx;exact SeqAt.EqAt.bool_none a
  |bl b=>cases rx;exact SeqAt.EqAt.bool_bool a b
  |int b=>obtain⟨t,rfl⟩:=rx;exact SeqAt.EqAt.bool_int a b t
  |str b=>obtain⟨t,rfl⟩:=rx;exact SeqAt.EqAt.bool_str a b t
  |_=>exact absurd (show false=true from fx) Bool.false_ne_true
 |int a=>
  obtain⟨t',rfl⟩:=ry;cases x with
  |non=>cases rx;exact SeqAt.EqAt.int_none a t'
  |bl b=>cases rx;exact SeqAt.EqAt.int_bool a t' b
  |int b=>obtain⟨t,rfl⟩:=rx;exact SeqAt.EqAt.int_int a t' b t
  |str b=>obtain⟨t,rfl⟩:=rx;exact SeqAt.EqAt.int_str a t' b t
  |_=>exact absurd (show false=true from fx) Bool.false_ne_true
 |str a=>
  obtain⟨t',rfl⟩:=ry;cases x with
  |non=>cases rx;exact SeqAt.EqAt.str_none a t'
  |bl b=>cases rx;exact SeqAt.EqAt.str_bool a t' b
  |int b=>obtain⟨t,rfl⟩:=rx;exact SeqAt.EqAt.str_int a t' b t
  |str b=>obtain⟨t,rfl⟩:=rx;exact SeqAt.EqAt.str_str a t' b t
  |_=>exact absurd (show false=true from fx) Bool.false_ne_true
 |_=>exact absurd (show false=true from fy) Bool.false_ne_true
def eqU(x:V)(u:Value):Bool:=match u with
 | .none=>eqV .non x
 | .bool b=>eqV (.bl b) x
 | .int i _=>eqV (.int i) x
 | .str z _=>eqV (.str z) x
 |_=>false
theorem Zd4{x y:V}{u:Value}(r:RelV y u)(f:XM y=true):eqU x u=eqV y x:=by
 cases y with
 |non=>cases r;rfl
 |bl b=>cases r;rfl
 |int i=>obtain⟨t,rfl⟩:=r;rfl
 |str z=>obtain⟨t,rfl⟩:=r;rfl
 |_=>exact absurd (show false=true from f) Bool.false_ne_true
theorem Js{x:V}:∀{xs:List V}{us:List Value},Vals xs us->xs.all XM=true->us.any (eqU x)=xs.any λy=>eqV y x
 |_,_,.nil,_=>rfl
 |y::xs,u::us,.cons r t,f=>by
  rw [List.all_cons,Bool.and_eq_true]at f;rw [List.any_cons,List.any_cons,Zd4 r f.1,Js t f.2]
theorem Jt{A:Around}{s:Shared}{x:V}{v:Value}(rx:RelV x v)(fx:XM x=true):∀{xs:List V}{us:List Value},Vals xs us->xs.all XM=true->∀u∈us,SeqAt.EqAt A s u v (eqU x u)
 |_,_,.nil,_=>λu hu=>by cases hu
 |y::xs,u::us,.cons r t,f=>λu' hu=>by
  rw [List.all_cons,Bool.and_eq_true]at f;rcases List.mem_cons.mp hu with rfl|hu
  · rw [Zd4 r f.1];exact Zf4 r rx f.1 fx
  · exact Jt rx fx t f.2 u' hu
def inV(x:V)(xs:List V):Bool:=xs.any λy=>eqV y x
def rIn(K:PySem.W.Frag)(neg:Bool):R2:=λx y H Q=>∃p xs,y = .ref p/\(SqL K H p xs\/SqT K H p xs)/\XM x=true/\xs.all XM=true/\Q (.bl (if neg then !inV x xs else inV x xs)) H
theorem Zc4:OpR X (compareOp .In) (rIn X.K false):=by
 intro pins s σ H x y v u Q I rx ry h;obtain⟨p,xs,rfl,hq,fx,fs,q⟩:=h;cases ry;rcases hq with hq|hq
 · obtain⟨its,r,pl,hz⟩:=I.list hq
   refine SeqAt.in_listAt (eqU x) pl.isList (λw hw=>Jt rx fx r fs w (by simpa using hw)) ⟨.bl _,H,I,rfl,?_⟩;rw [show its.toArray.any (eqU x)=its.any (eqU x) by simp,Js r fs];exact q
 · obtain⟨its,r,pl,hz⟩:=I.tuple hq
   refine SeqAt.in_tupleAt (eqU x) pl (λw hw=>Jt rx fx r fs w (by simpa using hw)) ⟨.bl _,H,I,rfl,?_⟩;rw [show its.toArray.any (eqU x)=its.any (eqU x) by simp,Js r fs];exact q
theorem Za7:YD X (.builtin "len") (λxs H Q=>∃p ys,xs=[.ref p]/\(SqL X.K H p ys\/SqT X.K H p ys)/\Q (.int ys.length) H):=by
 intro pins s σ H xs us Q I r h;obtain⟨p,ys,rfl,hq,q⟩:=h;obtain⟨u,rfl,rx⟩:=Xm r;cases rx;have hn:=Ux;rcases hq with hq|hq
 · obtain⟨its,r',pl,hz⟩:=I.list hq
   have hlen:=r'.length;exact Calls.call_len_list pl.isList (by simp only [List.size_toArray]<;>omega) ⟨.int ys.length,H,I.tok _,⟨s.toks+1,by rw [List.size_toArray,hlen]⟩,q⟩
 · obtain⟨its,r',pl,hz⟩:=I.tuple hq
   have hlen:=r'.length;exact len_tuple pl (by simp only [List.size_toArray]<;>omega) ⟨.int ys.length,H,I.tok _,⟨s.toks+1,by rw [List.size_toArray,hlen]⟩,q⟩
theorem Za8:YD X (.builtin "len") (λxs H Q=>∃z,xs=[.str z]/\z.length<=sizeLine/\Q (.int z.length) H):=by
 intro pins s σ H xs us Q I r h;obtain⟨z,rfl,hz,q⟩:=h;obtain⟨u,rfl,t,rfl⟩:=Xm r;have hn:=Ux;exact len_str (by omega) ⟨.int z.length,H,I.tok _,⟨_,rfl⟩,q⟩
theorem Za9:YD X (.type "list") (λxs H Q=>∃p ys,xs=[.ref p]/\(SqL X.K H p ys\/SqT X.K H p ys)/\∀l,H l=none->Q (.ref l) (upd H l (.lst ys))):=by
 intro pins s σ H xs us Q I r h;obtain⟨p,ys,rfl,hq,q⟩:=h;obtain⟨u,rfl,rx⟩:=Xm r;cases rx
 have fin:∀(its:List Value),Vals ys its->ys.length<=sizeLine->∀(h':Heap)(c':Nat),(∀b o',s.heap.get? b=some o'->h'.get? b=some o') ->
  h'.get? s.heap.objs.size=some { cls := .type "list",dict:=none,data := .seq its.toArray c',slots := #[] }->EP X pins σ Q (.ref s.heap.objs.size) { s with heap:=h' }:=λits r' hz h' c' kp e=>
  ⟨.ref s.heap.objs.size,_,I.laid (t':=s.toks) kp (Nat.le_refl _) (show ObjOk X.prog X.w _ h' _ (.lst ys)from⟨hz,its,c',r',e⟩),rfl,q _ (I.hok.fresh (Nat.le_refl _))⟩
 rcases hq with hq|hq
 · obtain⟨its,r',pl,hz⟩:=I.list hq
   have hlen:=r'.length;obtain⟨o,ho,hc,n,hd⟩:=pl.isList;exact call_list_seq p (.inl rfl) ho hc hd (λh' c' kp e=>fin its r' hz h' c' kp e) (by simp only [List.size_toArray]<;>omega)
 · obtain⟨its,r',pl,hz⟩:=I.tuple hq
   have hlen:=r'.length;obtain⟨o,ho,hc,n,hd⟩:=pl;exact call_list_seq p (.inr rfl) ho hc hd (λh' c' kp e=>fin its r' hz h' c' kp e) (by simp only [List.size_toArray]<;>omega)
theorem ZaL:YD X (.type "tuple") (λxs H Q=>∃p ys,xs=[.ref p]/\((SqL X.K H p ys/\∀l,H l=none->Q (.ref l) (upd H l (.tup ys)))\/(SqT X.K H p ys/\Q (.ref p) H))):=by
 intro pins s σ H xs us Q I r h;obtain⟨p,ys,rfl,h⟩:=h;obtain⟨u,rfl,rx⟩:=Xm r;cases rx;rcases h with⟨hq,q⟩|⟨hq,q⟩
 · obtain⟨its,r',pl,hz⟩:=I.list hq
   have hlen:=r'.length;refine call_tuple_list pl.isList (λh' kp => ?_) (by simp only [List.size_toArray]<;>omega);have I1:Inv X pins σ H { s with heap:=h' }:=I.kept (t':=s.toks) kp
   have I2:Inv X pins σ (upd H h'.objs.size (.tup ys)) { s with heap:=h'.push { cls := .type "tuple",data := .seq its.toArray } }:=
    I1.laid (t':=s.toks) (λb o e=>Heap.get?_push_of_some _ e) (Nat.le_refl _) (show ObjOk X.prog X.w _ _ _ (.tup ys)from⟨hz,its,r',TupN.new _ _⟩)
   exact⟨.ref h'.objs.size,_,I2,rfl,q _ (I1.hok.fresh (Nat.le_refl _))⟩
 · obtain⟨its,r',pl,hz⟩:=I.tuple hq
   exact call_tuple_same pl ⟨.ref p,H,I,rfl,q⟩
def tyV(K:PySem.W.Frag)(T:String)(x:V)(H:Hp):Prop:=match x with
 | .str _=>T = "str"
 | .int _=>T = "int"
 | .ref p=>(T = "list" /\ ∃xs,SqL K H p xs)\/(T = "tuple" /\ ∃o,K.lookup p=some o/\o.cls = .type "tuple" /\ o.dict=none) \/
  (T = "dict" /\ ((∃kvs,H p=some (.dK kvs))\/∃kvs,H p=some (.dT kvs)))\/(T = "set" /\ ∃S n,H p=some (.set S n))\/(T = "tuple" /\ ∃xs,H p=some (.tup xs))
 |_=>False
theorem Zd5{pins:List (Addr×Obj)}{σ:St}{H:Hp}{s:Shared}{T:String}{x:V}{v:Value}(I:Inv X pins σ H s)(r:RelV x v)(ty:tyV X.K T x H) :
 s.TypeIs v T/\∀a,v = .ref a->∃ob,s.heap.get? a=some ob/\ob.dict=none:=by
 cases x with
 |str z=>
  obtain⟨t,rfl⟩:=r;cases(show T = "str" from ty);exact⟨typeIs_str s z t,λ_ e=>nomatch e⟩
 |int i=>
  obtain⟨t,rfl⟩:=r;cases(show T = "int" from ty);exact⟨typeIs_int s i t,λ_ e=>nomatch e⟩
 |ref p=>
  cases r;rcases ty with⟨rfl,xs,hq⟩|⟨rfl,o,hk,hc,hd⟩|⟨rfl,hk⟩|⟨rfl,S,n,hk⟩|⟨rfl,xs,hk⟩
  · obtain⟨its,_,pl,_⟩:=I.list hq
    refine⟨pl.isList.typeIs,λa e => ?_⟩;cases e;obtain⟨o,n,e,c,hd,_⟩:=pl;exact⟨o,e,hd⟩
  · refine⟨⟨o,I.kIn p o hk,hc⟩,λa e => ?_⟩
    cases e;exact⟨o,I.kIn _ o hk,hd⟩
  · have z : ∃ o, s.heap.get? p = some o /\ o.ExactDict := by
     rcases hk with⟨kvs,hk⟩|⟨kvs,hk⟩
     · obtain⟨_,_,_,_,o,_,_,e,ex,_⟩:=I.hok p _ hk
       exact⟨o,e,ex⟩
     · obtain⟨_,_,_,_,o,_,_,e,ex,_⟩:=I.hok p _ hk
       exact⟨o,e,ex⟩
    obtain⟨o,e,ex⟩:=z;refine⟨⟨o,e,ex.1⟩,λa e2 => ?_⟩;cases e2;exact⟨o,e,ex.2.1⟩
  · obtain⟨o,_,_,_,e,ex,_⟩:=I.hok p _ hk
    refine⟨⟨o,e,ex.1⟩,λa e2 => ?_⟩;cases e2;exact⟨o,e,ex.2.1⟩
  · obtain⟨_,its,_,o,e,c,_,dn⟩:=(show ObjOk X.prog X.w H s.heap p (.tup xs)from I.hok p _ hk)
    refine⟨⟨o,e,c⟩,λa e2 => ?_⟩;cases e2;exact⟨o,e,dn⟩
 |_=>exact False.elim ty
def Ju(K:PySem.W.Frag)(T:String)(r:V->List V->Hp->VK->Prop)(to:TE):TE:=λσ H Q=>to σ H λx H1=>tyV K T x H1/\r x [] H1 Q
def tBM(K:PySem.W.Frag)(T:String)(r:V->List V->Hp->VK->Prop)(to:TE)(t:TA):TE:=λσ H Q=>to σ H λx H1=>tyV K T x H1/\t σ H1 λxs H2=>r x xs H2 Q
variable{o e:Expr}{es:List Expr}{to:TE}{t:TA}{name:Str}{apos cpos:Pos}{T id:String}{r:V->List V->Hp->VK->Prop}
theorem Zf5 (pa:PlainAttrs T) (slot:Slot T name id) (hty:typeOf (.builtin id)=pure (.type "method_descriptor")) (hm:MtR X id r) (ho:PE X o to)
 (hbase:attributeBase o name X.env (eval o X.env)=eval o X.env:=by rfl) (hline:(apos.endLine == cpos.line)=true:=by rfl):PE X (.Call (.Attribute o name apos) [] [] cpos) (Ju X.K T r to):=by
 intro pins s σ H Q I h;refine wpAny_Call_method0_late hbase hline (thn (ho pins s σ H _ I h) λv s1 ⟨x,H1,I1,r1,ty,q1⟩ => ?_);obtain⟨h1,h2⟩:=Zd5 I1 r1 ty;exact⟨T,id,pa,slot,hty,h1,h2,Calls.callWith_builtin rfl (PySem.evalArgs_none (hm pins s1 σ H1 x [] v [] Q I1 r1 .nil q1))⟩
theorem ZgF (pa:PlainAttrs T) (slot:Slot T name id) (hty:typeOf (.builtin id)=pure (.type "method_descriptor")) (hm:MtR X id r) (ho:PE X o to) (ha:PA X (e::es) t)
 (hbase:attributeBase o name X.env (eval o X.env)=eval o X.env:=by rfl)
 (hfew:((backTo cpos (starEach (e::es) X.env)).all (λx => !x.1)&&(backToKw cpos (keywordEach [] X.env)).all (λx=>x.1.isSome)
   && decide ((e::es).length+([]:List Keyword).length+(if([]:List Keyword).isEmpty then 0 else 1)<30))=true:=by rfl)
 (hline:(apos.endLine == cpos.line)=true:=by rfl) (hs:starEach (e::es) X.env=(false,eval e X.env)::starEach es X.env:=by rfl) (hplain:(backTo cpos (starEach es X.env)).any (·.1)=false:=by rfl) :
 PE X (.Call (.Attribute o name apos) (e::es) [] cpos) (tBM X.K T r to t):=by
 intro pins s σ H Q I h;refine wpAny_Call_method_late hbase hfew hline rfl (thn (ho pins s σ H _ I h) λv s1 ⟨x,H1,I1,r1,ty,q1⟩ => ?_);obtain⟨h1,h2⟩:=Zd5 I1 r1 ty;refine⟨T,id,pa,slot,hty,h1,h2,?_⟩;have hA:=ha cpos pins s1 σ H1 _ I1 q1;rw [hs]at hA ⊢;refine Calls.callWith_builtin (by show(false||(backTo cpos (starEach es X.env)).any (·.1))=false;rw [hplain]<;>rfl) (Calls.evalArgs_plain ?_)
 exact thn hA λus s2 ⟨vs,H2,I2,r2,q2⟩=>hm pins s2 σ H2 x vs v us Q I2 r1 r2 q2
end
end L2
namespace L2
open PySem PySem.Spec PyProof.Rows
def MtM(X:Cx)(id:String)(r:V->List V->Hp->VK->Prop):Prop:=
 ∀(pins:List (Addr×Obj))(s:Shared)(σ:St)(H:Hp)(x:V)(xs:List V)(v:Value)(us:List Value)(Q:VK),Inv X pins σ H s->RelV x v->Vals xs us->r x xs H Q ->
  wpAny (model X.prog X.w) X.A (call (.builtin id) (v::us)) (EP X pins σ Q) X.xe s
theorem Vals.one:∀{x:V}{us:List Value},Vals [x] us->∃u,us=[u]/\RelV x u
 |_,_,.cons r .nil=>⟨_,rfl,r⟩
theorem Vals.rep{xs:List V}{us:List Value}(h:Vals xs us):∀k:Nat,Vals (List.replicate k xs).flatten (List.replicate k us).flatten
 |0 => .nil
 |k+1=>by
  rw [List.replicate_succ,List.replicate_succ,List.flatten_cons,List.flatten_cons];exact Vals.append h (Vals.rep h k)
theorem ZaS(its:List Value):∀(k:Nat)(acc:List Value),
 List.foldl (λx1 x2=>x1++x2) acc.toArray (List.replicate k its.toArray)=(acc++(List.replicate k its).flatten).toArray
 |0,acc=>by simp
 |k+1,acc=>by
  have e:acc.toArray++its.toArray=(acc++its).toArray:=by simp
  have e2:(acc++its)++(List.replicate k its).flatten=acc++(List.replicate (k+1) its).flatten:=by
   rw [List.replicate_succ,List.flatten_cons,List.append_assoc]
  rw [<-e2,<-ZaS its k (acc++its),<-e,List.replicate_succ,List.foldl_cons]
section
variable{X:Cx}{pins:List (Addr×Obj)}{σ:St}{H:Hp}{s:Shared}{l b:Addr}{xs ys zs:List V}
theorem Inv.lset {its its':List Value} {n:Nat} {f:Array Value->Array Value} {t':Nat} (I:Inv X pins σ H s) (hH:H l=some (.lst xs))
 (e:s.heap.get? l=some { cls := .type "list",data := .seq its.toArray n }) (hf:f its.toArray=its'.toArray) (hv:Vals ys its') (hz:ys.length<=sizeLine) :
 Inv X pins σ (upd H l (.lst ys)) { s with heap:=s.heap.update l (Obj.mapSeq f),toks:=t' }:=by
 have q:=PySem.IsL.update e f;rw [hf]at q;refine I.write (x:=l) (e:=l) (by rw [hH];exact trivial) (.inl rfl) (λb' u hb hu=>(Heap.get?_update_other s.heap (Obj.mapSeq f) (Ne.symm hb)).trans hu) ⟨_,q⟩ ?_;exact⟨hz,its',_,hv,q⟩
theorem Inv.lnew{its:List Value}{t':Nat}(I:Inv X pins σ H s)(hv:Vals ys its)(hz:ys.length<=sizeLine) :
 Inv X pins σ (upd H s.heap.objs.size (.lst ys)) { s with heap:=s.heap.push { cls := .type "list",data := .seq its.toArray },toks:=t' }:=
 I.laid (λ_ _ q=>Heap.get?_push_of_some _ q) (Nat.le_refl _) ⟨hz,its,0,hv,Heap.get?_push_size _ rfl⟩
theorem Inv.fresh(I:Inv X pins σ H s):H s.heap.objs.size=none:=I.hok.fresh (Nat.le_refl _)
theorem Inv.lstM(I:Inv X pins σ H s)(hH:H l=some (.lst xs)):xs.length<=sizeLine/\∃(its:List Value) (n:Nat),Vals xs its/\xs.length=its.length/\s.heap.get? l=some { cls := .type "list",data := .seq its.toArray n }:=by
 obtain⟨z,its,n,r,e⟩:=I.hok l _ hH;exact⟨z,its,n,r,r.length,e⟩
theorem Zbq{n:Nat}(h:n<=sizeLine):Builtin.List.listTooLong n=false:=by
 unfold Builtin.List.listTooLong;exact decide_eq_false (by omega)
end
section
variable{X:Cx}
def rAppend:V->List V->Hp->VK->Prop:=λx vs H Q=>∃l xs y,x = .ref l/\vs=[y]/\H l=some (.lst xs)/\xs.length<sizeLine/\Q .non (upd H l (.lst (xs++[y])))
theorem Xw:MtM X "list.append" rAppend:=by
 intro pins s σ H x vs v us Q I rx rv h;obtain⟨l,xs,y,rfl,rfl,hH,hz,q⟩:=h;cases rx;obtain⟨u,rfl,ru⟩:=rv.one;obtain⟨z,its,n,r,hl,e⟩:=I.lstM hH;refine call_meets F.slot_list_append ⟨_,e,rfl⟩ F.entry_list_append (F.args_list_append_2 _ _) (PySem.list_append l its.toArray n u (by rw [List.size_toArray];omega)) ⟨e,?_⟩;refine⟨.non,_,I.lset (its':=its++[u]) hH e (by simp) (r.append (.cons ru .nil)) ?_,rfl,q⟩
 rw [List.length_append,List.length_singleton];omega
def rExtend:V->List V->Hp->VK->Prop:=λx vs H Q=>∃l b xs zs,x = .ref l/\vs=[.ref b]/\H l=some (.lst xs)/\H b=some (.lst zs)/\xs.length+zs.length<=sizeLine/\Q .non (upd H l (.lst (xs++zs)))
theorem Zc5:MtM X "list.extend" rExtend:=by
 intro pins s σ H x vs v us Q I rx rv h;obtain⟨l,b,xs,zs,rfl,rfl,hH,hB,hz,q⟩:=h;cases rx;obtain⟨u,rfl,ru⟩:=rv.one;cases ru;obtain⟨z,its,n,r,hl,e⟩:=I.lstM hH;obtain⟨z2,its2,n2,r2,hl2,e2⟩:=I.lstM hB;have hsz:its.toArray.size+its2.toArray.size<=sizeLine:=by rw [List.size_toArray,List.size_toArray];omega
 have hlong:¬(!its.toArray.isEmpty&&Builtin.List.listTooLong (its.toArray.size+its2.toArray.size))=true:=by
  rw [Zbq hsz,Bool.and_false];exact Bool.false_ne_true
 refine call_meets F.slot_list_extend ⟨_,e,rfl⟩ F.entry_list_extend (F.args_list_extend_2 _ _)
  (AutoSeq1.list_extend_list_list_0 l its.toArray n b its2.toArray n2 hlong (by rw [List.size_toArray];omega) (by omega)) ⟨e,e2,?_⟩
 refine⟨.non,_,I.lset (its':=its++its2) hH e (by simp) (r.append r2) ?_,rfl,q⟩;rw [List.length_append];omega
def Zic:R2:=λx y H Q=>∃l b xs zs,x = .ref l/\y = .ref b/\H l=some (.lst xs)/\H b=some (.lst zs)/\xs.length+zs.length<=sizeLine/\∀p,H p=none->Q (.ref p) (upd H p (.lst (xs++zs)))
theorem ZeC{α:Type}(xs:List α)(k:Nat):(List.replicate k xs).flatten.length=k*xs.length:=by
 induction k with
 |zero=>simp
 |succ k ih=>rw [List.replicate_succ,List.flatten_cons,List.length_append,ih,Nat.succ_mul,Nat.add_comm]
end
section
variable{prog:Program}{w:World}{A:Around}{E:Value->Shared->Prop}{s:Shared}
set_option maxRecDepth 100000 in
end
section
variable{X:Cx}
end
end L2
namespace Att
open PySem PySem.W PySem.Calls PyProof.Rows
theorem Zaq{P:Params}{h:Heap}:∀(ns:List Int)(vs:List Value),WellAll P h vs (ns.map WData.int)->IntsAre vs ns:=by
 intro ns
 induction ns with
 |nil=>
  intro vs w;rw [List.map_nil]at w;cases w;exact .nil
 |cons n ns ih=>
  intro vs w;rw [List.map_cons]at w;cases w with
  |cons a b=>
   cases a;exact .cons _ _ (ih _ b)
theorem Zc6 {l:OpenLaw} {n:Nat} (hn:l.most=some n) {P:Params} {h:Heap} {args:List WData} {vals:List Value}
 (hpre:l.row.toRowW.claim.pre args=true) (hwl:WellAll P h vals args) :
 ∃a vs ns,vals=[Value.ref a]/\args=[WData.list (ns.map WData.int)]/\h.get? a=some { cls := .type "list",data := .seq vs.toArray }/\IntsAre vs ns/\ns.length<=n:=by
 have hsh:WShape.hasAll [] args [.list .int]=true:=(pre_splitW hpre).1;have hc:l.pre.holds [] { args:=args }=true:=(pre_splitW hpre).2;obtain⟨d,r,rfl,h1,h2⟩:=hasAllW_cons hsh;obtain rfl:=hasAllW_nil h2;obtain⟨xs,rfl,h3⟩:=hasW_list h1;obtain⟨ns,rfl⟩:=items_int h3
 have hlen:ns.length<=n:=by
  unfold OpenLaw.pre at hc
  have h4:(WTm.not (.lt (.lit (.int (n:Int))) (.len (.arg 0)))).holds [] { args:=[.list (ns.map .int)] }=true:=by
   have h4:=(holds_andW hc).1;rw [hn]at h4;exact h4
  have h5:=condW_of h4 (w_not (w_lt w_lit (w_len_list (w_arg rfl))));rw [List.length_map]at h5;refine Nat.le_of_not_lt λq => ?_
  have q':(n:Int)<((ns.length:Nat):Int):=by omega
  first
   |(rw [decide_eq_true q']at h5;exact absurd h5 (by decide))
   |(simp at h5;omega)
 cases hwl with
 |cons w1 w2=>
  cases w2;cases w1 with
  |list ho hall=>exact⟨_,_,ns,rfl,rfl,ho,Zaq ns _ hall,hlen⟩
theorem Zc7(l:OpenLaw)(args:List WData):l.row.toRowW.claim.post args (.bool true) args=true:=
 postW_of (r:=l.row.toRowW) (X:=(true == true))
  (show WShape.has [] (.bool true) .bool=true by first|rfl|decide|simp [WShape.has,WShape.arms,WShape.armsAll])
  (show(WTm.eq .res (.lit (.bool true))).value [] { args:=args,res:=some (.bool true),after:=args }=some (.bool (true == true))from w_eq_bool (w_res rfl) w_lit) rfl
theorem attach_call {l:OpenLaw} {n:Nat} {q:Program} {loose:List Str} {XP:(Str->Option Value)->Heap->Prop} {YP:World->Heap->Prop} {d:DefRec}
 (hn:l.most=some n) (hdf:d.params.defaults=[])
 (call:∀(w:World)(s₀ s₁:Shared)(mg mb:Str->Option Value)(fa:Addr)(o:Obj)(pm cd doc:Value)(a:Addr)(vs:List Value)(ns:List Int),
   Ground q loose [] XP w s₀ mg mb s₁.heap->YP w s₁.heap ->
   s₁.heap.get? fa=some o->o.data = .func (docDef d.name d.params d.body d.scope pm cd doc)->s₁.heap.CodeRec cd d.name->mg d.name=some (.ref fa) ->
   s₁.heap.get? a=some { cls := .type "list",data := .seq vs.toArray }->IntsAre vs ns->ns.length<=n->s₁.gens = #[] ->
   codeAny (model l.prog w) callerA (.call (.ref fa) ⟨[.ref a],[]⟩) (λr s'=>r = .ok (.ret (.bool true))/\OldK s₁.heap s'.heap/\s'.os=s₁.os/\AllBare s'.gens) s₁) :
 WalkO q loose XP YP l.row.toRowW d [] (λf vs=>PySem.call f vs):=by
 intro w s₀ s₁ mg mb G Y fa o pm cd doc dV kV ho hd hcd hD hmg hg args vals as hpre hlay hrd hwl hlo;obtain rfl:dV = .none:=Dflts.none hD hdf;obtain rfl:kV = .none:=Dflts.noKw hD;obtain⟨a,vs,ns,rfl,rfl,hobj,hints,hlen⟩:=Zc6 hn hpre hwl;refine enter_call (codeAny_mono (call w s₀ s₁ mg mb fa o pm cd doc a vs ns G Y ho (fd_plain hd) hcd hmg hobj hints hlen hg) λr s' hq => ?_);obtain⟨rfl,h2,h3,h4⟩:=hq
 exact⟨.inl ⟨.bool true,.bool true,[],rfl,λ_=>rfl,.bool true,Zc7 l _,λ_=>⟨List.Pairwise.nil,λ_ hm=>(nomatch hm)⟩⟩,h2,h3,h4⟩
section
variable{prog:Program}{w:World}{A:Around}{E:Value->Shared->Prop}{s:Shared}{K:Frag}
end
end Att
namespace L2
open PySem PySem.Spec PyProof.Rows
theorem ZaT:∀{vs:List Value}{ns:List Int},IntsAre vs ns->Vals (ns.map V.int) vs
 |_,_,.nil => .nil
 |_,_,.cons n t h => .cons ⟨t,rfl⟩ (ZaT h)
def Jv(H:Hp):Prop:=∀b,H b=none\/∃o xs,H b=some (.frz o (.lst xs))
theorem Zdv {P:Program} {w:World} {K:PySem.W.Frag} {mg mb:Str->Option Value} {CX:CXT} {k:Nat} {fa a:Addr} {fd:FuncData} {x:Str} {sp:Sp} {s₁:Shared} {vs:List Value} {ns:List Int}
 (KX:K.In s₁.heap) (hns:s₁.heap.Ns mainGlobals mg) (hb:s₁.heap.Ns builtinsNs mb) (hbb:∀x:Str,x ≠ "__name__" -> mb x=bootBuiltins x) (hlim:s₁.heap.NoLimit) (hg:s₁.gens = #[])
 (ha:s₁.heap.get? a=some { cls := .type "list",data := .seq vs.toArray }) (hi:IntsAre vs ns) (hl:ns.length<=sizeLine) (hr:Room k callerA)
 (F:∀base:Heap,K.In base->base.Ns mainGlobals mg->FnOk P w K mg base CX k fa fd [x] sp) (hbind:∀(s:Shared)(u:Value),BindsTo s fd ⟨[u],[]⟩ [(x,u)])
 (hsp:∀H:Hp,Jv H->SqL K H a (ns.map V.int)->sp [.ref a] H (λv _=>v = .bl true) λ_ _ _=>False)
 (hCX:∀H e s',CX [] H s₁ (λ_ _ _=>False) e s'->False) :
 codeAny (model P w) callerA (.call (.ref fa) ⟨[.ref a],[]⟩) (λr s'=>r = .ok (.ret (.bool true))/\OldK s₁.heap s'.heap/\s'.os=s₁.os/\AllBare s'.gens) s₁:=by
 have rv:=ZaT hi;have lenV:=hi.length
 have core:∀H:Hp,Jv H->SqL K H a (ns.map V.int)->HOk P w H s₁.heap->(∀b,H b≠none->b=a)->(H a≠none->K.lookup a=none) ->
  codeAny (model P w) callerA (.call (.ref fa) ⟨[.ref a],[]⟩) (λr s'=>r = .ok (.ret (.bool true))/\OldK s₁.heap s'.heap/\s'.os=s₁.os/\AllBare s'.gens) s₁:=by
  intro H hO hS hok hA hK;have base_of:∀{b:Addr}{o:Obj},s₁.heap.get? b=some o->H b=none->(X6 s₁.heap H).get? b=some o:=λe n=>Zdo e n
  have noA:∀{b:Addr}{o:Obj}{es:Array DictEntry}{ep:Nat},s₁.heap.get? b=some o->o.data = .dict es ep->H b=none:=λ{b o es ep} e d=>by
   cases q:H b with
   |none=>rfl
   |some u=>
    have e':b=a:=hA b (by rw [q];simp);subst e';rw [ha]at e;cases e;have d':Data.seq vs.toArray _=Data.dict es ep:=d;cases d'
  have nsK:∀{b:Addr}{m:Str->Option Value},s₁.heap.Ns b m->(X6 s₁.heap H).Ns b m:=λ{b m} ⟨o,es,ep,e,d,r⟩=>⟨o,es,ep,base_of e (noA e d),d,r⟩
  have hKb:K.In (X6 s₁.heap H):=λb o e=>base_of (KX b o e) (by
   cases q:H b with
   |none=>rfl
   |some u=>
    have e':b=a:=hA b (by rw [q];simp);subst e';rw [hK (by rw [q];simp)]at e;cases e)
  have hM:Mod K mg (X6 s₁.heap H):=⟨hKb,nsK hns,⟨mb,nsK hb,hbb⟩,let⟨mc,h1,h2⟩:=hlim;⟨mc,nsK h1,h2⟩⟩
  have e0:Env0 P w K mg (X6 s₁.heap H) callerA [] s₁ H:=⟨rfl,hM,λb o e=>Zev e,Nat.le_of_eq (ZcV _ _),trivial,λb hb=>absurd (show b∈([]:List Addr)from hb) (by simp),hok,.of_eq hg⟩
  refine codeAny_mono ((F _ hKb (nsK hns)).run callerA [] s₁ H ⟨[.ref a],[]⟩ [.ref a] [.ref a] _ _ hr e0 (hbind s₁ (.ref a)) (.cons rfl .nil) (hsp H hO hS)) λr s' h => ?_
  cases r with
  |error e=>exact(hCX H e s' h).elim
  |ok fl=>
   cases fl with
   |next=>exact False.elim h
   |brk=>exact False.elim h
   |cont=>exact False.elim h
   |ret u=>
    obtain⟨v,H',os,bare,un,hok',r',q⟩:=h;have q':v = .bl true:=q;subst q';obtain rfl:u=Value.bool true:=r';refine⟨rfl,OldK.of_keep λb o e => ?_,os,bare⟩;cases q:H b with
    |none=>exact un.keep b o e q (by intro z;exact absurd (show b∈([]:List Addr)from z) (by simp)) (by simp)
    |some u=>
     rcases hO b with z|⟨ob,xs,z⟩
     · rw [q]at z;cases z
     · have z2:=un.frzs b ob _ z
       obtain⟨e1,_⟩:=hok b _ z;obtain⟨e2,_⟩:=hok' b _ z2;rw [e]at e1;cases e1;exact e2
 cases hk:K.lookup a with
 |some o=>
  have e:=KX a o hk;rw [ha]at e;cases e;refine core (λ_=>none) (λ_ => .inl rfl) (.inr ⟨_,vs.toArray,_,hk,rfl,rfl,rfl,by rw [List.size_toArray,lenV];exact hl,by simpa using rv⟩) (λb u z=>by have z':(none:Option HO)=some u:=z;cases z') (λb z=>absurd rfl z) λz=>absurd rfl z
 |none=>
  refine core (λb=>if b=a then some (.frz { cls := .type "list",data := .seq vs.toArray } (.lst (ns.map V.int)))else none) (λb => ?_) (.inl (.inr ⟨{ cls := .type "list",data := .seq vs.toArray },if_pos rfl⟩)) (λb u z => ?_) (λb z => ?_) λ_=>hk
  · by_cases hb:b=a
    · exact .inr ⟨_,_,if_pos hb⟩
    · exact .inl (if_neg hb)
  · by_cases hb:b=a
    · have z':=(if_pos hb).symm.trans z
      cases z';subst hb;exact⟨ha,by rw [List.length_map];exact hl,vs,_,rv,ha⟩
    · have z':=(if_neg hb).symm.trans z
      cases z'
  · by_cases hb:b=a
    · exact hb
    · exact absurd (if_neg hb) z
end L2
namespace L2
open PySem PySem.Spec PyProof.Rows
theorem walk_of {l:PySem.W.OpenLaw} {n k:Nat} {q:Program} {loose:List Str} {XP:(Str->Option Value)->Heap->Prop} {YP:World->Heap->Prop} {d:DefRec} {K:Params->PySem.W.Frag} {CX:World->CXT} {sp:World->Sp} {x:Str}
 (hn:l.most=some n) (hn2:n<=sizeLine) (hdf:d.params.defaults=[]) (hr:Room k callerA)
 (hY:∀(w:World)(h:Heap),YP w h->(K w.params).In h)
 (F:∀(w:World)(mg:Str->Option Value)(fa:Addr)(h:Heap),(K w.params).In h->h.Ns mainGlobals mg->mg d.name=some (.ref fa) ->
   ∃fd:FuncData,(∀(s:Shared)(u:Value),BindsTo s fd ⟨[u],[]⟩ [(x,u)]) /\
    ∀base:Heap,(K w.params).In base->base.Ns mainGlobals mg->FnOk l.prog w (K w.params) mg base (CX w) k fa fd [x] (sp w))
 (hsp:∀(w:World)(H:Hp)(a:Addr)(ns:List Int),ns.length<=n->Jv H->SqL (K w.params) H a (ns.map V.int)->sp w [.ref a] H (λv _=>v = .bl true) λ_ _ _=>False)
 (hCX:∀(w:World)(H:Hp)(s:Shared)(e:Value)(s':Shared),CX w [] H s (λ_ _ _=>False) e s'->False) :
 PySem.W.WalkO q loose XP YP l.row.toRowW d [] (λf vs=>PySem.call f vs):=by
 refine Att.attach_call hn hdf λw s₀ s₁ mg mb fa o pm cd doc a vs ns G Y ho hd hcd hmg hobj hints hlen hg => ?_
 have KX:=hY w _ Y;obtain⟨fd,hb,hF⟩:=F w mg fa _ KX G.T.g hmg;exact Zdv KX G.T.g G.T.b G.T.builtins G.T.nolimit hg hobj hints (Nat.le_trans hlen hn2) hr hF hb (λH hO hS=>hsp w H a ns hlen hO hS) λH e s'=>hCX w H s₁ e s'
end L2
namespace L2
open PySem PySem.Spec PyProof.Rows
def Jw(s:Stmt)(j:Nat):Stmt:=match s with
 | .ClassDef _ _ _ body _ _ _ _ _ _ _=>body.getD j (.Pass ⟨0,0,0,0⟩)
 |_ => .Pass ⟨0,0,0,0⟩
def defArgs(s:Stmt):Arguments:=match s with
 | .FunctionDef _ a _ _ _ _ _ _ _ _=>a
 |_=>{ posonlyargs:=[],args:=[],vararg:=none,kwonlyargs:=[],kw_defaults:=[],kwarg:=none,defaults:=[] }
def defBody(s:Stmt):List Stmt:=match s with
 | .FunctionDef _ _ b _ _ _ _ _ _ _=>b
 |_=>[]
def defScope(s:Stmt):Scope:=match s with
 | .FunctionDef _ _ _ _ _ _ sc _ _ _=>sc
 |_=>{ kind := .function,names:=[],isGenerator:=false,isCoroutine:=false }
abbrev CX0:CXT:=λ_ _ _ _ _ _=>False
abbrev E0:XK:=λ_ _ _=>False
theorem Zy{X:Cx}:UU CX0 X E0:=λ_ _ _ _ _ _ _ h=>h.elim
structure Fun(K:PySem.W.Frag)(x qual:Str)(st:Stmt)(f:Addr)(fd:FuncData):Prop where
 ex:∃(oc:Value) (od:Option Addr) (kV doc pm:Value) (an:Option Addr) (cdv ct:Value) (osl:Array (Option Value)),
  fd=fnOf x qual (defArgs st) (defBody st) (defScope st) .none kV doc pm an cdv ct/\K.lookup f=some ⟨oc,od,.func fd,osl⟩/\codeIn K cdv qual=true
 kp:keepIn K (.ref f)=true
section
variable{P:Program}{w:World}{K:PySem.W.Frag}{mg:Str->Option Value}{base:Heap}
theorem Fun.ok {x qual:Str} {st:Stmt} {f:Addr} {fd:FuncData} {N ps:List Str} {k:Nat} {sp:Sp} (F:Fun K x qual st f fd) (S:FnScope N ps (defScope st)) (len:∀vs H Q E,sp vs H Q E->vs.length=ps.length)
 (hbody:∀(cdv:Value)(A:Around)(outer:List Env)(s:Shared)(H:Hp)(vs:List V)(Q:VK)(E:XK),Room k (A.deeper (envOfC qual (defScope st) s.heap.objs.size f cdv))->sp vs H Q E ->
   ∃t,PSs (Xo CX0 P w K mg base N qual (defScope st) f cdv A outer s H E).nox (defBody st) t/\t { nx:=λ_ H'=>Q .non H',rt:=Q } (start N vs) H):FnOk P w K mg base CX0 (k+1) f fd ps sp:=by
 obtain⟨oc,od,kV,doc,pm,an,cdv,ct,osl,rfl,lk,hcd⟩:=F.ex;refine Zfu lk hcd S len λA outer s H vs Q E hr hsp => ?_
 obtain⟨t,h,q⟩:=hbody cdv A outer s H vs Q E hr hsp;exact⟨t,h.nox,q⟩
theorem Fun.binds {x qual:Str} {st:Stmt} {f:Addr} {fd:FuncData} {ps:List Str} (F:Fun K x qual st f fd)
 (h:∀(kV doc pm:Value)(an:Option Addr)(cdv ct:Value)(us:List Value),us.length=ps.length->bindArgs (fnOf x qual (defArgs st) (defBody st) (defScope st) .none kV doc pm an cdv ct) ⟨us,[]⟩=pure (ps.zip us)):Binds K fd ps []:=by
 obtain⟨oc,od,kV,doc,pm,an,cdv,ct,osl,rfl,lk,hcd⟩:=F.ex;exact .all (h kV doc pm an cdv ct)
theorem Zz {x qual:Str} {st:Stmt} {f:Addr} {oc:Value} {od an:Option Addr} {osl:Array (Option Value)} {kV doc pm cdv ct:Value} (l:K.lookup f=some ⟨oc,od,.func (fnOf x qual (defArgs st) (defBody st) (defScope st) .none kV doc pm an cdv ct),osl⟩)
 (c:codeIn K cdv qual=true) (k:keepIn K (.ref f)=true):Fun K x qual st f (fnOf x qual (defArgs st) (defBody st) (defScope st) .none kV doc pm an cdv ct):=⟨⟨oc,od,kV,doc,pm,an,cdv,ct,osl,rfl,l,c⟩,k⟩
end
section
variable{X:Cx}
theorem pv (i:Nat) {x:Str} {pos:Pos} (hN:X.N[i]? = some x:=by rfl) (hv:Vis X.env.scope x:=by first|exact Or.inl rfl|exact Or.inr (Or.inl rfl)|exact Or.inr (Or.inr rfl)) (hd:(x == ("__debug__" : Str))=false:=by decide)
 (hcd:(x == ("__classdict__" : Str))=false:=by decide):PE X (.Name x pos) (Vz i):=ZfW hN hv hd hcd
end
theorem V7{A B:Prop}(h:B):if false=true then A else B:=by
 rw [if_neg Bool.false_ne_true];exact h
theorem V8{A B:Prop}(h:A):if true=true then A else B:=by
 rw [if_pos rfl];exact h
def Same(H H':Hp):Prop:=∀b o,H b=some o->H' b=some o
theorem Same.refl(H:Hp):Same H H:=λ_ _ h=>h
theorem Same.trans{H H1 H2:Hp}(a:Same H H1)(b:Same H1 H2):Same H H2:=λc o h=>b c o (a c o h)
theorem Same.free{H H':Hp}(e:Same H H'){l:Addr}(h:H' l=Option.none):H l=Option.none:=by
 cases q:H l with
 |none=>rfl
 |some o=>
  rw [e l o q]at h;cases h
theorem Same.seq{K:PySem.W.Frag}{H H':Hp}{a:Addr}{xs:List V}(e:Same H H')(h:SqL K H a xs):SqL K H' a xs:=by
 rcases h with(h|⟨o,h⟩)|h
 · exact .inl (.inl (e _ _ h))
 · exact .inl (.inr ⟨o,e _ _ h⟩)
 · exact .inr h
end L2
namespace HT
open PySem PySem.W PySem.Calls PyProof.Rows
def de(P:Params)(x:Str)(t:Nat)(v:Value):DictEntry:=⟨PyData.keyHash P x,.str x t,v⟩
def dO(c:Value)(es:List DictEntry)(n:Nat):Obj:=⟨c,none,.dict es.toArray n,#[]⟩
def cO(vs:List Value):Obj:=⟨.type "code",none,.fields vs.toArray,#[]⟩
def fO(x q:Str)(st:Stmt)(dv kv doc pm:Value)(an:Option Addr)(cd ct:Value):Obj:=⟨.type "function",none,.func (fnOf x q (L2.defArgs st) (L2.defBody st) (L2.defScope st) dv kv doc pm an cd ct),#[]⟩
def c3(x q:Str)(t l a n r:Nat)(r2:Nat)(v w:Value)(r3 k k2:Nat):Obj:=cO [.str x t,.str q (t+1),.str "/claim/cut.py" (t+2),.int l 0,.int a 0,.int 0 0,.int 0 0,.int n 0,.ref r,.bool true,.int 181 0,.ref r2,.none,v,w,.ref r3,.int k 0,.int l 0,.str "/claim/cut.py" k2]
def f3(x q:Str)(st:Stmt)(m:Str)(t c:Nat):Obj:=fO x q st .none .none .none (.str m t) none (.ref c) .none
def k3(x:Str)(a b n r t u:Nat):Obj:=⟨.type "type",none,.cls ⟨x,[.ref b],[.ref a,.ref b,.type "ValueError",.type "Exception",.type "BaseException",.type "object"],n,x,true,[],[],false,none,false⟩,#[some (.ref r),none,some (.str x t),some (.str x u),some (.builtin "ValueError.__new__"),some (.bool true)]⟩
def met{α:Type}(_:α):Bool:=true
noncomputable def ZgG(P:Params):BT:=
 ((((((((((BT.nil.ins 0 (boot_o_0 P)).ins 1 (boot_o_1 P)).ins 2 (boot_o_2 P)).ins 3 (boot_o_3 P)).ins 4 (boot_o_4 P)).ins 5 (boot_o_5 P)).ins 6 (boot_o_6 P)).ins 7 (boot_o_7 P)).ins 8 (boot_o_8 P)).ins 9 (boot_o_9 P)).ins 10 (boot_o_10 P)
noncomputable abbrev S0(w:World)(os:OsState):Shared:=⟨boot_heap w.params,Array.mk [],boot_drawn,boot_toks,os⟩
noncomputable abbrev S0T(w:World)(os:OsState):SharedT:=⟨ZgG w.params,11,(boot_heap w.params).life,Array.mk [],boot_drawn,boot_toks,os⟩
theorem Zid(w:World)(os:OsState):(S0T w os).abs=S0 w os:=rfl
noncomputable def Jx(thr ok:Thread->Bool)(st:SharedT->Thread->Option (SharedT×Thread))(n:Nat):SharedT->Thread->Option SharedT:=
 @Nat.rec (λ_=>SharedT->Thread->Option SharedT) (λ_ _=>none)
  (λ_ ih s t => @Bool.rec (λ_=>Option SharedT) (@Bool.rec (λ_=>Option SharedT) none (@Option.rec (SharedT×Thread) (λ_=>Option SharedT) none (λr=>ih r.1 r.2) (st s t)) (ok t)) (some s) (thr t)) n
theorem Zbr{tb:String->Option Builtin}{p:Program}{w:World}{n₀:Nat}{ann:Option Value}:∀{n:Nat}{s s':SharedT}{t:Thread},Jx through (stepOk n₀ ann) (stepT (denote tb) p w) n s t=some s'->topRun tb p w n₀ ann n s.abs t=some s'.abs
 |0,_,_,_,h=>by cases h
 |n+1,s,s',t,h=>by
  replace h : @Bool.rec (λ_=>Option SharedT) (@Bool.rec (λ_=>Option SharedT) none (@Option.rec (SharedT×Thread) (λ_=>Option SharedT) none (λr=>Jx through (stepOk n₀ ann) (stepT (denote tb) p w) n r.1 r.2) (stepT (denote tb) p w s t)) (stepOk n₀ ann t)) (some s) (through t)=some s':=h;unfold topRun;cases ht:through t with
  |true=>rw [ht]at h;cases h;rfl
  |false=>
   rw [ht]at h;cases hk:stepOk n₀ ann t with
   |false=>rw [hk]at h;cases h
   |true=>
    rw [hk]at h;cases hs:stepT (denote tb) p w s t with
    |none=>rw [hs]at h;cases h
    |some r=>obtain⟨s₂,t₂⟩:=r;rw [hs]at h;rw [stepT_spec hs];exact Zbr h
theorem left_of {p q:Program} {loose:List Str} {Xt:Shared->Bool} {α:Type} {Yf:Shared->α} {Ya:World->α} {N:Nat}
 (e:opening p=plainProg p.main.scope.names) (hN:Nat.ble 600 N=true) (f:∀s,fenceModules? p s=some s)
 (run:∀w:World,(λos=>(Jx through (stepOk 11 (some (.ref 6))) (stepT (denote treeTable) p w) N (S0T w os) (topStub p)).map λs=>((staticsOk (importedModules p.main.body) (boot_heap w.params) s.abs.heap&&namesBound p s.abs.heap&&gensDone s.abs&&laidKept (boot_heap w.params) s.abs.heap),
   openSeen q loose (importedModules p.main.body) Xt true s.abs,Yf s.abs))=λ_=>some (true,openGood q loose,Ya w)):LeftO p q loose Xt Yf Ya N:=λw=>by
 obtain⟨⟨h,gs,d,k,os⟩,e,e'⟩:=Option.map_eq_some_iff.mp (boot_open e hN f w);obtain⟨rfl,rfl,rfl,rfl⟩:h=boot_heap w.params/\gs=Array.mk []/\d=boot_drawn/\k=boot_toks:=by simpa using e'
 obtain⟨s1,r,l⟩:=Option.map_eq_some_iff.mp (congrFun (run w) os);obtain⟨l1,l2,l3⟩:_/\_/\_:=by simpa only [Prod.mk.injEq]using l
 have r:=Zbr r;rw [Zid]at r;have z1:((boot_heap w.params).isNs mainGlobals&&(Array.mk []:Array GenState).size == 0)=true:=by kernel_rfl
 have z2:(boot_heap w.params).objs.size=11:=rfl;have z3:(boot_heap w.params).nsMap mainGlobals "__annotations__" = some (.ref 6):=by kernel_rfl
 have t:topFrom treeTable p w N (S0 w os)=some s1.abs:=by
  unfold topFrom;dsimp only;rw [z1,z2,z3,r];show(match staticsOk (importedModules p.main.body) (boot_heap w.params) s1.abs.heap&&namesBound p s1.abs.heap&&gensDone s1.abs&&laidKept (boot_heap w.params) s1.abs.heap with|true=>_|false=>_)=_;rw [l1]
 unfold openEnds;rw [e];show(topFrom treeTable p w N _).map _=_;rw [t];exact congrArg some (Prod.ext l2 l3)
end HT
namespace L2
open PySem Builtin Builtin.Str
abbrev tx(cs:List Nat):Str:=⟨cs.toArray⟩
theorem tx_inj{a b:List Nat}:tx a=tx b ↔ a=b:=by
 constructor
 · intro h
   have h2:a.toArray=b.toArray:=congrArg Str.cps h;simpa using h2
 · rintro rfl;rfl
theorem Jy(x:Str):tx x.cps.toList=x:=by
 obtain⟨a⟩:=x;show Str.mk a.toList.toArray=Str.mk a;simp
theorem Xp(cs:List Nat):(tx cs).cps.toList=cs:=by simp [tx]
theorem Yh(cs:List Nat):(tx cs).length=cs.length:=by simp [tx,Str.length]
theorem Jz(a b:List Nat):tx a++tx b=tx (a++b):=by
 show Str.mk (a.toArray++b.toArray)=Str.mk (a++b).toArray;simp
def Yi(n d:Nat):Option Int->Nat
 |none=>d
 |some v=>if v<0 then(v+(n:Int)).toNat else min v.toNat n
def cutL{α:Type}(xs:List α)(lo hi:Option Int):List α:=(xs.drop (Yi xs.length 0 lo)).take (Yi xs.length xs.length hi-Yi xs.length 0 lo)
theorem Zd6(lo hi:Option Int)(n:Nat):strSliceIndices lo hi 1 n=(List.range (Yi n n hi-Yi n 0 lo)).map λk=>Yi n 0 lo+k:=by
 have clip:∀v:Int,max 0 (min (if v<0 then v+(n:Int)else v) (n:Int))=(((if v<0 then(v+(n:Int)).toNat else min v.toNat n):Nat):Int):=by
  intro v
  by_cases h:v<0
  · rw [if_pos h,if_pos h];omega
  · rw [if_neg h,if_neg h];omega
 have key:∀(a b:Nat),sliceRange (a:Int) (b:Int) 1=(List.range (b-a)).map λk=>a+k:=by
  intro a b;unfold sliceRange;simp only [show(1:Int)>0 by decide,if_true]
  have e:(if(a:Int)<(b:Int)then((b:Int)-(a:Int)+1-1) / 1 else 0).toNat=b-a:=by
   split
   · rw [Int.ediv_one];omega
   · omega
  rw [e];refine List.map_congr_left λk _ => ?_
  omega
 unfold strSliceIndices;simp only [show(1:Int)>0 by decide,if_true];cases lo with
 |none=>
  cases hi with
  |none=>exact key 0 n
  |some v=>
   have:=key 0 (Yi n n (some v));refine Eq.trans ?_ this;show sliceRange 0 (max 0 (min (if v<0 then v+(n:Int)else v) (n:Int))) 1=_;rw [clip v];rfl
 |some u=>
  cases hi with
  |none=>
   have:=key (Yi n 0 (some u)) n;refine Eq.trans ?_ this;show sliceRange (max 0 (min (if u<0 then u+(n:Int)else u) (n:Int))) n 1=_;rw [clip u];rfl
  |some v=>
   have:=key (Yi n 0 (some u)) (Yi n n (some v));refine Eq.trans ?_ this;show sliceRange (max 0 (min (if u<0 then u+(n:Int)else u) (n:Int))) (max 0 (min (if v<0 then v+(n:Int)else v) (n:Int))) 1=_;rw [clip u,clip v];rfl
theorem Zbs{α:Type}(xs:List α)(l:Nat):∀k,l+k<=xs.length->((List.range k).map λj=>l+j).filterMap (λj=>xs[j]?)=(xs.drop l).take k
 |0,_=>by simp
 |k+1,h=>by
  rw [List.range_succ,List.map_append,List.filterMap_append,Zbs xs l k (by omega)];have hx:xs[l+k]? = some (xs[l+k]'(by omega)):=List.getElem?_eq_getElem (by omega);rw [List.take_add_one,List.getElem?_drop,hx];simp [hx]
theorem Zc8(n:Nat)(o:Option Int):Yi n n o<=n:=by
 cases o with
 |none=>exact Nat.le_refl _
 |some v=>
  show(if v<0 then(v+(n:Int)).toNat else min v.toNat n)<=n
  split<;>omega
theorem Zdw(cs:List Nat)(lo hi:Option Int):Txt.slice (tx cs) lo hi=tx (cutL cs lo hi):=by
 have hn:(tx cs).length=cs.length:=Yh cs;have hb:=Zc8 cs.length hi
 have hp:((strSliceIndices lo hi 1 cs.length).filterMap λj=>cs[j]?)=cutL cs lo hi:=by
  rw [Zd6];unfold cutL
  by_cases h:Yi cs.length 0 lo<=Yi cs.length cs.length hi
  · exact Zbs cs _ _ (by omega)
  · have e:Yi cs.length cs.length hi-Yi cs.length 0 lo=0:=by omega
    rw [e];simp
 unfold Txt.slice;rw [hn]
 by_cases hc:((1:Int) == 1&&(strSliceIndices lo hi 1 cs.length).length == cs.length)=true
 · rw [if_pos hc]
   have hl:(strSliceIndices lo hi 1 cs.length).length=cs.length:=by simpa using hc
   rw [Zd6,List.length_map,List.length_range]at hl;have e0:Yi cs.length 0 lo=0\/cs.length=0:=by omega
   rw [tx_inj];unfold cutL;rw [hl];rcases e0 with e0|e0
   · rw [e0];simp
   · have:cs=[]:=List.eq_nil_of_length_eq_zero e0
     subst this;simp
 · rw [if_neg hc]
   have:((strSliceIndices lo hi 1 cs.length).filterMap λj=>(tx cs).cps[j]?)=cutL cs lo hi:=by
    rw [<-hp];simp [tx]
   rw [this]
theorem Zdx{α:Type}(xs:List α)(k:Nat):cutL xs (some (k:Int)) none=xs.drop k:=by
 unfold cutL Yi;simp only [show ¬((k:Int)<0) by omega,if_false,Int.toNat_natCast]
 by_cases h:k<=xs.length
 · rw [Nat.min_eq_left h,List.take_of_length_le (by simp)]
 · rw [Nat.min_eq_right (by omega),List.drop_eq_nil_of_le (Nat.le_refl _),List.drop_eq_nil_of_le (by omega)]
   simp
end L2
namespace L2
open PySem Builtin Builtin.Str
def Zf(n:Nat):List Nat:=(Nat.toDigits 10 n).map Char.toNat
def V9(c:Nat):Bool:=decide (48<=c)&&decide (c<=57)
def Uy(cs:List Nat):Nat:=cs.foldl (λacc c=>acc*10+(c-48)) 0
theorem Qo(cs:List Nat)(c i:Nat):StrLaws.At (tx cs) (tx [c]) (tx cs).length i ↔ cs[i]? = some c:=by
 have:=StrLaws.subAt_one (tx cs) c i;rw [Xp]at this;exact this
theorem JA(cs:List Nat)(a b:Nat):strSub (tx cs) a b=tx ((cs.drop a).take (b-a)):=by
 rw [<-Jy (strSub (tx cs) a b),StrLaws.strSub_toList,Xp]
def Z2(c:Nat):List Nat->List (List Nat)
 | []=>[[]]
 |x::xs=>if x=c then []::Z2 c xs else match Z2 c xs with
  | []=>[[x]]
  |p::ps=>(x::p)::ps
theorem Qp{c:Nat}:∀{cs:List Nat},c∉cs->Z2 c cs=[cs]
 | [],_=>rfl
 |x::xs,h=>by
  have hx:¬x=c:=λe=>h (by rw [e];exact List.mem_cons_self)
  unfold Z2;rw [if_neg hx,Qp λm=>h (List.mem_cons_of_mem _ m)]
theorem JB{c:Nat}:∀{p r:List Nat},c∉p->Z2 c (p++c::r)=p::Z2 c r
 | [],r,_=>by
  show Z2 c (c::r)=_;rw [Z2,if_pos rfl]
 |x::p,r,h=>by
  have hx:¬x=c:=λe=>h (by rw [e];exact List.mem_cons_self)
  show Z2 c (x::(p++c::r))=_;rw [Z2,if_neg hx,JB λm=>h (List.mem_cons_of_mem _ m)]
theorem ZeD{cs:List Nat}{d c:Nat}(h:cs[d]? = some c):cs.drop d=c::cs.drop (d+1):=by
 have hl:d<cs.length:=(List.getElem?_eq_some_iff.mp h).1;rw [List.drop_eq_getElem_cons hl];have:=(List.getElem?_eq_some_iff.mp h).2;rw [this]
theorem Zdy{cs:List Nat}{c a d:Nat}(h:∀k,a<=k->k<d->¬cs[k]? = some c):c∉(cs.drop a).take (d-a):=by
 intro hm;obtain⟨j,hj⟩:=List.getElem?_of_mem hm
 have hlt:j<d-a:=by
  have h1:=(List.getElem?_eq_some_iff.mp hj).1;rw [List.length_take]at h1;omega
 rw [List.getElem?_take_of_lt hlt,List.getElem?_drop]at hj;exact h (a+j) (by omega) (by omega) hj
theorem Zc9{cs:List Nat}{c a:Nat}(h:∀k,a<=k->¬cs[k]? = some c):c∉cs.drop a:=by
 intro hm;obtain⟨j,hj⟩:=List.getElem?_of_mem hm;rw [List.getElem?_drop]at hj;exact h (a+j) (by omega) hj
theorem Zbt(cs:List Nat)(c:Nat):∀(cuts:List Nat)(a f:Nat),StrLaws.ChainG (tx cs) (tx [c]) (tx cs).length a cuts f->(∀k,f<=k->¬StrLaws.At (tx cs) (tx [c]) (tx cs).length k) ->
 StrLaws.partsFrom (tx cs) (tx [c]).length a cuts=(Z2 c (cs.drop a)).map tx
 | [],a,f,h,hn=>by
  have e:f=a:=h;subst e;have hf:c∉cs.drop f:=Zc9 λk hk=>λz=>hn k hk ((Qo cs c k).mpr z)
  rw [Qp hf];show [strSub (tx cs) f (tx cs).length]=[tx (cs.drop f)]
  rw [JA,Yh,List.take_of_length_le (by rw [List.length_drop];exact Nat.le_refl _)]
 |d::r,a,f,h,hn=>by
  obtain⟨had,hAt,hgap,hrest⟩:=h;have hd:=(Qo cs c d).mp hAt;have ih:=Zbt cs c r _ f hrest hn
  have e:cs.drop a=(cs.drop a).take (d-a)++c::cs.drop (d+1):=by
   have e1:(cs.drop a).drop (d-a)=cs.drop d:=by rw [List.drop_drop];congr 1;omega
   rw [<-ZeD hd,<-e1,List.take_append_drop]
  have hg:c∉(cs.drop a).take (d-a):=Zdy λk h1 h2 z=>hgap k h1 h2 ((Qo cs c k).mpr z)
  rw [e,JB hg,List.map_cons];show strSub (tx cs) a d::StrLaws.partsFrom (tx cs) (tx [c]).length (d+(tx [c]).length) r=_;rw [ih,JA];rfl
theorem Zdz(cs:List Nat)(c:Nat):Txt.split (tx cs) (tx [c])=(Z2 c cs).map tx:=by
 have one:c∉cs->[tx cs]=(Z2 c cs).map tx:=λh=>by rw [Qp h];rfl
 unfold Txt.split
 split
 · rename_i h
   refine one ?_;rw [Bool.or_eq_true,decide_eq_true_eq,decide_eq_true_eq]at h;rcases h with h|h
   · rw [Yh]at h
     have:cs=[]:=List.eq_nil_of_length_eq_zero (by rw [Yh]at h;have h':cs.length<1:=h;omega);subst this;simp
   · have:=StrLaws.kind_free (tx cs) c h
     rw [Xp]at this;exact this
 · split
   · rename_i h1 h2
     refine one λhm => ?_
     obtain⟨j,hj⟩:=List.getElem?_of_mem hm;obtain⟨f,hc,hn⟩:=StrLaws.occ_tight (tx cs) (tx [c]) (by rw [Yh];exact Nat.le_refl _);rw [List.isEmpty_iff.mp h2]at hc;have e:f=0:=hc;exact hn j (by omega) ((Qo cs c j).mpr hj)
   · obtain⟨f,hc,hn⟩:=StrLaws.occ_tight (tx cs) (tx [c]) (by rw [Yh];exact Nat.le_refl _)
     have:=Zbt cs c _ 0 f hc hn;rw [List.drop_zero]at this;rw [<-this];exact StrLaws.zip_parts _ _ _ _
def Yw(sep:List Nat):List (List Nat)->List Nat
 | []=>[]
 | [x]=>x
 |x::y::r=>x++sep++Yw sep (y::r)
theorem JC(sep:List Nat):∀l:List (List Nat),Str.join (tx sep) (l.map tx)=tx (Yw sep l)
 | []=>rfl
 | [x]=>rfl
 |x::y::r=>by
  show tx x++tx sep++Str.join (tx sep) ((y::r).map tx)=_;rw [JC sep (y::r),Jz,Jz];rfl
theorem JD(c:Nat):∀l:List (List Nat),l≠[]->(∀p∈l,c∉p)->Z2 c (Yw [c] l)=l
 | [],h,_=>absurd rfl h
 | [x],_,h=>Qp (h x List.mem_cons_self)
 |x::y::r,_,h=>by
  show Z2 c (x++[c]++Yw [c] (y::r))=_;rw [List.append_assoc];show Z2 c (x++c::Yw [c] (y::r))=_;rw [JB (h x List.mem_cons_self),JD c (y::r) (by simp) λp hp=>h p (List.mem_cons_of_mem _ hp)]
end L2
namespace L2
open PySem PySem.Spec PyProof.Rows
section
variable{prog:Program}{w:World}{A:Around}{R:Result->Shared->Prop}{s:Shared}
theorem Zba {elt target iter:Expr} {ifs:List Expr} {scope:Scope} {pos:Pos} {it acc:Value} {env:Env} (I:Nat->Shared->Prop)
 (turn:∀n s,I n s->wpAny (model prog w) A (pyNext it) (λr s₁=>match r with
   |none=>R (.ok .next) s₁
   |some v=>wpAny (model prog w) A (letOwnedTupleGo target it v) (λ_ s₀=>wpAny (model prog w) A (assign target env v) (λ_ s₂=>
    wpAny (model prog w) A (forIn ifs true λc r=>if r=true then do let ok <-isTrue c env (eval c env);pure (ForInStep.yield ok)else pure (ForInStep.yield r)) (λok s₃=>
     if ok=true then wpAny (model prog w) A (eval elt env) (λx s₄=>
      wpAny (model prog w) A (call (.builtin "list.append") [acc,x]) (λ_ s₅=>∃m,m<n/\I m s₅) (notedBy (model prog w) A env λe s'=>R (.error e) s') s₄) (notedBy (model prog w) A env λe s'=>R (.error e) s') s₃
     else ∃m,m<n/\I m s₃) (notedBy (model prog w) A env λe s'=>R (.error e) s') s₂) (notedBy (model prog w) A env λe s'=>R (.error e) s') s₀) (notedBy (model prog w) A env λe s'=>R (.error e) s') s₁) (notedBy (model prog w) A env λe s'=>R (.error e) s') s)
 (n:Nat) (h:I n s) :
 codeAny (model prog w) A (.compLoop (.ListComp elt [⟨target,iter,ifs,0⟩] scope pos) 0 it acc env) R s:=by
 refine codeAny_loop rfl I (λn s hI => ?_) n h;show wpAny _ A ((compTurn (.ListComp elt [⟨target,iter,ifs,0⟩] scope pos) 0 it acc env).onRaise (λx=>do noteFrame x env;theTreesLotGoes x)) _ _ s;refine wpAny_noted ?_;rw [compTurn_list];refine wpAny_bind (wpAny_standAt (wpAny_bind (wpAny_mono (turn n s hI) (λr s₁ h₁ => ?_) λ_ _ h'=>h')));cases r with
 |none=>exact wpAny_pure h₁
 |some v=>
  refine wpAny_bind (wpAny_mono h₁ (λ_ s₀ h₀ => ?_) λ_ _ h'=>h');refine wpAny_bind (wpAny_mono h₀ (λ_ s₂ h₂=>wpAny_bind (wpAny_mono h₂ (λok s₃ h₃ => ?_) λ_ _ h'=>h')) λ_ _ h'=>h');cases ok with
  |false=>exact wpAny_pure ⟨rfl,h₃⟩
  |true=>
   exact wpAny_bind (wpAny_bind (wpAny_mono h₃ (λx s₄ h₄=>wpAny_bind (wpAny_mono h₄ (λ_ s₅ h₅=>wpAny_pure (wpAny_pure ⟨rfl,h₅⟩)) λ_ _ h'=>h')) λ_ _ h'=>h'))
end
def YQ(cells:List (Str×Addr)):List (Str×NameKind)->List (Str×Addr)->List (Str×Addr)
 | [],acc=>acc
 |(n,k)::r,acc=>YQ cells r (if(k == .free)=true then(n,(cells.lookup n).getD 0)::acc else acc)
theorem JE{env:Env}:∀(names:List (Str×NameKind))(acc:List (Str×Addr)),(∀x∈names,x.2 = .free->∃c,env.cells.lookup x.1=some c) ->
 (forIn names acc λ(x:Str×NameKind) (r:List (Str×Addr))=>match x with
   |(name,kind)=>if(kind == .free)=true then(do let c <-cellOf env name;pure (ForInStep.yield ((name,c)::r)))else pure (ForInStep.yield r))=(pure (YQ env.cells names acc):Sem _)
 | [],acc,_=>rfl
 |(n,k)::r,acc,h=>by
  rw [List.forIn_cons];show((if(k == .free)=true then(do let c <-cellOf env n;pure (ForInStep.yield ((n,c)::acc)))else pure (ForInStep.yield acc)) >>= _)=_
  by_cases hk:(k == .free)=true
  · obtain⟨c,hc⟩:=h (n,k) List.mem_cons_self (by simpa using hk)
    have e:cellOf env n=pure c:=by
     unfold cellOf;rw [hc]
    rw [if_pos hk,e];show(forIn r ((n,c)::acc) _:Sem _)=_;rw [JE r _ λx hx=>h x (List.mem_cons_of_mem _ hx)]
    conv=>rhs;unfold YQ
    rw [if_pos hk,hc];rfl
  · rw [if_neg hk]
    show(forIn r acc _:Sem _)=_;rw [JE r _ λx hx=>h x (List.mem_cons_of_mem _ hx)]
    conv=>rhs;unfold YQ
    rw [if_neg hk]
theorem Zab{scope:Scope}{env:Env}(h:∀x∈scope.names,x.2 = .free->∃c,env.cells.lookup x.1=some c):closureFor scope env=pure (YQ env.cells scope.names []):=by
 have e:=JE (env:=env) scope.names [] h;unfold closureFor;show((forIn scope.names ([]:List (Str×Addr)) _:Sem _) >>= λcs=>pure cs)=_
 have e2:(forIn scope.names ([]:List (Str×Addr)) λ(x:Str×NameKind) (r:List (Str×Addr))=>match x with
  |(name,kind)=>if(kind == .free)=true then(do let c <-cellOf env name;pure (ForInStep.yield ((name,c)::r)))else pure (ForInStep.yield r))=(pure (YQ env.cells scope.names []):Sem _):=e
 rw [e2];rfl
theorem Vc{cells:List (Str×Addr)}{x:Str}{c:Addr}:∀(names:List (Str×NameKind))(acc:List (Str×Addr)),(∀y∈names,y.2 = .free->∃c,cells.lookup y.1=some c) ->
 (∀c,acc.lookup x=some c->cells.lookup x=some c)->(YQ cells names acc).lookup x=some c->cells.lookup x=some c
 | [],acc,_,ha,h=>ha c h
 |(n,k)::r,acc,hf,ha,h=>by
  unfold YQ at h;refine Vc r _ (λy hy=>hf y (List.mem_cons_of_mem _ hy)) (λc' h' => ?_) h
  by_cases hk:(k == .free)=true
  · rw [if_pos hk]at h'
    obtain⟨c0,hc0⟩:=hf (n,k) List.mem_cons_self (by simpa using hk);rw [List.lookup_cons]at h';cases hx:x == n with
    |true=>
     rw [hx]at h';have e:x=n:=eq_of_beq hx;subst e;have h'':(cells.lookup x).getD 0=c':=Option.some.inj h';have hc0':cells.lookup x=some c0:=hc0;rw [hc0']at h'' ⊢;exact congrArg some h''
    |false=>
     rw [hx]at h';exact ha c' h'
  · rw [if_neg hk]at h'
    exact ha c' h'
theorem JF{cells:List (Str×Addr)}{x:Str}:∀(names:List (Str×NameKind))(acc:List (Str×Addr)),((x,NameKind.free)∈names\/∃c,acc.lookup x=some c)->∃c,(YQ cells names acc).lookup x=some c
 | [],acc,h=>by
  rcases h with h|h
  · cases h
  · exact h
 |(n,k)::r,acc,h=>by
  unfold YQ;refine JF r _ ?_;rcases h with h|⟨c,h⟩
  · rcases List.mem_cons.mp h with e|e
    · cases e
      refine .inr ⟨(cells.lookup x).getD 0,?_⟩;rw [if_pos (by rfl),List.lookup_cons];simp
    · exact .inl e
  · refine .inr ?_
    by_cases hk:(k == .free)=true
    · rw [if_pos hk,List.lookup_cons]
      cases hx:x == n with
      |true=>exact⟨_,rfl⟩
      |false=>exact⟨c,h⟩
    · rw [if_neg hk]
      exact⟨c,h⟩
structure CompSc(X:Cx)(scope:Scope)(tn cn:List Str)(js:List Nat):Prop where
 kind:scope.kind = .function
 nocell:∀y∈scope.names,y.2 ≠ .cell
 names:∀y∈scope.names,y.2 = .local->scope.names.lookup y.1=some .local
 free:∀y∈scope.names,y.2 = .free->X.env.kindOf y.1=some .cell\/X.env.kindOf y.1=some .free
 cap:∀(k:Nat)(x:Str),cn[k]? = some x->∃j,js[k]? = some j/\X.N[j]? = some x/\(X.env.kindOf x=some .cell\/X.env.kindOf x=some .free)/\scope.names.lookup x=some .free
 len:cn.length=js.length
def Qq(onames:List (Str×NameKind))(oN:List Str)(names:List (Str×NameKind))(cn:List Str)(js:List Nat):Bool:=
 names.all (λy => !(y.2 == .cell))&&names.all (λy => !(y.2 == .local)||(names.lookup y.1 == some .local)) &&
 names.all (λy => !(y.2 == .free)||(onames.lookup y.1 == some .cell||onames.lookup y.1 == some .free)) &&
 ((cn.zip js).all λp=>oN[p.2]? == some p.1&&(onames.lookup p.1 == some .cell||onames.lookup p.1 == some .free)&&names.lookup p.1 == some .free)&&(cn.length == js.length)
theorem CompSc.mk'{X:Cx}{scope:Scope}{tn cn:List Str}{js:List Nat}{osc:Scope}{oN:List Str}(hk:scope.kind = .function)(ho:X.env.scope=osc)(hN:X.N=oN)(h:Qq osc.names oN scope.names cn js=true):CompSc X scope tn cn js:=by
 unfold Qq at h;simp only [Bool.and_eq_true]at h;obtain⟨⟨⟨⟨h1,h2⟩,h3⟩,h4⟩,h5⟩:=h;rw [List.all_eq_true]at h1 h2 h3 h4;have hlen:cn.length=js.length:=by simpa using h5
 refine⟨hk,λy hy => ?_,λy hy e => ?_,λy hy e => ?_,λk x e => ?_,hlen⟩
 · have:=h1 y hy
   simpa using this
 · have:=h2 y hy
   simpa [e]using this
 · have:=h3 y hy
   unfold Env.kindOf;rw [ho];simpa [e]using this
 · have hkl:k<cn.length:=(List.getElem?_eq_some_iff.mp e).1
   have hkj:k<js.length:=by omega
   refine⟨js[k],by simp [hkj],?_⟩
   have hz:(x,js[k])∈cn.zip js:=by
    have e2:(cn.zip js)[k]? = some (x,js[k]):=by
     rw [List.getElem?_zip_eq_some];exact⟨e,by simp [hkj]⟩
    exact List.mem_of_getElem? e2
   have:=h4 _ hz;unfold Env.kindOf;rw [ho,hN];simp only [Bool.and_eq_true,Bool.or_eq_true,beq_iff_eq]at this;exact⟨this.1.1,this.1.2,this.2⟩
def UW(σ:St)(js:List Nat):St:=js.map λj=>(σ[j]?).getD none
def blk(n:Nat)(σ:St)(js:List Nat):St:=List.replicate n none++UW σ js
def Uz(X:Cx)(scope:Scope)(N':List Str)(C:Addr)(s₂:Shared)(H₂:Hp)(fp:List Addr)(xe:Value->Shared->Prop):Cx:=
 { X with N:=N',s₀:=s₂,H₀:=H₂,env:=compEnvC scope (YQ X.env.cells scope.names []) C X.env,outer:=X.stack,ex:=fp,fn:=λ_=>false,pn:=[],xe:=xe }
section
variable{X:Cx}{pins:List (Addr×Obj)}{σ:St}{H₂:Hp}{s₂:Shared}{scope:Scope}{tn cn:List Str}{js:List Nat}
theorem CompSc.clos(S:CompSc X scope tn cn js)(ok:X.Ok):∀y∈scope.names,y.2 = .free->∃c,X.env.cells.lookup y.1=some c:=λy hy e=>ok.has y.1 (S.free y hy e)
theorem JG{env:Env}:∀{names:List (Str×NameKind)}{x:Str}{k:NameKind},(names.map λ(n,k)=>if(k == NameKind.free&&env.scope.kind == .function&&env.kindOf n == some .cell)then(n,NameKind.cell)else(n,k)).lookup x=some k ->
 (k = .cell\/k = .free)->(∀y∈names,y.2 ≠ .cell)->(x,NameKind.free)∈names
 | [],_,_,h,_,_=>by simp at h
 |(n,k0)::r,x,k,h,hk,hc=>by
  have ih := @JG env r x k;have h:List.lookup x ((if(k0 == NameKind.free&&env.scope.kind == .function&&env.kindOf n == some .cell)=true then(n,NameKind.cell)else(n,k0))::_)=_:=h
  by_cases hb:(k0 == NameKind.free&&env.scope.kind == .function&&env.kindOf n == some .cell)=true
  · rw [if_pos hb,List.lookup_cons]at h
    have e0:k0 = .free:=by
     simp only [Bool.and_eq_true]at hb;simpa using hb.1.1
    cases hx:x == n with
    |true=>
     have e:x=n:=eq_of_beq hx;subst e;subst e0;exact List.mem_cons_self
    |false=>
     rw [hx]at h;exact List.mem_cons_of_mem _ (ih h hk λy hy=>hc y (List.mem_cons_of_mem _ hy))
  · rw [if_neg hb,List.lookup_cons]at h
    cases hx:x == n with
    |true=>
     rw [hx]at h;have e:x=n:=eq_of_beq hx;have e0:k0=k:=Option.some.inj h;subst e;subst e0;rcases hk with hk|hk
     · exact absurd hk (hc (x,k0) List.mem_cons_self)
     · subst hk
       exact List.mem_cons_self
    |false=>
     rw [hx]at h;exact List.mem_cons_of_mem _ (ih h hk λy hy=>hc y (List.mem_cons_of_mem _ hy))
theorem Zac{env:Env}:∀{names:List (Str×NameKind)}{x:Str},names.lookup x=some .free ->
 (names.map λ(n,k)=>if(k == NameKind.free&&env.scope.kind == .function&&env.kindOf n == some .cell)then(n,NameKind.cell)else(n,k)).lookup x=some .cell \/
 (names.map λ(n,k)=>if(k == NameKind.free&&env.scope.kind == .function&&env.kindOf n == some .cell)then(n,NameKind.cell)else(n,k)).lookup x=some .free
 | [],_,h=>by simp at h
 |(n,k0)::r,x,h=>by
  have ih := @Zac env r x
  show List.lookup x ((if(k0 == NameKind.free&&env.scope.kind == .function&&env.kindOf n == some .cell)=true then(n,NameKind.cell)else(n,k0))::_)=_ \/
   List.lookup x ((if(k0 == NameKind.free&&env.scope.kind == .function&&env.kindOf n == some .cell)=true then(n,NameKind.cell)else(n,k0))::_)=_
  cases hx:x == n with
  |true=>
   simp only [List.lookup_cons,hx]at h;cases h
   by_cases hb:(NameKind.free == NameKind.free&&env.scope.kind == .function&&env.kindOf n == some .cell)=true
   · rw [if_pos hb];simp [List.lookup_cons,hx]
   · rw [if_neg hb];simp [List.lookup_cons,hx]
  |false=>
   simp only [List.lookup_cons,hx]at h
   by_cases hb:(k0 == NameKind.free&&env.scope.kind == .function&&env.kindOf n == some .cell)=true
   · rw [if_pos hb];simp only [List.lookup_cons,hx];exact ih h
   · rw [if_neg hb];simp only [List.lookup_cons,hx];exact ih h
theorem ZeE{C:Addr}{fp:List Addr}{xe:Value->Shared->Prop}(S:CompSc X scope tn cn js)(I:Inv X pins σ H₂ s₂)(hC:s₂.heap.objs.size<=C)(hf:∀b∈fp,YW X pins H₂ b)(ho:∀b∈fp,∃o,s₂.heap.get? b=some o/\∀v,o.data ≠ .cell v) :
 (Uz X scope (tn++cn) C s₂ H₂ fp xe).Ok where
 mod:=I.ok.mod
 kind:=S.kind
 glob:=I.ok.glob
 blt:=I.ok.blt
 above:=hC
 inj:=λx y c h1 h2=>I.ok.inj x y c (Vc _ [] (S.clos I.ok) (λ_ z=>by cases z) h1) (Vc _ [] (S.clos I.ok) (λ_ z=>by cases z) h2)
 has:=λx hx=>by
  refine JF _ _ (.inl ?_);rcases hx with hx|hx
  · exact JG (env:=X.env) (k:=.cell) hx (Or.inl (Eq.refl NameKind.cell)) S.nocell
  · exact JG (env:=X.env) (k:=.free) hx (Or.inr (Eq.refl NameKind.free)) S.nocell
 cab:=λx c h _=>by cases h
 hd:=I.ok.hd
 frames:=I.ok.frames
 stk := .inl rfl
 exf:=λb hb=>by
  obtain⟨o,e,_⟩:=ho b hb;obtain⟨_,_,_,_,f4,_⟩:=hf b hb;exact⟨Nat.ne_of_lt (Nat.lt_of_lt_of_le (Heap.lt_size e) hC),λx c h=>f4 x c (Vc _ [] (S.clos I.ok) (λ_ z=>by cases z) h)⟩
 bs:=I.bs
 bsz:=Nat.le_trans I.ok.bsz I.sz
 noex:=λb o e hb=>by
  obtain⟨_,_,_,f3,_,_⟩:=hf b hb;rcases f3 with z|z
  · exact I.ok.noex b o e z
  · exact absurd (Nat.lt_of_lt_of_le (Heap.lt_size (I.ok.bs b o e).1) z) (Nat.lt_irrefl _)
 exfs:=λb hb z=>by
  obtain⟨_,f1,f2,_,_,_⟩:=hf b hb;exact(List.mem_cons.mp (I.stkSub b z)).elim f1 f2
 funs:=I.stack
 frf:=I.stkFree
theorem ZaU {C:Addr} {fp:List Addr} {s:Shared} {H:Hp} {m:Str->Option Value} (S:CompSc X scope tn cn js) (I:Inv X pins σ H₂ s₂) (hf:∀b∈fp,YW X pins H₂ b)
 (u:Un (frs X.stack) fp H₂ H s₂.heap s.heap) :
 ∀(i:Nat)(x:Str)(v:V),(tn++cn)[i]? = some x->(blk tn.length σ js)[i]? = some (some v)->∃z,RelV v z/\ZhH (compEnvC scope (YQ X.env.cells scope.names []) C X.env) s.heap m x z:=by
 intro i x v e1 e2;unfold blk at e2
 by_cases hi:i<tn.length
 · rw [List.getElem?_append_left (by simpa using hi),List.getElem?_replicate,if_pos hi]at e2
   cases e2
 · have hi':tn.length<=i:=by omega
   rw [List.getElem?_append_right hi']at e1;rw [List.getElem?_append_right (by simpa using hi'),List.length_replicate]at e2;obtain⟨j,hj,hN,hk,hm⟩:=S.cap _ _ e1;unfold UW at e2;rw [List.getElem?_map,hj]at e2;have e3:(σ[j]?).getD none=some v:=Option.some.inj e2
   have e4:σ[j]? = some (some v):=by
    cases q:σ[j]? with
    |none=>rw [q]at e3;cases e3
    |some z=>rw [q]at e3;exact congrArg some e3
   obtain⟨m0,_,hl⟩:=I.loc
   have hv:Vis X.env.scope x:=by
    rcases hk with hk|hk
    · exact .inr (.inl hk)
    · exact .inr (.inr hk)
   obtain⟨z,rz,l⟩:=hl j x v hN e4 hv;refine⟨z,rz,?_⟩
   obtain⟨c,hc,ob,ho,hd⟩:∃c,X.env.cells.lookup x=some c/\s₂.heap.IsCell c (some z):=by
    rcases l with⟨k,_⟩|⟨_,c,hc,q⟩
    · rcases hk with hk|hk
      · rw [hk]at k;cases k
      · rw [hk]at k;cases k
    · exact⟨c,hc,q⟩
   obtain⟨c',hc'⟩:=JF (cells:=X.env.cells) (x:=x) scope.names [] (.inl (PySem.mem_of_lookup hm))
   have ec:c'=c:=by
    have:=Vc _ [] (S.clos I.ok) (λ_ z=>by cases z) hc';rw [hc]at this;exact(Option.some.inj this).symm
   subst ec;have nf:c'∉fp:=λhb=>(hf c' hb).2.2.2.2.1 x c' hc rfl
   obtain⟨sl,q⟩:=u.any ho (I.freeC x c' hc) nf;exact .inr ⟨Zac hm,c',hc',⟨_,q,hd⟩⟩
theorem blk_len(S:CompSc X scope tn cn js):(blk tn.length σ js).length=(tn++cn).length:=by
 unfold blk UW;rw [List.length_append,List.length_append,List.length_replicate,List.length_map,S.len]
theorem Zb1 {C:Addr} {fp:List Addr} {xe:Value->Shared->Prop} {s:Shared} {H:Hp} {σ':St} {pins':List (Addr×Obj)} (S:CompSc X scope tn cn js) (I:Inv X pins σ H₂ s₂) (hf:∀b∈fp,YW X pins H₂ b)
 (I':Inv (Uz X scope (tn++cn) C s₂ H₂ fp xe) pins' σ' H s):Inv (Uz X scope (tn++cn) C s₂ H₂ fp xe) pins' (blk tn.length σ js) H s:=by
 obtain⟨m,hn,_⟩:=id I'.loc;exact⟨I'.ok,I'.os,I'.bare,I'.base,⟨m,hn,λi x v e1 e2 _=>ZaU S I hf I'.base i x v e1 e2⟩,I'.cell,I'.free,I'.freeC,I'.pin,I'.hok,blk_len S⟩
theorem Zb2 {C D:Addr} {fp:List Addr} {xe:Value->Shared->Prop} {h:Heap} {tk:Nat} {ob:Obj} {m:Str->Option Value} (S:CompSc X scope tn cn js) (I:Inv X pins σ H₂ s₂) (hC:s₂.heap.objs.size<=C) (hD:s₂.heap.objs.size<=D) (hDC:D≠C)
 (hf:∀b∈fp,YW X pins H₂ b) (ho:∀b∈fp,∃o,s₂.heap.get? b=some o/\∀v,o.data ≠ .cell v) (k:∀b o,s₂.heap.get? b=some o->h.get? b=some o) (hn:h.Ns C m) (hob:h.get? D=some ob) (hcell:∀v,ob.data ≠ .cell v) :
 Inv (Uz X scope (tn++cn) C s₂ H₂ fp xe) [(D,ob)] (blk tn.length σ js) H₂ { s₂ with heap:=h,toks:=tk }:=by
 have ok:=ZeE (xe:=xe) S I hC hf ho;have u:Un (frs X.stack) fp H₂ H₂ s₂.heap h:=Un.kept k;refine⟨ok,rfl,I.bare,u,⟨m,hn,λi x v e1 e2 _=>ZaU (s:={ s₂ with heap:=h,toks:=tk }) S I hf u i x v e1 e2⟩,λx c e => ?_,I.hok.fresh hC,λx c e => ?_,λp hp => ?_,I.hok.kept k,blk_len S⟩
 · obtain⟨v,o,q,d⟩:=I.cell x c (Vc _ [] (S.clos I.ok) (λ_ z=>by cases z) e)
   exact⟨v,o,k c o q,d⟩
 · exact I.freeC x c (Vc _ [] (S.clos I.ok) (λ_ z=>by cases z) e)
 · have e : p = (D, ob) := by
    have:p∈([]:List (Addr×Obj))++[(D,ob)]:=hp;simpa using this
   subst e;refine⟨hob,I.hok.fresh hD,hDC,λz => ?_,hcell⟩;have z:D∈frs X.stack:=z;rcases List.mem_cons.mp (I.stkSub D z)with e|e
   · exact absurd (Nat.lt_of_lt_of_le I.lt (by rw [<-e];exact hD)) (Nat.lt_irrefl _)
   · exact I.nofs hD e
theorem Zbu {C D:Addr} {fp:List Addr} {xe:Value->Shared->Prop} {s:Shared} {H:Hp} {σ':St} {ys:List V} {its:List Value} {n:Nat} {h':Heap} (S:CompSc X scope tn cn js) (I:Inv X pins σ H₂ s₂) (hC:s₂.heap.objs.size<=C) (hD:s₂.heap.objs.size<=D) (hDC:D≠C)
 (hf:∀b∈fp,YW X pins H₂ b) (I':Inv (Uz X scope (tn++cn) C s₂ H₂ fp xe) [(D,{ cls := .type "list",data := .seq its.toArray n })] σ' H s) (hv:Vals ys its) (hz:ys.length<=sizeLine) (hs:Heap.SameBut C s.heap h') :
 Inv X pins σ (upd H D (.lst ys)) { s with heap:=h' }:=by
 have pd:=I'.pin (D,{ cls := .type "list",data := .seq its.toArray n }) (List.mem_append_right _ List.mem_cons_self);have pd1:s.heap.get? D=some { cls := .type "list",data := .seq its.toArray n }:=pd.1;have pd2:H D=none:=pd.2.1;have hD':h'.get? D=some { cls := .type "list",data := .seq its.toArray n }:=(hs.2 D hDC).trans pd1;have hCf:H C=none:=I'.free;have old:∀b o,s₂.heap.get? b=some o->b≠C/\b≠D:=λb o e=>⟨Nat.ne_of_lt (Nat.lt_of_lt_of_le (Heap.lt_size e) hC),Nat.ne_of_lt (Nat.lt_of_lt_of_le (Heap.lt_size e) hD)⟩
 have u:=I'.base;have u:Un (frs X.stack) fp H₂ H s₂.heap s.heap:=u;refine I.call' (s':={ s with heap:=h' }) (ch:=fp) (H':=upd H D (.lst ys)) I'.os ⟨λb o e n hb hx => ?_,λb o e n hb hx => ?_,λb o e n hx => ?_,λb o e hx => ?_,λb xs e => ?_,λb o xs e => ?_,λb ps e => ?_⟩ (λb o e => ?_) I'.bare (λb hb => ?_)
 · exact(hs.2 b (old b o e).1).trans (u.keep b o e n hb hx)
 · obtain⟨sl,q⟩:=u.slot b o e n hb hx
   exact⟨sl,(hs.2 b (old b o e).1).trans q⟩
 · rw [ZF (old b o e).2]
   exact u.free b o e n hx
 · obtain⟨o',q⟩:=u.there b o e hx
   exact⟨o',(hs.2 b (old b o e).1).trans q⟩
 · have q:=u.tups b xs e
   rw [ZF (YN q pd2)];exact q
 · have q:=u.frzs b o xs e
   rw [ZF (YN q pd2)];exact q
 · obtain⟨more,q⟩:=u.tbls b ps e
   exact⟨more,by rw [ZF (YN q pd2)];exact q⟩
 · by_cases hb:b=D
   · subst hb
     rw [ZS]at e;cases e;exact⟨hz,its,n,hv,hD'⟩
   · rw [ZF hb]at e
     refine(I'.hok b o e).stay (λc v hc q=>(hs.2 c ?_).trans q) (λc q=>by rw [ZF (YN q pd2)];exact q) λc xs q=>by rw [ZF (YN q pd2)];exact q
     rintro rfl
     rcases hc with rfl|hc
     · rw [hCf]at e;cases e
     · rw [hCf]at hc;cases hc
 · obtain⟨f0,f1,f2,f3,f4,f5⟩:=hf b hb
   exact⟨f3,f1,f4,f5⟩
end
def PTs(X:Cx)(ifs:List Expr)(t:TT):Prop:=
 ∀(pins:List (Addr×Obj))(s:Shared)(σ:St)(H:Hp)(Q:Bool->Hp->Prop),Inv X pins σ H s->t σ H Q ->
  wpAny (model X.prog X.w) X.A (forIn ifs true λc r=>if r=true then do let ok <-isTrue c X.env (eval c X.env);pure (ForInStep.yield ok)else pure (ForInStep.yield r)) (TP X pins σ Q) X.xe s
def tYes:TT:=λ_ H Q=>Q true H
theorem XN{X:Cx}:PTs X [] tYes:=λ_ _ _ H _ I h=>wpAny_tests_nil ⟨H,I,h⟩
def Qr(wi:TI)(g:TG)(tt:TT)(te:TE)(n:Nat)(js:List Nat):TE:=λσ H Q=>wi σ H λJ H1=>
 ∃W:Nat->Nat->List V->Hp->Prop,(∃m,W 0 m [] H1)/\∀i m ys H,W i m ys H ->
  (J.stop i H/\∀p,H p=none->Q (.ref p) (upd H p (.lst ys))) \/
  (J.go i H/\∀x H',J.yld i H x H'->g x (blk n σ js) H' λσ2 H2=>tt σ2 H2 λb H3=>
    if b=true then te σ2 H3 λy H4=>ys.length<sizeLine/\∃m',m'<m/\W (i+1) m' (ys++[y]) H4 else ∃m',m'<m/\W (i+1) m' ys H3)
section
variable{X:Cx}{tg iter elt:Expr}{ifs:List Expr}{scope:Scope}{pos:Pos}{wi:TI}{g:TG}{tt:TT}{te:TE}{tn cn:List Str}{js:List Nat}
abbrev Xq(X:Cx)(scope:Scope)(N':List Str)(C:Addr)(s₂:Shared)(H₂:Hp)(fp:List Addr):Cx:=Uz X scope N' C s₂ H₂ fp λ_ _=>False
theorem UA{α:Type}{M:Model}{A:Around}{m:Sem α}{Q:α->Shared->Prop}{E:Value->Shared->Prop}{s:Shared}(h:wpAny M A m Q (λ_ _=>False) s):wpAny M A m Q E s:=wpAny_mono h (λ_ _ q=>q) λ_ _ z=>z.elim
theorem Zat {pins:List (Addr×Obj)} {σ:St} {H₂:Hp} {s₂:Shared} {it:Addr} {fp:List Addr} {tnx:Nat->Heap->Prop} {J:It} {E:Value->Shared->Prop} {RR:Value->Addr->Result->Shared->Prop} {W:Nat->Nat->List V->Hp->Prop} {m0:Nat}
 (hc:X.calm=true) (S:CompSc X scope tn cn js)
 (hg:∀C s₂ H₂ fp,PG (Xq X scope (tn++cn) C s₂ H₂ fp) tg g) (ht:∀C s₂ H₂ fp,PTs (Xq X scope (tn++cn) C s₂ H₂ fp) ifs tt) (he:∀C s₂ H₂ fp,PE (Xq X scope (tn++cn) C s₂ H₂ fp) elt te)
 (I2:Inv X pins σ H₂ s₂) (T:Turn X.prog X.w X.K tg J fp it tnx) (st2:tnx 0 s₂.heap) (f2:∀b∈fp,YW X pins H₂ b) (w0:W 0 m0 [] H₂)
 (turn:∀i m ys H,W i m ys H->(J.stop i H/\∀C D s its n σ',s₂.heap.objs.size<=C->s₂.heap.objs.size<=D->D≠C->Vals ys its->ys.length<=sizeLine ->
   Inv (Xq X scope (tn++cn) C s₂ H₂ fp) [(D,{ cls := .type "list",data := .seq its.toArray n })] σ' H s->RR (.ref D) C (.ok .next) s) \/
   (J.go i H/\∀x H',J.yld i H x H'->g x (blk tn.length σ js) H' λσ2 H2=>tt σ2 H2 λb H3=>
     if b=true then te σ2 H3 λy H4=>ys.length<sizeLine/\∃m',m'<m/\W (i+1) m' (ys++[y]) H4 else ∃m',m'<m/\W (i+1) m' ys H3)) :
 wpAny (model X.prog X.w) X.A (newList []) (λacc s₃=>wpAny (model X.prog X.w) X.A (newFunctionEnv scope X.env.globals (YQ X.env.cells scope.names []) [] X.env.qual none .none (some X.env)) (λcenv s₄=>
  codeAny (model X.prog X.w) X.A (.compStart (.ListComp elt [⟨tg,iter,ifs,0⟩] scope pos) 0 (.ref it) acc { cenv with scope:=relabel scope X.env }) (RR acc cenv.locals) s₄) E s₃) E s₂:=by
 refine wpAny_newObj_type (wpAny_newFunctionEnv S.nocell (by intro y hy;simp at hy) (λh₁ hns₁ hsb₁ => ?_) S.kind);dsimp only at hns₁ hsb₁ ⊢;generalize hH2:s₂.heap.push { cls := .type "list",dict:=none,data := .seq ([]:List Value).toArray }=HH at hns₁ hsb₁ ⊢;have hCs:HH.objs.size=s₂.heap.objs.size+1:=by rw [<-hH2,Heap.size_push]
 have hDC:s₂.heap.objs.size≠HH.objs.size:=by rw [hCs];exact Nat.ne_of_lt (Nat.lt_succ_self _)
 have hC:s₂.heap.objs.size<=HH.objs.size:=by rw [hCs];exact Nat.le_succ _
 have hD:s₂.heap.objs.size<=s₂.heap.objs.size:=Nat.le_refl _;have old:∀b o,s₂.heap.get? b=some o->h₁.get? b=some o:=λb o e=>hsb₁.extBut b o (by rw [hCs];exact Nat.ne_of_lt (Nat.lt_succ_of_lt (Heap.lt_size e))) (Heap.get?_push_of_some _ (hH2▸Heap.get?_push_of_some _ e))
 have hacc:h₁.get? s₂.heap.objs.size=some { cls := .type "list",dict:=none,data := .seq ([]:List Value).toArray }:=hsb₁.extBut _ _ hDC (Heap.get?_push_of_some _ (hH2▸Heap.get?_push_size _ rfl));have hob:=T.obj _ _ st2
 have I3:Inv (Xq X scope (tn++cn) HH.objs.size s₂ H₂ fp) [(s₂.heap.objs.size,{ cls := .type "list",dict:=none,data := .seq ([]:List Value).toArray })] (blk tn.length σ js) H₂ { s₂ with heap:=h₁,toks:=s₂.toks+([]:List (Str×Value)).length }:=
  Zb2 S I2 hC hD hDC f2 hob old hns₁ hacc (λv z=>by cases z)
 have st3:tnx 0 h₁:=T.keep _ _ _ st2 λb hb o e=>old b o e
 generalize hX':Xq X scope (tn++cn) HH.objs.size s₂ H₂ fp=X' at I3;generalize hs3:({ s₂ with heap:=h₁,toks:=s₂.toks+([]:List (Str×Value)).length }:Shared)=s3 at I3 ⊢;have st3':tnx 0 s3.heap:=by rw [<-hs3];exact st3
 have stat:∀{pins':List (Addr×Obj)}{H':Hp},(∀b∈fp,H' b=none)->(∀p∈pins',p.1=s₂.heap.objs.size)->∀b∈fp,YW X' pins' H' b:=λ{pins' H'} hn hp b hb=>by
  subst hX';obtain⟨o,e,_⟩:=hob b hb;obtain⟨f0,f1,f2',f3,f4,f5⟩:=f2 b hb;refine⟨hn b hb,Nat.ne_of_lt (Nat.lt_of_lt_of_le (Heap.lt_size e) hC),λz=>(List.mem_cons.mp (I2.stkSub b z)).elim f1 f2',.inl hb,λx c h=>f4 x c (Vc _ [] (S.clos I2.ok) (λ_ z=>by cases z) h),λp hpp => ?_⟩
  have:p∈pins':=by
   have q:p∈([]:List (Addr×Obj))++pins':=hpp;simpa using q
  rw [hp p this];exact Nat.ne_of_gt (Heap.lt_size e)
 have loop:codeAny (model X.prog X.w) X.A (.compLoop (.ListComp elt [⟨tg,iter,ifs,0⟩] scope pos) 0 (.ref it) (.ref s₂.heap.objs.size) X'.env) (RR (.ref s₂.heap.objs.size) HH.objs.size) s3:=by
  refine Zba (λk s'=>∃i ys its n H',Inv X' [(s₂.heap.objs.size,{ cls := .type "list",data := .seq its n })] (blk tn.length σ js) H' s'/\Vals ys its.toList/\ys.length<=sizeLine/\tnx i s'.heap/\(∀b∈fp,H' b=none)/\W i k ys H') ?_ m0
   ⟨0,[],#[],0,H₂,I3,.nil,Nat.zero_le _,st3',λb hb=>(f2 b hb).1,w0⟩
  rintro k s4 ⟨i,ys,its,n,H4,I4,hv4,hz4,st4,fr4,w4⟩
  have eP:X'.prog=X.prog:=by rw [<-hX'];rfl
  have eW:X'.w=X.w:=by rw [<-hX'];rfl
  have eK:X'.K=X.K:=by rw [<-hX'];rfl
  have eA:X'.A=X.A:=by rw [<-hX'];rfl
  have eC:X'.calm=true:=by rw [<-hX'];exact hc
  have eE:X'.xe=λ_ _=>False:=by rw [<-hX'];rfl
  rcases turn i k ys H4 w4 with⟨stop,qn⟩|⟨go,step⟩
  · have z:=T.done X' eP eW eK eC i _ s4 (blk tn.length σ js) H4 (λ_ _=>False) I4 (stat fr4 (λp hp=>by simp at hp;rw [hp])) st4 stop
    rw [eA]at z;refine UA (thn z λr s5 ⟨hr,I5⟩ => ?_);subst hr;subst hX';exact qn _ _ s5 its.toList n _ hC hD hDC hv4 hz4 (by simpa using I5)
  · have z:=T.item X' eP eW eK eC i _ s4 (blk tn.length σ js) H4 (λ_ _=>False) I4 (stat fr4 (λp hp=>by simp at hp;rw [hp])) st4 go
    rw [eA]at z;refine UA (thn z λr s5 ⟨u,hr,h5⟩ => ?_);subst hr;refine UA (thn h5 λ_ s6 ⟨x,H6,I6,r6,y6,st6,fr6⟩ => ?_);have I6':=I6.pinned (stat fr6 (λp hp=>by simp at hp;rw [hp])) (T.obj _ _ st6);have hg':PG X' tg g:=by rw [<-hX'];exact hg _ _ _ _
    have ht':PTs X' ifs tt:=by rw [<-hX'];exact ht _ _ _ _
    have he':PE X' elt te:=by rw [<-hX'];exact he _ _ _ _
    have z7:=hg' _ s6 _ H6 x u _ I6' r6 (step x H6 y6);rw [eP,eW,eA,eE]at z7;refine UA (thn z7 λ_ s7 ⟨σ7,H7,I7,q7⟩ => ?_);have z8:=ht' _ s7 σ7 H7 _ I7 q7;rw [eP,eW,eA,eE]at z8;refine UA (thn z8 λok s8 ⟨H8,I8,q8⟩ => ?_)
    have key:∀{σ9:St}{H9:Hp}{s9:Shared}{its':Array Value}{n':Nat},Inv X' ([(s₂.heap.objs.size,{ cls := .type "list",data := .seq its' n' })]++XH fp s6.heap) σ9 H9 s9 ->
     Inv X' [(s₂.heap.objs.size,{ cls := .type "list",data := .seq its' n' })] (blk tn.length σ js) H9 s9/\tnx (i+1) s9.heap/\∀b∈fp,H9 b=none:=λ{σ9 H9 s9 its' n'} I9=>by
     refine⟨?_,T.keep _ _ _ st6 λb hb o e=>(I9.pin (b,o) (List.mem_append_right _ (List.mem_append_right _ (Qk hb e)))).1,λb hb => ?_⟩
     · have I9':=I9.unpinned
       subst hX';exact Zb1 S I2 f2 I9'
     · obtain⟨o,e,d⟩:=T.obj _ _ st6 b hb
       exact(I9.pin (b,o) (List.mem_append_right _ (List.mem_append_right _ (Qk hb e)))).2.1
    cases ok with
    |false=>
     rw [if_neg Bool.false_ne_true]at q8 ⊢;obtain⟨m',hm,w8⟩:=q8;obtain⟨I9,st9,fr9⟩:=key I8;exact⟨m',hm,i+1,ys,its,n,H8,I9,hv4,hz4,st9,fr9,w8⟩
    |true=>
     rw [if_pos rfl]at q8 ⊢;have z9:=he' _ s8 σ7 H8 _ I8 q8;rw [eP,eW,eA,eE]at z9;refine UA (thn z9 λv s9 ⟨y,H9,I9,r9,hl9,m',hm,w9⟩ => ?_);have pd:=I9.pin (s₂.heap.objs.size,{ cls := .type "list",data := .seq its n }) (List.mem_append_right _ (List.mem_append_left _ List.mem_cons_self));have hpl:s9.heap.PlainList s₂.heap.objs.size its:=⟨n,pd.1⟩
     have hlen:its.size=ys.length:=by rw [hv4.length];simp
     refine wpAny_list_append_plain (hsz:=by omega) hpl λh10 hl10 hs10 => ?_
     obtain⟨n10,e10⟩:=hl10;have I10:Inv X' (XH fp s6.heap) σ7 H9 s9:=I9.pins_of λp hp=>I9.pin p (List.mem_append_right _ (List.mem_append_right _ hp))
     have nD:∀b∈fp,b≠s₂.heap.objs.size:=λb hb=>by
      obtain⟨o,e,_⟩:=hob b hb;exact Nat.ne_of_lt (Heap.lt_size e)
     have I11:Inv X' (XH fp s6.heap) σ7 H9 { s9 with heap:=h10 }:=by
      refine I10.turned (t':=s9.toks) (it:=s₂.heap.objs.size) (λb o hb e=>(hs10.2 b hb).trans e) pd.2.1 pd.2.2.1 ?_ ?_ ?_
      · subst hX';exact .inr (Nat.le_refl _)
      · subst hX'
        intro x c h;obtain⟨v',o',q,_⟩:=I2.cell x c (Vc _ [] (S.clos I2.ok) (λ_ z=>by cases z) h);exact Nat.ne_of_lt (Heap.lt_size q)
      · intro p hp
        have hp':p∈XH fp s6.heap:=by
         subst hX';have q:p∈([]:List (Addr×Obj))++XH fp s6.heap:=hp;simpa using q
        exact nD _ (ZaN hp').1
     have I12:Inv X' ([(s₂.heap.objs.size,{ cls := .type "list",data := .seq (its.push v) n10 })]++XH fp s6.heap) σ7 H9 { s9 with heap:=h10 }:=I11.pins_of λp hp=>by
      rcases List.mem_append.mp hp with q|q
      · have e:p=(s₂.heap.objs.size,{ cls := .type "list",data := .seq (its.push v) n10 }):=by simpa using q
        subst e;exact⟨e10,pd.2.1,pd.2.2.1,pd.2.2.2.1,λv z=>by cases z⟩
      · exact I11.pin p (List.mem_append_right _ q)
     obtain⟨J1,J2,J3⟩:=key I12;refine⟨m',hm,i+1,ys++[y],its.push v,n10,H9,J1,?_,?_,J2,J3,w9⟩
     · have:(its.push v).toList=its.toList++[v]:=by simp
       rw [this];exact hv4.append (.cons r9 .nil)
     · rw [List.length_append,List.length_singleton]
       omega
 have eEnv:({ newEnv scope HH.objs.size X.env.globals (YQ X.env.cells scope.names []) X.env.qual none .none (some X.env) builtinsNs with scope:=relabel scope X.env }:Env)=X'.env:=by rw [<-hX'];rfl
 have loop2:=loop;rw [<-eEnv]at loop loop2;exact codeAny_compStart_list loop (T.self X.A 0 s3 _ _ st3' loop2)
theorem VD (hc:X.calm=true) (S:CompSc X scope tn cn js) (hi:PI X tg iter wi)
 (hg:∀C s₂ H₂ fp,PG (Xq X scope (tn++cn) C s₂ H₂ fp) tg g) (ht:∀C s₂ H₂ fp,PTs (Xq X scope (tn++cn) C s₂ H₂ fp) ifs tt) (he:∀C s₂ H₂ fp,PE (Xq X scope (tn++cn) C s₂ H₂ fp) elt te)
 (hs:∀x,foldedSetIterable iter X.env x=pure x:=by intro _;rfl) :
 PE X (.ListComp elt [⟨tg,iter,ifs,0⟩] scope pos) (Qr wi g tt te tn.length js):=by
 intro pins s σ H Q I h;rw [eval_ListComp];refine wpAny_comprehension_free (use:=none) (cl:=YQ X.env.cells scope.names []) rfl hs (Zab (S.clos I.ok)) S.kind S.names (thn (hi pins s σ H _ I h) λv s1 h1=>thn h1 λitv s2 h2 => ?_);obtain⟨it,fp,tnx,J,H2,e,I2,T,st2,f2,W,⟨m0,w0⟩,turn⟩:=h2;subst e;refine Zat (RR:=λacc C=>compPost (model X.prog X.w) X.A X.xe none (EP X pins σ Q) acc C) (W:=W) (m0:=m0) hc S hg ht he I2 T st2 f2 w0 λi m ys H w => ?_
 rcases turn i m ys H w with⟨stop,qn⟩|r
 · refine .inl ⟨stop,λC D s its n σ' hC hD hDC hv hz I' => ?_⟩
   obtain⟨m',hn,_⟩:=id I'.loc;refine⟨m',hn,λh' hs' => ?_⟩;have pd:=I'.pin (D,{ cls := .type "list",data := .seq its.toArray n }) (List.mem_append_right _ List.mem_cons_self);exact⟨.ref D,_,Zbu S I2 hC hD hDC f2 I' hv hz hs',rfl,qn D pd.2.1⟩
 · exact .inr r
end
end L2
namespace L2
open PySem PySem.Spec PyProof.Rows
abbrev S(cs:List Nat):V := .str (tx cs)
theorem ZgH{a b:List Nat}:S a=S b ↔ a=b:=by
 constructor
 · intro h
   exact tx_inj.mp (V.str.inj h)
 · rintro rfl;rfl
section
variable{X:Cx}{pos:Pos}
theorem ZV{x:Str}{j:Nat}(cs:List Nat)(h:x=tx cs):PE X (.Constant (.str x) j pos) (tC (S cs)):=by
 subst h;exact ZfX
def Its(cs:List Nat):It:=⟨λi _=>i<cs.length,λi H v H'=>H'=H/\∃c,cs[i]? = some c/\v=S [c],λi _=>cs.length<=i⟩
theorem Qs(x:Str):strIterType x = "str_ascii_iterator" \/ strIterType x = "str_iterator" := by
 unfold strIterType
 split
 · exact .inl rfl
 · exact .inr rfl
theorem ZdA{P:Program}{w:World}{K:PySem.W.Frag}{tg:Expr}(it:Addr)(cs:List Nat)(t:Tok):Turn P w K tg (Its cs) [it] it (λi h=>h.IsStrIter it (strIterType (tx cs)) (tx cs) t i) where
 mem:=by simp
 obj:=λi h st b hb=>by
  have e:b=it:=by simpa using hb
  subst e;obtain⟨o,e,c,d⟩:=st;exact⟨o,e,λv z=>by rw [d]at z;cases z⟩
 keep:=λi h h' st k=>by
  obtain⟨o,e,r⟩:=st;exact⟨o,k it (by simp) o e,r⟩
 item:=by
  intro X hP hw hK hc i pins s σ H E I hf st hg;subst hP hw hK;obtain⟨f0,f1,f2,f3,f4,f5⟩:=hf it (by simp);have hg:i<cs.length:=hg;have hx:(tx cs).cps[i]? = some cs[i]:=by simp [tx,hg]
  have fin:∀(h':Heap),h'.IsStrIter it (strIterType (tx cs)) (tx cs) t (i+1)->Heap.SameBut it s.heap h' ->
   ∃u,some (Value.str ⟨#[cs[i]]⟩ s.toks)=some u/\wpAny (model X.prog X.w) X.A (letOwnedTupleGo tg (.ref it) u) (λ_ s2=>∃x H',Inv X pins σ H' s2/\RelV x u/\(Its cs).yld i H x H'/\s2.heap.IsStrIter it (strIterType (tx cs)) (tx cs) t (i+1)/\∀b∈[it],H' b=none) E { s with heap:=h',toks:=s.toks+1 }:=λh' st' sb=>by
   have I1:Inv X pins σ H { s with heap:=h',toks:=s.toks+1 }:=I.turned (λb o hb e=>(sb.2 b hb).trans e) f0 f1 f3 f4 f5;obtain⟨o,e,hc',d⟩:=id st';refine⟨_,rfl,Qj (s:={ s with heap:=h',toks:=s.toks+1 }) e hc' d ?_ ⟨S [cs[i]],H,I1,⟨s.toks,rfl⟩,⟨rfl,cs[i],by simp [hg],rfl⟩,st',λb hb=>(hf b hb).1⟩⟩;rcases Qs (tx cs)with z|z<;>rw [z]<;>decide
  rcases Qs (tx cs)with z|z
  · rw [z]at st
    refine wpAny_pyNext_ascii_item st hx λh' st' sb=>fin h' (by rw [z];exact st') sb
  · rw [z]at st
    refine wpAny_pyNext_wide_item st hx λh' st' sb=>fin h' (by rw [z];exact st') sb
 done:=by
  intro X hP hw hK hc i pins s σ H E I hf st hg;subst hP hw hK;obtain⟨f0,f1,f2,f3,f4,f5⟩:=hf it (by simp);have hg:cs.length<=i:=hg;have hx:(tx cs).cps[i]? = none:=by simp [tx];omega
  rcases Qs (tx cs)with z|z
  · rw [z]at st
    exact wpAny_pyNext_ascii_end (I.ok.hd hc) st hx λh' eb=>⟨rfl,I.turned (t':=s.toks) (λb o hb e=>eb b o hb e) f0 f1 f3 f4 f5⟩
  · rw [z]at st
    exact wpAny_pyNext_wide_end (I.ok.hd hc) st hx λh' eb=>⟨rfl,I.turned (t':=s.toks) (λb o hb e=>eb b o hb e) f0 f1 f3 f4 f5⟩
 self:=λ_ i _ _ _ st h=>by
  rcases Qs (tx cs)with z|z
  · rw [z]at st
    exact wpAny_pyIter_striter_ascii st h
  · rw [z]at st
    exact wpAny_pyIter_striter_wide st h
variable{tg:Expr}
def JH(K:PySem.W.Frag)(tl:TE):TI:=λσ H R=>tl σ H λx H1=>(∃a xs,x = .ref a/\SqL K H1 a xs/\R (Itl K a) H1)\/(∃a xs,x = .ref a/\SqT K H1 a xs/\R (Itt K a) H1)\/∃cs,x=S cs/\R (Its cs) H1
theorem Zf6{l:Expr}{tl:TE}(hl:PE X l tl):PI X tg l (JH X.K tl):=by
 intro pins s σ H R I h;refine thn (hl pins s σ H _ I h) λv s1 ⟨x,H1,I1,r1,q1⟩ => ?_
 rcases q1 with⟨a,xs,e,hq,q⟩|⟨a,xs,e,hq,q⟩|⟨cs,e,q⟩
 · subst e
   cases r1;obtain⟨its,rv,p,hz⟩:=I1.list hq;refine wpAny_pyIter_list p.isList ?_;refine⟨s1.heap.objs.size,[s1.heap.objs.size],_,_,H1,rfl,I1.kept (t':=s1.toks) λb o e=>Heap.get?_push_of_some _ e,ZcW a _,⟨_,Heap.get?_push_size _ rfl,rfl,rfl⟩,λb hb => ?_,q⟩;have e:b=s1.heap.objs.size:=by simpa using hb
   subst e;exact I1.fpOk (Nat.le_refl _) (I1.hok.fresh (Nat.le_refl _))
 · have hpi:=Zf0 (X:=X) (tg:=tg) (l:=l) (tl:=λ_ H Q=>Q (.ref a) H)
   subst e;cases r1;obtain⟨its,rv,p,hz⟩:=I1.tuple hq;refine wpAny_pyIter_tuple (show s1.heap.IsTuple a its.toArray from p) ?_;refine⟨s1.heap.objs.size,[s1.heap.objs.size],_,_,H1,rfl,I1.kept (t':=s1.toks) λb o e=>Heap.get?_push_of_some _ e,Zar a _,⟨_,Heap.get?_push_size _ rfl,rfl,rfl⟩,λb hb => ?_,q⟩;have e:b=s1.heap.objs.size:=by simpa using hb
   subst e;exact I1.fpOk (Nat.le_refl _) (I1.hok.fresh (Nat.le_refl _))
 · subst e
   obtain⟨t,rfl⟩:=r1;refine wpAny_pyIter_strU ?_;refine⟨s1.heap.objs.size,[s1.heap.objs.size],_,_,H1,rfl,I1.kept (t':=s1.toks) λb o e=>Heap.get?_push_of_some _ e,ZdA _ cs t,⟨_,Heap.get?_push_size _ rfl,rfl,rfl⟩,λb hb => ?_,q⟩;have e:b=s1.heap.objs.size:=by simpa using hb
   subst e;exact I1.fpOk (Nat.le_refl _) (I1.hok.fresh (Nat.le_refl _))
def rAddS:R2:=λx y H Q=>∃a b,x=S a/\y=S b/\a.length+b.length<=sizeLine/\Q (S (a++b)) H
theorem op_addS:OpR X (binaryOp .Add) rAddS:=by
 intro pins s σ H x y v u Q I rx ry h;obtain⟨a,b,rfl,rfl,hz,q⟩:=h;refine ZbS pins s σ H _ _ v u Q I rx ry ⟨tx a,tx b,rfl,rfl,by rw [Yh,Yh];exact hz,?_⟩;rw [Jz];exact q
def ZgI:R2:=λx y H Q=>rI0 (λi j => .int (i+j)) x y H Q\/rAddS x y H Q\/Zic x y H Q
def ZhW(neg:Bool):R2:=λx y H Q=>∃c b,x=S [c]/\y=S b/\Q (.bl (neg != decide (c∈b))) H
theorem op_inS:OpR X (compareOp .In) (ZhW false):=by
 intro pins s σ H x y v u Q I rx ry h;obtain⟨c,b,rfl,rfl,q⟩:=h;refine ZcY pins s σ H _ _ v u Q I rx ry ⟨tx [c],tx b,rfl,rfl,?_⟩;have e:=StrLaws.found_one (tx b) c;rw [Xp]at e;rw [show tx [c]=(⟨#[c]⟩:Str)from rfl,e];simpa using q
def Qt(K:PySem.W.Frag)(neg:Bool):R2:=λx y H Q=>ZhW neg x y H Q\/rIn K neg x y H Q
theorem Zf7:OpR X (compareOp .In) (Qt X.K false):=op_inS.or Zc4
def rIxSt:R2:=λx y H Q=>∃a i c,x=S a/\y = .int i/\a.length<=sizeLine/\atI a i=some c/\Q (S [c]) H
theorem Zie:IxR X rIxSt:=by
 intro value slice pins s σ H x y v u Q I rx ry h hs;obtain⟨a,i,c,rfl,rfl,hz,he,q⟩:=h;exact ix_str value slice pins s σ H _ _ v u Q I rx ry ⟨tx a,i,c,rfl,rfl,by rw [Yh];exact hz,by rw [Xp];exact he,q⟩ hs
def VH(K:PySem.W.Frag):R2:=λx y H Q=>ZhT K x y H Q\/ZhU K x y H Q\/rIxSt x y H Q
theorem Zif:IxR X (VH X.K):=ix_list.or (ix_tup.or Zie)
def rSlS:V->Option Int->Option Int->Hp->VK->Prop:=λx lo hi H Q=>∃a,x=S a/\a.length<=sizeLine/\Q (S (cutL a lo hi)) H
theorem sl_S:SlR X rSlS:=by
 intro pins s σ H x v vl vu lo hi sl Q I rx hs pl pu h;obtain⟨a,rfl,hz,q⟩:=h;obtain⟨t,rfl⟩:=rx;refine⟨"str",_,F.slot_str_getitem.lookup,typeIs_str _ _ _,?_⟩;have fin:∀t' k,EP X pins σ Q (.str (Txt.slice (tx a) lo hi) t') { s with toks:=k }:=λt' k=>⟨S (cutL a lo hi),H,I.tok _,⟨t',by rw [Zdw]⟩,q⟩
 have hle:(Txt.slice (tx a) lo hi).length<=sizeLine:=Nat.le_trans (Txt.slice_le _ _ _) (by rw [Yh];exact hz);cases pl with
 |none=>
  cases pu with
  |none=>exact wpAny_getItem_str_slice (l:=none) (u:=none) (st:=none) hs rfl (post_val_or_str ⟨hle,fin⟩)
  |int j uj=>exact wpAny_getItem_str_slice (l:=none) (u:=some (j,uj)) (st:=none) hs rfl (post_val_or_str ⟨hle,fin⟩)
 |int i ui=>
  cases pu with
  |none=>exact wpAny_getItem_str_slice (l:=some (i,ui)) (u:=none) (st:=none) hs rfl (post_val_or_str ⟨hle,fin⟩)
  |int j uj=>exact wpAny_getItem_str_slice (l:=some (i,ui)) (u:=some (j,uj)) (st:=none) hs rfl (post_val_or_str ⟨hle,fin⟩)
def JI(K:PySem.W.Frag):V->Option Int->Option Int->Hp->VK->Prop:=λx lo hi H Q=>rSlS x lo hi H Q\/ZhV K x lo hi H Q\/ZhS K x lo hi H Q
theorem Zig:SlR X (JI X.K):=sl_S.or (sl_list.or Zf3)
def JJ(K:PySem.W.Frag):List V->Hp->VK->Prop:=λxs H Q=>(∃a,xs=[S a]/\a.length<=sizeLine/\Q (.int a.length) H)\/∃p ys,xs=[.ref p]/\(SqL K H p ys\/SqT K H p ys)/\Q (.int ys.length) H
theorem Zda:YD X (.builtin "len") (JJ X.K):=by
 intro pins s σ H xs us Q I rs q;rcases q with⟨a,rfl,hz,q⟩|q
 · exact Za8 pins s σ H _ us Q I rs ⟨tx a,rfl,by rw [Yh];exact hz,by rw [Yh];exact q⟩
 · exact Za7 pins s σ H xs us Q I rs q
theorem Zd7(n:Nat):(toString (n:Int):Str)=tx (Zf n):=by
 rw [<-Jy (toString (n:Int):Str)]
 congr 1
 exact PySem.W.KIN.signs_num n
def rStrI:List V->Hp->VK->Prop:=λxs H Q=>∃n:Nat,xs=[.int n]/\n<10 ^ 10/\Q (S (Zf n)) H
theorem UB:YD X (.type "str") rStrI:=by
 intro pins s σ H xs us Q I rs h;obtain⟨n,rfl,hn,q⟩:=h;refine Za5 pins s σ H _ us Q I rs ⟨(n:Int),rfl,?_,?_⟩
 · have h1 : n.log2 < 40 := by
    by_cases h0:n=0
    · subst h0;decide
    · exact(Nat.log2_lt h0).mpr (Nat.lt_trans hn (by decide))
   show(n:Int).natAbs.log2<1920;rw [Int.natAbs_natCast];omega
 · rw [Zd7]
   exact q
def rIntX:List V->Hp->VK->Prop:=λxs H Q=>(∃a,xs=[S a]/\a.length<=640/\a≠[]/\a.all V9=true/\Q (.int (Uy a:Nat)) H)\/(∃k,xs=[.bl k]/\Q (.int (if k then 1 else 0)) H)
theorem Zdb:YD X (.type "int") rIntX:=by
 intro pins s σ H xs us Q I rs h;rcases h with⟨a,rfl,hl,hne,hd,q⟩|h
 · obtain⟨u,rfl,t,rfl⟩:=Xm rs
   have hd':PySem.NumText.AllDigits (tx a).cps.toList:=by
    rw [Xp];intro c hc;have:=List.all_eq_true.mp hd c hc;unfold V9 at this;rw [Bool.and_eq_true,decide_eq_true_eq,decide_eq_true_eq]at this;exact this
   have e:=PySem.intText_digits hd' (by rw [Xp];exact hne) (by rw [Yh];omega);rw [Xp]at e;exact PySem.W.KIN.call_text e (by rw [Yh];exact hl) ⟨.int (Uy a:Nat),H,I.tok _,⟨_,rfl⟩,q⟩
 · exact ZcZ pins s σ H xs us Q I rs (.inr h)
theorem ZeF(bs:List Bool):∀(its:List Value),Vals (bs.map V.bl) its->its=bs.map Value.bool:=by
 induction bs with
 |nil=>intro its r;cases r;rfl
 |cons b bs ih=>
  intro its r;cases r with
  |cons r1 r2=>
   rw [ih _ r2];cases r1;rfl
theorem Zdc(bs:List Bool):((List.range bs.length).all λi=>bs.getD i false)=bs.all id:=by
 rw [Bool.eq_iff_iff,List.all_eq_true,List.all_eq_true];constructor
 · intro h b hb
   obtain⟨i,hi⟩:=List.getElem?_of_mem hb;have hl:i<bs.length:=(List.getElem?_eq_some_iff.mp hi).1;have:=h i (List.mem_range.mpr hl);rw [List.getD_eq_getElem?_getD,hi]at this;exact this
 · intro h i hi
   have hl:=List.mem_range.mp hi;have:=h bs[i] (List.getElem_mem hl);rw [List.getD_eq_getElem?_getD,List.getElem?_eq_getElem hl];exact this
def JK(K:PySem.W.Frag)(f:List Bool->Bool):List V->Hp->VK->Prop:=λxs H Q=>∃p bs,xs=[.ref p]/\SqL K H p (bs.map V.bl)/\Q (.bl (f bs)) H
theorem Zb3 {pins:List (Addr×Obj)} {σ:St} {H:Hp} {s:Shared} {p:Addr} {bs:List Bool} {Q:Value->Shared->Prop} {E:Value->Shared->Prop} {f:(Nat->Bool)->Bool} (hc:X.calm=true) (I:Inv X pins σ H s) (hq:SqL X.K H p (bs.map V.bl))
 (q:∀h' tk,(∀b o,s.heap.get? b=some o->h'.get? b=some o)->Q (.bool (f λi=>bs.getD i false)) { s with heap:=h',toks:=tk }) :
 wpAny (model X.prog X.w) X.A.in1 (pyIter (.ref p)) (λit s₂=>∃I fp wr n P St tr,it = .ref I/\Walks X.prog X.w X.A.in1 I fp wr n P St/\St 0 s₂.heap/\TruthOf X.prog X.w X.A.in1 P tr /\
  n=bs.length/\tr=(λi=>bs.getD i false)/\∀h' tk,(∀b o,b∉wr->s₂.heap.get? b=some o->h'.get? b=some o)->Q (.bool (f tr)) { s₂ with heap:=h',toks:=tk }) E s:=by
 obtain⟨its,rv,pl,hz⟩:=I.list hq;have e:=ZeF bs its rv;subst e;refine wpAny_pyIter_list pl.isList ?_;have hlt:p<s.heap.objs.size:=pl.lt;have hh:X.A.in1.handled=none:=I.ok.hd hc;refine⟨s.heap.objs.size,_,_,_,_,_,λi=>bs.getD i false,rfl,Walks.list hh _ p (Nat.ne_of_lt hlt) (bs.map Value.bool).toArray,⟨⟨_,Heap.get?_push_size _ rfl,rfl,rfl⟩,(pl.keeps λb o e=>Heap.get?_push_of_some _ e).isList⟩,?_,by simp,rfl,λh' tk k => ?_⟩
 · intro i v s' Q' E' hv hq'
   have:v=Value.bool (bs.getD i false):=by
    have hv':(bs.map Value.bool)[i]? = some v:=by simpa using hv
    rw [List.getElem?_map]at hv';rw [List.getD_eq_getElem?_getD];cases e:bs[i]? with
    |none=>rw [e]at hv';cases hv'
    |some b=>rw [e]at hv';exact(Option.some.inj hv').symm
   subst this;exact wpAny_truthy_bool hq'
 · refine q h' tk λb o e=>k b o (λz => ?_) (Heap.get?_push_of_some _ e)
   have h1:=Heap.lt_size e;have h2:b=s.heap.objs.size:=by simpa using z
   rw [h2]at h1;exact Nat.lt_irrefl _ h1
theorem Zdd(hc:X.calm=true):YD X (.builtin "all") (JK X.K λbs=>bs.all id):=by
 intro pins s σ H xs us Q I rs h;obtain⟨p,bs,rfl,hq,q⟩:=h;obtain⟨u,rfl,rx⟩:=Xm rs;cases rx;have z:=Zb3 (f:=λtr=>(List.range bs.length).all tr) (Q:=EP X pins σ Q) (E:=X.xe) hc I hq λh' tk k=>⟨.bl _,H,I.kept k,rfl,by rw [Zdc];exact q⟩
 refine call_all_walk (wpAny_mono z (λit s₂ z2 => ?_) λ_ _ z=>z);obtain⟨I',fp,wr,n,P,St,tr,e1,W,st,ht,en,et,hq'⟩:=z2;exact⟨I',fp,wr,n,P,St,tr,e1,W,st,ht,λh' tk k=>by rw [en];exact hq' h' tk k⟩
theorem ZdB:YD X (.builtin "isinstance") (λxs H Q=>∃x c cv t b,xs=[x,c]/\(∀v,RelV c v->v=cv)/\TyOf X.K H x t/\kitOne X.K t cv=some b/\Q (.bl b) H):=by
 intro pins s σ H xs us Q I rs h;obtain⟨x,c,cv,t,b,rfl,hc,ty,e,q⟩:=h;obtain⟨u,w',rfl,rx,rc⟩:=Zfs rs;have ec:=hc _ rc;subst ec;exact Zc2 I rx ty e λtk=>⟨.bl b,H,I.tok tk,rfl,q⟩
end
section
variable{X:Cx}{K:PySem.W.Frag}{pos:Pos}{tg:Expr}
theorem Qu(hK:X.K=K:=by rfl):OpR X (compareOp .In) (Qt K false):=hK▸Zf7
theorem ZB(hK:X.K=K:=by rfl):IxR X (VH K):=hK▸Zif
theorem Zih(hK:X.K=K:=by rfl):SlR X (JI K):=hK▸Zig
theorem Yj(hK:X.K=K:=by rfl):YD X (.builtin "len") (JJ K):=hK▸Zda
theorem Zfw(hc:X.calm=true:=by rfl)(hK:X.K=K:=by rfl):YD X (.builtin "all") (JK K λbs=>bs.all id):=hK▸Zdd hc
def Zii(K:PySem.W.Frag):List V->Hp->VK->Prop:=λxs H Q=>∃x c cv t b,xs=[x,c]/\(∀v,RelV c v->v=cv)/\TyOf K H x t/\kitOne K t cv=some b/\Q (.bl b) H
theorem Xx{l:Expr}{tl:TE}(hl:PE X l tl)(hK:X.K=K:=by rfl):PI X tg l (JH K tl):=hK▸Zf6 hl
theorem YE{e:Expr}{ta:TE}{f:Str}(he:PE X e ta)(hb:attributeBase e f X.env (eval e X.env)=eval e X.env:=by rfl)(hK:X.K=K:=by rfl):PE X (.Attribute e f pos) (Jo K ta f):=hK▸Zf1 he hb
def Zd8(K:PySem.W.Frag):List V->Hp->VK->Prop:=λxs H Q=>∃p ys,xs=[.ref p]/\((SqL K H p ys/\∀l,H l=none->Q (.ref l) (upd H l (.tup ys)))\/(SqT K H p ys/\Q (.ref p) H))
def Zf8(K:PySem.W.Frag):List V->Hp->VK->Prop:=λxs H Q=>∃p ys,xs=[.ref p]/\(SqL K H p ys\/SqT K H p ys)/\∀l,H l=none->Q (.ref l) (upd H l (.lst ys))
theorem UX(hK:X.K=K:=by rfl):YD X (.type "tuple") (Zd8 K):=hK▸ZaL
theorem YF {o e:Expr} {es:List Expr} {to:TE} {t:TA} {name:Str} {apos cpos:Pos} {T id:String} {r:V->List V->Hp->VK->Prop} (pa:PlainAttrs T) (slot:Slot T name id) (hty:typeOf (.builtin id)=pure (.type "method_descriptor")) (hm:MtR X id r) (ho:PE X o to) (ha:PA X (e::es) t)
 (hbase:attributeBase o name X.env (eval o X.env)=eval o X.env:=by rfl)
 (hfew:((backTo cpos (starEach (e::es) X.env)).all (λx => !x.1)&&(backToKw cpos (keywordEach [] X.env)).all (λx=>x.1.isSome)
   && decide ((e::es).length+([]:List Keyword).length+(if([]:List Keyword).isEmpty then 0 else 1)<30))=true:=by rfl)
 (hline:(apos.endLine == cpos.line)=true:=by rfl) (hs:starEach (e::es) X.env=(false,eval e X.env)::starEach es X.env:=by rfl) (hplain:(backTo cpos (starEach es X.env)).any (·.1)=false:=by rfl) (hK:X.K=K:=by rfl) :
 PE X (.Call (.Attribute o name apos) (e::es) [] cpos) (tBM K T r to t):=hK▸ZgF pa slot hty hm ho ha hbase hfew hline hs hplain
theorem JL {es:List Expr} {k:Nat} {t:TGs} {n:Nat} (h:PGs X es t) (hc:X.calm=true:=by rfl)
 (hn:(assignEach es X.env).length=n:=by rfl) (hst:(assignEach es X.env).findIdx? (·.1)=none:=by rfl) (hK:X.K=K:=by rfl):PG X (.Tuple es k pos) (Jh K n t):=hK▸ZfZ hc h hn hst
end
end L2
namespace L2
open PySem PySem.Spec PyProof.Rows
theorem ZdC{H:Hp}{q:Addr}{o:HO}(h:H q=none):Same H (upd H q o):=λb u e=>by
 rw [ZF (YN e h)];exact e
structure Walk(J:It)(xs:List V)(H:Hp):Prop where
 go:∀i,i<xs.length->J.go i H
 yld:∀(i:Nat)v H',i<xs.length->J.yld i H v H'->H'=H/\xs[i]? = some v
 stop:∀i,xs.length<=i->J.stop i H
end L2
namespace L2
open PySem PySem.Spec PyProof.Rows
section
variable{X:Cx}{tg:Expr}
end
end L2
namespace L2
open PySem PySem.Spec PyProof.Rows
section
variable{X:Cx}{elts:List Expr}{x1:Nat}{tpos:Pos}
end
end L2
namespace L2
open PySem PySem.Spec PyProof.Rows
section
variable{κ:Type} [DecidableEq κ]
def Xy(kvs:List (κ×V))(k:κ):Option V:=(kvs.find? λkv=>decide (kv.1=k)).map (·.2)
def Qv(kvs:List (κ×V))(k:κ)(v:V):List (κ×V):=
 if(kvs.any λkv=>decide (kv.1=k))=true then kvs.map (λkv=>if kv.1=k then(kv.1,v)else kv)else kvs++[(k,v)]
theorem Zbv{p:κ×V}{r:List (κ×V)}{k:κ}(e:p.1=k):Xy (p::r) k=some p.2:=by simp [Xy,List.find?_cons,e]
theorem Zbw{p:κ×V}{r:List (κ×V)}{k:κ}(e:¬p.1=k):Xy (p::r) k=Xy r k:=by simp [Xy,List.find?_cons,e]
theorem KV.val{kvs:List (κ×V)}{vs:List (κ×Value)}(r:KV kvs vs)(k:κ):RelO (Xy kvs k) (valueAt vs k):=by
 unfold KV at r
 induction r with
 |nil=>exact True.intro
 | @cons p q ps qs h t ih=>
  obtain⟨h1,h2⟩:=h
  by_cases e:p.1=k
  · have e':q.1=k:=h1.symm.trans e
    have b:valueAt (q::qs) k=some q.2:=by simp [valueAt,List.find?_cons,e']
    rw [Zbv e,b];exact h2
  · have e':¬q.1=k:=λz=>e (h1.trans z)
    have b:valueAt (q::qs) k=valueAt qs k:=by simp [valueAt,List.find?_cons,e']
    rw [Zbw e,b];exact ih
theorem KV.length{kvs:List (κ×V)}{vs:List (κ×Value)}(r:KV kvs vs):kvs.length=vs.length:=Paired.length r
end
abbrev KT(H:Hp):List (List Key×V)->List (List Key×Addr×Value)->Prop:=Paired λp q=>p.1=q.1/\H q.2.1=some (.tup (p.1.map kV))/\RelV p.2 q.2.2
theorem KT.val{H:Hp}{kvs:List (List Key×V)}{xs:List (List Key×Addr×Value)}(r:KT H kvs xs)(k:List Key):RelO (Xy kvs k) ((atKey xs k).map (·.2)):=by
 induction r with
 |nil=>exact True.intro
 | @cons p q ps qs h t ih=>
  obtain⟨h1,_,h2⟩:=h
  by_cases e:p.1=k
  · have e':q.1=k:=h1.symm.trans e
    have b:atKey (q::qs) k=some q.2:=by simp [atKey,List.find?_cons,e']
    rw [Zbv e,b];exact h2
  · have e':¬q.1=k:=λz=>e (h1.trans z)
    have b:atKey (q::qs) k=atKey qs k:=by simp [atKey,List.find?_cons,e']
    rw [Zbw e,b];exact ih
section
variable{P:Program}{w:World}{H:Hp}{h:Heap}{a:Addr}
end
def DGet(H:Hp)(a:Addr)(y:V)(r:Option V):Prop:=
 (∃kvs k,Rd H a (.dK kvs)/\y=kV k/\r=Xy kvs k)\/∃kvs k b,Rd H a (.dT kvs)/\y = .ref b/\H b=some (.tup (k.map kV))/\r=Xy kvs k
def DPut(H:Hp)(a:Addr)(y v:V)(H':Hp):Prop:=
 (∃kvs k,H a=some (.dK kvs)/\y=kV k/\kvs.length<sizeLine/\H'=upd H a (.dK (Qv kvs k v))) \/
 ∃kvs k b,H a=some (.dT kvs)/\y = .ref b/\H b=some (.tup (k.map kV))/\kvs.length<sizeLine/\H'=upd H a (.dT (Qv kvs k v))
theorem DGet.k{H:Hp}{a:Addr}{kvs:List (Key×V)}{k:Key}(e:H a=some (.dK kvs)):DGet H a (kV k) (Xy kvs k) := .inl ⟨kvs,k,.inl e,rfl,rfl⟩
theorem DGet.t{H:Hp}{a b:Addr}{kvs:List (List Key×V)}{k:List Key}(e:H a=some (.dT kvs))(eb:H b=some (.tup (k.map kV))):DGet H a (.ref b) (Xy kvs k) := .inr ⟨kvs,k,b,.inl e,rfl,eb,rfl⟩
theorem DPut.k{H:Hp}{a:Addr}{kvs:List (Key×V)}{k:Key}{v:V}(e:H a=some (.dK kvs))(hl:kvs.length<sizeLine):DPut H a (kV k) v (upd H a (.dK (Qv kvs k v))) := .inl ⟨kvs,k,e,rfl,hl,rfl⟩
theorem DPut.t{H:Hp}{a b:Addr}{kvs:List (List Key×V)}{k:List Key}{v:V}(e:H a=some (.dT kvs))(eb:H b=some (.tup (k.map kV)))(hl:kvs.length<sizeLine) :
 DPut H a (.ref b) v (upd H a (.dT (Qv kvs k v))) := .inr ⟨kvs,k,b,e,rfl,eb,hl,rfl⟩
section
variable{X:Cx}{pins:List (Addr×Obj)}{σ:St}{H:Hp}{s:Shared}{a:Addr}{y v:V}{u r:Value}{o:Option V}{A:Around}{E:Value->Shared->Prop}
end
section
variable{X:Cx}{pins:List (Addr×Obj)}{σ:St}{H:Hp}{s:Shared}{a:Addr}{kvs:List (Key×V)}{k:Key}{u:Value}{A:Around}{E:Value->Shared->Prop}
end
section
variable{X:Cx}{o i e value:Expr}{pos pos' tpos:Pos}{td ty tv:TE}
end
section
variable{X:Cx}{pos:Pos}
end
structure M1(X:Cx)(o:Expr)(m:Str)(apos:Pos)(e:Expr)(cpos:Pos):Prop where
 base:attributeBase o m X.env (eval o X.env)=eval o X.env
 few:((backTo cpos (starEach [e] X.env)).all (λx => !x.1)&&(backToKw cpos (keywordEach [] X.env)).all (λx=>x.1.isSome)
  && decide (([e]:List Expr).length+([]:List Keyword).length+(if([]:List Keyword).isEmpty then 0 else 1)<30))=true
 line:(apos.endLine == cpos.line)=true
 trees:backTo cpos (starEach [e] X.env)=[(false,eval e X.env)]
structure M2(X:Cx)(o:Expr)(m:Str)(apos:Pos)(e f:Expr)(cpos:Pos):Prop where
 base:attributeBase o m X.env (eval o X.env)=eval o X.env
 few:((backTo cpos (starEach [e,f] X.env)).all (λx => !x.1)&&(backToKw cpos (keywordEach [] X.env)).all (λx=>x.1.isSome)
  && decide (([e,f]:List Expr).length+([]:List Keyword).length+(if([]:List Keyword).isEmpty then 0 else 1)<30))=true
 line:(apos.endLine == cpos.line)=true
 trees:backTo cpos (starEach [e,f] X.env)=[(false,eval e X.env),(false,eval f X.env)]
section
variable{X:Cx}{pins:List (Addr×Obj)}{σ:St}{H:Hp}{s:Shared}{a:Addr}{y d:V}{u r:Value}{o:Option V}{A:Around}{E:Value->Shared->Prop}
end
section
variable{X:Cx}{o e f:Expr}{apos cpos:Pos}{td ty tx:TE}
end
section
variable{X:Cx}{pins:List (Addr×Obj)}{σ:St}{H:Hp}{s:Shared}{a:Addr}{kvs:List (Key×V)}{A:Around}{E:Value->Shared->Prop}
end
section
variable{X:Cx}{pins:List (Addr×Obj)}{σ:St}{H:Hp}{s:Shared}{a:Addr}{y:V}{u:Value}{A:Around}{E:Value->Shared->Prop}
end
end L2
namespace DL
open PySem PySem.Spec L2
inductive D where
 |non
 |bl (b:Bool)
 |int (i:Int)
 |str (cs:List Nat)
 |lst (xs:List D)
 |tup (xs:List D)
 |obj (c:String) (ks:List String) (xs:List D)
 |dct (ks:List Key) (xs:List D)
 |dtt (ks:List (List Key)) (xs:List D)
def KL(K:PySem.W.Frag)(a:Addr)(vs:List V):Prop:=∃(o:Obj) (its:Array Value) (n:Nat),K.lookup a=some o/\o.cls = .type "list" /\ o.dict=none/\o.data = .seq its n/\its.size<=sizeLine/\Vals vs its.toList
structure Kn where
 c:String->Addr
 K:PySem.W.Frag
def ZK:D->Bool
 | .non=>true
 | .bl _=>true
 | .int _=>true
 | .str _=>true
 |_=>false
mutual
def Rep(cA:Kn)(av:Addr->Prop)(H:Hp):D->V->Prop
 | .non,v=>v = .non
 | .bl b,v=>v = .bl b
 | .int i,v=>v = .int i
 | .str cs,v=>v=S cs
 | .lst xs,v=>∃a vs,v = .ref a/\(av a->KL cA.K a vs)/\SqL cA.K H a vs/\RepL cA av H xs vs
 | .tup xs,v=>∃a vs,v = .ref a/\¬av a/\H a=some (.tup vs)/\RepL cA av H xs vs
 | .obj c ks xs,v=>∃a dx vs,v = .ref a/\¬av a/\H a=some (.ins (cA.c c) dx ((ks.map Str.ofString).zip vs))/\ks.length=xs.length/\RepL cA av H xs vs
 | .dct ks xs,v=>∃a vs,v = .ref a/\¬av a/\H a=some (.dK (ks.zip vs))/\ks.length=xs.length/\RepL cA av H xs vs
 | .dtt ks xs,v=>∃a vs,v = .ref a/\¬av a/\H a=some (.dT (ks.zip vs))/\ks.length=xs.length/\RepL cA av H xs vs
def RepL(cA:Kn)(av:Addr->Prop)(H:Hp):List D->List V->Prop
 | [],vs=>vs=[]
 |x::xs,vs=>∃v r,vs=v::r/\Rep cA av H x v/\RepL cA av H xs r
end
section
variable{cA:Kn}{G:Cn}{av av':Addr->Prop}{H H':Hp}
theorem Rd.ext{a:Addr}{u:HO}(h:Rd H a u)(k:∀o,H a=some o->H' a=some o):Rd H' a u:=by
 rcases h with h|⟨o,h⟩
 · exact .inl (k _ h)
 · exact .inr ⟨o,k _ h⟩
theorem Rd.there{a:Addr}{u:HO}(h:Rd H a u):H a≠none:=by
 rcases h with h|⟨o,h⟩<;>rw [h]<;>exact λz=>by cases z
theorem JM{K:PySem.W.Frag}{a:Addr}{vs:List V}(n:av a->KL K a vs)(r:SqL K H a vs)(k:∀b o,¬av b->H b=some o->H' b=some o):SqL K H' a vs:=by
 by_cases h:av a
 · exact .inr (n h)
 · rcases r with r|r
   · exact .inl (Rd.ext r λo=>k a o h)
   · exact .inr r
theorem ZgJ{K:PySem.W.Frag}{a:Addr}{vs:List V}(n:av a->KL K a vs)(r:SqL K H a vs)(k:∀b,av' b->av b\/H b=none):av' a->KL K a vs:=λz=>by
 rcases k a z with z|z
 · exact n z
 · rcases r with r|r
   · exact absurd z (Rd.there r)
   · exact r
mutual
theorem Rep.ext:∀{d:D}{v:V},(∀b o,¬av b->H b=some o->H' b=some o)->Rep cA av H d v->Rep cA av H' d v
 | .non,_,_,h=>h
 | .bl _,_,_,h=>h
 | .int _,_,_,h=>h
 | .str _,_,_,h=>h
 | .lst xs,v,k,h=>by
  unfold Rep at h ⊢;obtain⟨a,vs,e,n,r,l⟩:=h;exact⟨a,vs,e,n,JM n r k,RepL.ext k l⟩
 | .tup xs,v,k,h=>by
  unfold Rep at h ⊢;obtain⟨a,vs,e,n,r,l⟩:=h;exact⟨a,vs,e,n,k a _ n r,RepL.ext k l⟩
 | .obj c ks xs,v,k,h=>by
  unfold Rep at h ⊢;obtain⟨a,dx,vs,e,n,r,z,l⟩:=h;exact⟨a,dx,vs,e,n,k a _ n r,z,RepL.ext k l⟩
 | .dct ks xs,v,k,h=>by
  unfold Rep at h ⊢;obtain⟨a,vs,e,n,r,z,l⟩:=h;exact⟨a,vs,e,n,k a _ n r,z,RepL.ext k l⟩
 | .dtt ks xs,v,k,h=>by
  unfold Rep at h ⊢;obtain⟨a,vs,e,n,r,z,l⟩:=h;exact⟨a,vs,e,n,k a _ n r,z,RepL.ext k l⟩
theorem RepL.ext:∀{xs:List D}{vs:List V},(∀b o,¬av b->H b=some o->H' b=some o)->RepL cA av H xs vs->RepL cA av H' xs vs
 | [],_,_,h=>h
 |x::xs,vs,k,h=>by
  unfold RepL at h ⊢;obtain⟨v,r,e,h1,h2⟩:=h;exact⟨v,r,e,Rep.ext k h1,RepL.ext k h2⟩
end
mutual
theorem Rep.av:∀{d:D}{v:V},(∀b,av' b->av b\/H b=none)->Rep cA av H d v->Rep cA av' H d v
 | .non,_,_,h=>h
 | .bl _,_,_,h=>h
 | .int _,_,_,h=>h
 | .str _,_,_,h=>h
 | .lst xs,v,k,h=>by
  unfold Rep at h ⊢;obtain⟨a,vs,e,n,r,l⟩:=h;exact⟨a,vs,e,ZgJ n r k,r,RepL.av k l⟩
 | .tup xs,v,k,h=>by
  unfold Rep at h ⊢;obtain⟨a,vs,e,n,r,l⟩:=h;exact⟨a,vs,e,λz=>(k a z).elim n (by rw [r];exact λz=>by cases z),r,RepL.av k l⟩
 | .obj c ks xs,v,k,h=>by
  unfold Rep at h ⊢;obtain⟨a,dx,vs,e,n,r,z,l⟩:=h;exact⟨a,dx,vs,e,λy=>(k a y).elim n (by rw [r];exact λz=>by cases z),r,z,RepL.av k l⟩
 | .dct ks xs,v,k,h=>by
  unfold Rep at h ⊢;obtain⟨a,vs,e,n,r,z,l⟩:=h;exact⟨a,vs,e,λy=>(k a y).elim n (by rw [r];exact λz=>by cases z),r,z,RepL.av k l⟩
 | .dtt ks xs,v,k,h=>by
  unfold Rep at h ⊢;obtain⟨a,vs,e,n,r,z,l⟩:=h;exact⟨a,vs,e,λy=>(k a y).elim n (by rw [r];exact λz=>by cases z),r,z,RepL.av k l⟩
theorem RepL.av:∀{xs:List D}{vs:List V},(∀b,av' b->av b\/H b=none)->RepL cA av H xs vs->RepL cA av' H xs vs
 | [],_,_,h=>h
 |x::xs,vs,k,h=>by
  unfold RepL at h ⊢;obtain⟨v,r,e,h1,h2⟩:=h;exact⟨v,r,e,Rep.av k h1,RepL.av k h2⟩
end
theorem Rep.same{d:D}{v:V}(k:Same H H')(h:Rep cA av H d v):Rep cA av H' d v:=h.ext λb o _=>k b o
theorem RepL.same{xs:List D}{vs:List V}(k:Same H H')(h:RepL cA av H xs vs):RepL cA av H' xs vs:=h.ext λb o _=>k b o
theorem RepL.nil:RepL cA av H [] []:=by unfold RepL;rfl
theorem RepL.cons{d:D}{v:V}{xs:List D}{vs:List V}(h:Rep cA av H d v)(t:RepL cA av H xs vs):RepL cA av H (d::xs) (v::vs):=by
 unfold RepL;exact⟨v,vs,rfl,h,t⟩
theorem RepL.uncons{d:D}{xs:List D}{vs:List V}(h:RepL cA av H (d::xs) vs):∃v r,vs=v::r/\Rep cA av H d v/\RepL cA av H xs r:=by
 unfold RepL at h;exact h
theorem RepL.nil_of{vs:List V}(h:RepL cA av H [] vs):vs=[]:=by
 unfold RepL at h;exact h
theorem RepL.length:∀{xs:List D}{vs:List V},RepL cA av H xs vs->xs.length=vs.length
 | [],vs,h=>by rw [h.nil_of];rfl
 |x::xs,vs,h=>by
  obtain⟨v,r,rfl,_,t⟩:=h.uncons;rw [List.length_cons,List.length_cons,RepL.length t]
theorem RepL.get:∀{xs:List D}{vs:List V}{i:Nat}{x:D},RepL cA av H xs vs->xs[i]? = some x->∃v,vs[i]? = some v/\Rep cA av H x v
 | [],_,_,_,_,e=>by simp at e
 |y::xs,vs,0,x,h,e=>by
  obtain⟨v,r,rfl,h1,_⟩:=h.uncons;simp at e;subst e;exact⟨v,rfl,h1⟩
 |y::xs,vs,i+1,x,h,e=>by
  obtain⟨v,r,rfl,_,t⟩:=h.uncons;obtain⟨u,h1,h2⟩:=RepL.get (i:=i) t (by simpa using e);exact⟨u,by simpa using h1,h2⟩
theorem RepL.append:∀{xs ys:List D}{vs ws:List V},RepL cA av H xs vs->RepL cA av H ys ws->RepL cA av H (xs++ys) (vs++ws)
 | [],_,vs,_,h,t=>by rw [h.nil_of];exact t
 |x::xs,ys,vs,ws,h,t=>by
  obtain⟨v,r,rfl,h1,h2⟩:=h.uncons;exact .cons h1 (RepL.append h2 t)
theorem RepL.drop:∀{xs:List D}{vs:List V}(n:Nat),RepL cA av H xs vs->RepL cA av H (xs.drop n) (vs.drop n)
 |_,_,0,h=>h
 | [],vs,n+1,h=>by rw [h.nil_of];exact .nil
 |x::xs,vs,n+1,h=>by
  obtain⟨v,r,rfl,_,h2⟩:=h.uncons;exact RepL.drop n h2
theorem RepL.take:∀{xs:List D}{vs:List V}(n:Nat),RepL cA av H xs vs->RepL cA av H (xs.take n) (vs.take n)
 |_,_,0,h=>by simp;exact .nil
 | [],vs,n+1,h=>by rw [h.nil_of];exact .nil
 |x::xs,vs,n+1,h=>by
  obtain⟨v,r,rfl,h1,h2⟩:=h.uncons;exact .cons h1 (RepL.take n h2)
theorem RepL.set{d:D}{v:V}(hd:Rep cA av H d v):∀{xs:List D}{vs:List V}(i:Nat),RepL cA av H xs vs->RepL cA av H (xs.set i d) (vs.set i v)
 | [],vs,_,h=>by rw [h.nil_of];exact .nil
 |x::xs,vs,0,h=>by
  obtain⟨v',r,rfl,h1,h2⟩:=h.uncons;exact .cons hd h2
 |x::xs,vs,i+1,h=>by
  obtain⟨v',r,rfl,h1,h2⟩:=h.uncons;exact .cons h1 (RepL.set hd i h2)
def val:D->V
 | .bl b => .bl b
 | .int i => .int i
 | .str cs=>S cs
 |_ => .non
theorem Rep.val{d:D}{v:V}(hs:ZK d=true)(h:Rep cA av H d v):v=DL.val d:=by
 cases d<;>first|exact h|cases hs
theorem Rep.of_val{d:D}(hs:ZK d=true):Rep cA av H d (DL.val d):=by
 cases d<;>first|rfl|cases hs
theorem RepL.vals:∀{xs:List D}{vs:List V},xs.all ZK=true->RepL cA av H xs vs->vs=xs.map DL.val
 | [],vs,_,h=>h.nil_of
 |x::xs,vs,hs,h=>by
  rw [List.all_cons,Bool.and_eq_true]at hs;obtain⟨v,r,rfl,h1,h2⟩:=h.uncons;rw [List.map_cons,h1.val hs.1,RepL.vals hs.2 h2]
theorem RepL.of_vals:∀{xs:List D},xs.all ZK=true->RepL cA av H xs (xs.map DL.val)
 | [],_ => .nil
 |x::xs,hs=>by
  rw [List.all_cons,Bool.and_eq_true]at hs;exact .cons (.of_val hs.1) (RepL.of_vals hs.2)
def RepT(cA:Kn)(t i:Addr->Prop)(H:Hp):D->V->Prop
 | .lst xs,v=>∃a vs,v = .ref a/\(t a->KL cA.K a vs)/\SqL cA.K H a vs/\RepL cA i H xs vs
 | .tup xs,v=>∃a vs,v = .ref a/\¬t a/\H a=some (.tup vs)/\RepL cA i H xs vs
 | .obj c ks xs,v=>∃a dx vs,v = .ref a/\¬t a/\H a=some (.ins (cA.c c) dx ((ks.map Str.ofString).zip vs))/\ks.length=xs.length/\RepL cA i H xs vs
 | .dct ks xs,v=>∃a vs,v = .ref a/\¬t a/\H a=some (.dK (ks.zip vs))/\ks.length=xs.length/\RepL cA i H xs vs
 | .dtt ks xs,v=>∃a vs,v = .ref a/\¬t a/\H a=some (.dT (ks.zip vs))/\ks.length=xs.length/\RepL cA i H xs vs
 |d,v=>v=DL.val d
theorem Rep.t{d:D}{v:V}(h:Rep cA av H d v):RepT cA av av H d v:=by
 cases d<;>first|exact h|(unfold Rep at h;exact h)
theorem RepT.r{d:D}{v:V}(h:RepT cA av av H d v):Rep cA av H d v:=by
 cases d<;>first|exact h|(unfold Rep;exact h)
theorem RepT.weak{t t' i i':Addr->Prop}{d:D}{v:V}(ht:∀a,t' a->t a)(hi:∀a,i' a->i a)(h:RepT cA t i H d v):RepT cA t' i' H d v:=by
 cases d with
 |lst xs=>obtain⟨a,vs,e,n,r,l⟩:=h;exact⟨a,vs,e,λz=>n (ht a z),r,l.av λb z => .inl (hi b z)⟩
 |tup xs=>obtain⟨a,vs,e,n,r,l⟩:=h;exact⟨a,vs,e,λz=>n (ht a z),r,l.av λb z => .inl (hi b z)⟩
 |obj c ks xs=>obtain⟨a,dx,vs,e,n,r,z,l⟩:=h;exact⟨a,dx,vs,e,λz=>n (ht a z),r,z,l.av λb z => .inl (hi b z)⟩
 |dct ks xs=>obtain⟨a,vs,e,n,r,z,l⟩:=h;exact⟨a,vs,e,λz=>n (ht a z),r,z,l.av λb z => .inl (hi b z)⟩
 |dtt ks xs=>obtain⟨a,vs,e,n,r,z,l⟩:=h;exact⟨a,vs,e,λz=>n (ht a z),r,z,l.av λb z => .inl (hi b z)⟩
 |_=>exact h
theorem RepT.same{t i:Addr->Prop}{d:D}{v:V}(k:Same H H')(h:RepT cA t i H d v):RepT cA t i H' d v:=by
 cases d with
 |lst xs=>obtain⟨a,vs,e,n,r,l⟩:=h;exact⟨a,vs,e,n,k.seq r,l.same k⟩
 |tup xs=>obtain⟨a,vs,e,n,r,l⟩:=h;exact⟨a,vs,e,n,k a _ r,l.same k⟩
 |obj c ks xs=>obtain⟨a,dx,vs,e,n,r,z,l⟩:=h;exact⟨a,dx,vs,e,n,k a _ r,z,l.same k⟩
 |dct ks xs=>obtain⟨a,vs,e,n,r,z,l⟩:=h;exact⟨a,vs,e,n,k a _ r,z,l.same k⟩
 |dtt ks xs=>obtain⟨a,vs,e,n,r,z,l⟩:=h;exact⟨a,vs,e,n,k a _ r,z,l.same k⟩
 |_=>exact h
end
abbrev Env:=List (Option D)
structure Cn where
 cA:Kn
 pin:Nat->Option (Addr ⊕ V)
def AV(av:Addr->Prop)(A:Nat->Option Addr)(a:Addr):Prop:=av a\/∃i,A i=some a
def Own(cA:Kn)(av:Addr->Prop)(H:Hp):D->Addr->Prop
 | .lst xs,a=>∃vs,H a=some (.lst vs)/\RepL cA av H xs vs
 | .obj c ks xs,a=>∃dx vs,H a=some (.ins (cA.c c) dx ((ks.map Str.ofString).zip vs))/\ks.length=xs.length/\RepL cA av H xs vs
 | .dct ks xs,a=>∃vs,H a=some (.dK (ks.zip vs))/\ks.length=xs.length/\RepL cA av H xs vs
 | .dtt ks xs,a=>∃vs,H a=some (.dT (ks.zip vs))/\ks.length=xs.length/\RepL cA av H xs vs
 |_,_=>False
structure ER(G:Cn)(ow:List Nat)(H0:Hp)(av:Addr->Prop)(A:Nat->Option Addr)(σ:St)(H:Hp)(δ:Env):Prop where
 same:Same H0 H
 avd:∀a,av a->H0 a≠none
 fr:∀i a,A i=some a->H0 a=none
 inj:∀i j a,A i=some a->A j=some a->i=j
 live:∀i a,A i=some a->H a≠none
 dom:∀i,A i≠none->i∈ow
 dom':∀i∈ow,A i≠none
 len:σ.length=δ.length
 pin:∀i a,G.2 i=some (.inl a)->A i=some a
 kept:∀i v,G.2 i=some (.inr v)->σ[i]? = some (some v)
 var:∀(i:Nat)(d:D),δ[i]? = some (some d)->∃v,σ[i]? = some (some v)/\(A i=none->Rep G.1 (AV av A) H d v)/\(∀a,A i=some a->v = .ref a/\Own G.1 (AV av A) H d a)
inductive Ql where
 |cl|tp|dt
def RepQ(cA:Kn)(av:Addr->Prop)(A:Nat->Option Addr)(H:Hp):Ql->D->V->Prop
 | .cl,d,v=>RepT cA (AV av A) (AV av A) H d v
 | .tp,d,v=>RepT cA av (AV av A) H d v
 | .dt,d,v=>RepT cA av av H d v
def Ql.it:Ql->Ql
 | .dt => .dt
 |_ => .cl
section
variable{cA:Kn}{G:Cn}{ow:List Nat}{H0 H H':Hp}{av:Addr->Prop}{A:Nat->Option Addr}{σ:St}{δ:Env}
theorem AV.l{a:Addr}(h:av a):AV av A a := .inl h
def Ql.iv(q:Ql)(av:Addr->Prop)(A:Nat->Option Addr):Addr->Prop:=match q with
 | .dt=>av
 |_=>AV av A
theorem RepQ.tp{q:Ql}{d:D}{v:V}(h:RepQ cA av A H q d v):RepT cA av (q.iv av A) H d v:=by
 cases q with
 |cl=>exact h.weak (λa => .inl) λa z=>z
 |tp=>exact h
 |dt=>exact h
theorem RepQ.any{q:Ql}{d:D}{v:V}(h:RepQ cA av A H q d v):Rep cA av H d v:=by
 cases q with
 |cl=>exact(h.weak (λa => .inl) λa => .inl).r
 |tp=>exact(h.weak (λa z=>z) λa => .inl).r
 |dt=>exact h.r
theorem RepQ.same{q:Ql}{d:D}{v:V}(k:Same H H')(h:RepQ cA av A H q d v):RepQ cA av A H' q d v:=by
 cases q<;>exact RepT.same k h
theorem ER.mono(E:ER G ow H0 av A σ H δ)(k:Same H H'):ER G ow H0 av A σ H' δ:=by
 refine⟨E.same.trans k,E.avd,E.fr,E.inj,λi a e => ?_,E.dom,E.dom',E.len,E.pin,E.kept,λi d e => ?_⟩
 · have:=E.live i a e
   cases q:H a with
   |none=>exact absurd q this
   |some o=>rw [k a o q];exact λz=>by cases z
 · obtain⟨v,h1,h2,h3⟩:=E.var i d e
   refine⟨v,h1,λz=>(h2 z).same k,λa z=>⟨(h3 a z).1,?_⟩⟩;have:=(h3 a z).2;cases d with
   |lst xs=>obtain⟨vs,q1,q2⟩:=this;exact⟨vs,k _ _ q1,q2.same k⟩
   |obj c ks xs=>obtain⟨dx,vs,q1,q0,q2⟩:=this;exact⟨dx,vs,k _ _ q1,q0,q2.same k⟩
   |dct ks xs=>obtain⟨vs,q1,q0,q2⟩:=this;exact⟨vs,k _ _ q1,q0,q2.same k⟩
   |dtt ks xs=>obtain⟨vs,q1,q0,q2⟩:=this;exact⟨vs,k _ _ q1,q0,q2.same k⟩
   |_=>exact this
theorem ER.avl(E:ER G ow H0 av A σ H δ):∀a,AV av A a->H a≠none:=λa h=>by
 rcases h with h|⟨i,h⟩
 · have:=E.avd a h
   cases q:H0 a with
   |none=>exact absurd q this
   |some o=>rw [E.same a o q];exact λz=>by cases z
 · exact E.live i a h
theorem ER.avH(E:ER G ow H0 av A σ H δ):∀a,av a->H a≠none:=λa h=>E.avl a (.inl h)
end
def VE(G:Cn)(ow:List Nat)(te:TE)(q:Ql)(ε:Env->Option D):Prop:=
 ∀H0 av A σ H δ,ER G ow H0 av A σ H δ->∀d,ε δ=some d->∀Q:VK,(∀v H',Same H H'->RepQ G.1 av A H' q d v->Q v H')->te σ H Q
def VF(G:Cn)(ow:List Nat)(te:TE)(ε:Env->Option D):Prop:=
 ∀H0 av A σ H δ,ER G ow H0 av A σ H δ->∀d,ε δ=some d->∀Q:VK,(∀p vs xs H1,Same H H1->H1 p=none->RepL G.1 (AV av A) H1 xs vs->d = .lst xs->Q (.ref p) (upd H1 p (.lst vs)))->te σ H Q
def VT(G:Cn)(ow:List Nat)(tt:TT)(τ:Env->Option Bool):Prop:=
 ∀H0 av A σ H δ,ER G ow H0 av A σ H δ->∀b,τ δ=some b->∀Q:Bool->Hp->Prop,(∀H',Same H H'->Q b H')->tt σ H Q
def RepQL(cA:Kn)(av:Addr->Prop)(A:Nat->Option Addr)(H:Hp)(q:Ql):List D->List V->Prop
 | [],vs=>vs=[]
 |x::xs,vs=>∃v r,vs=v::r/\RepQ cA av A H q x v/\RepQL cA av A H q xs r
def VA(G:Cn)(ow:List Nat)(ta:TA)(q:Ql)(α:Env->Option (List D)):Prop:=
 ∀H0 av A σ H δ,ER G ow H0 av A σ H δ->∀ds,α δ=some ds->∀Q:List V->Hp->Prop,(∀vs H',Same H H'->RepQL G.1 av A H' q ds vs->Q vs H')->ta σ H Q
section
variable{cA:Kn}{G:Cn}{ow:List Nat}
theorem RepQL.same{av:Addr->Prop}{A:Nat->Option Addr}{H H':Hp}{q:Ql}(k:Same H H'):∀{xs:List D}{vs:List V},RepQL cA av A H q xs vs->RepQL cA av A H' q xs vs
 | [],_,h=>h
 |x::xs,vs,h=>by
  obtain⟨v,r,e,h1,h2⟩:=h;exact⟨v,r,e,h1.same k,RepQL.same k h2⟩
theorem RepQL.cl{av:Addr->Prop}{A:Nat->Option Addr}{H:Hp}:∀{xs:List D}{vs:List V},RepQL cA av A H .cl xs vs->RepL cA (AV av A) H xs vs
 | [],_,h=>by unfold RepL;exact h
 |x::xs,vs,h=>by
  obtain⟨v,r,e,h1,h2⟩:=h;subst e;exact .cons (RepT.r h1) (RepQL.cl h2)
theorem RepQL.any{av:Addr->Prop}{A:Nat->Option Addr}{H:Hp}{q:Ql}:∀{xs:List D}{vs:List V},RepQL cA av A H q xs vs->RepL cA av H xs vs
 | [],_,h=>by unfold RepL;exact h
 |x::xs,vs,h=>by
  obtain⟨v,r,e,h1,h2⟩:=h;subst e;exact .cons h1.any (RepQL.any h2)
theorem VE.dt{te:TE}{q:Ql}{ε:Env->Option D}(h:VE G ow te q ε):VE G ow te .dt ε:=λH0 av A σ H δ E d e Q k=>
 h H0 av A σ H δ E d e Q λv H' s r=>k v H' s r.any.t
theorem ZT{H:Hp}{p:Addr}{o:HO}(h:H p=none):Same H (upd H p o):=ZdC h
theorem VF.cl{te:TE}{ε:Env->Option D}(h:VF G ow te ε):VE G ow te .cl ε:=λH0 av A σ H δ E d e Q k=>
 h H0 av A σ H δ E d e Q λp vs xs H1 s hp l hd=>by
  subst hd;refine k _ _ (s.trans (ZT hp)) ⟨p,vs,rfl,λz=>((E.mono s).avl p z hp).elim,SqL.of ZS,l.same (ZT hp)⟩
def Za(i:Nat)(δ:Env):Option D:=match δ[i]? with
 |some (some d)=>some d
 |_=>none
theorem VL{i:Nat}{δ:Env}{d:D}(h:Za i δ=some d):δ[i]? = some (some d):=by
 unfold Za at h;cases e:δ[i]? with
 |none=>rw [e]at h;cases h
 |some o=>
  rw [e]at h;cases o with
  |none=>cases h
  |some x=>exact congrArg (some∘some) (Option.some.inj h)
theorem Zd(i:Nat)(hi:(ow.contains i)=false):VE G ow (Vz i) .cl (Za i):=λH0 av A σ H δ E d e Q k=>by
 obtain⟨v,h1,h2,_⟩:=E.var i d (VL e)
 have hn:A i=none:=by
  cases q:A i with
  |none=>rfl
  |some a=>
   have:=E.dom i (by rw [q];exact λz=>by cases z);simp at hi;exact absurd this hi
 exact⟨v,h1,k v H (Same.refl H) (h2 hn).t⟩
def eC(d:D)(_:Env):Option D:=some d
theorem Zj{v:V}{d:D}(hs:ZK d=true)(hv:v=val d):VE G ow (tC v) .cl (eC d):=λH0 av A σ H δ E d' e Q k=>by
 have e':d=d':=Option.some.inj e;subst e' hv;exact k _ H (Same.refl H) (Rep.of_val hs).t
def Xa(cA:Kn)(r:R2)(f:D->D->Option D):Prop:=
 ∀(t t' i:Addr->Prop)(H:Hp)(x y:D)(vx vy:V)(d:D),(∀a,i a->H a≠none)->RepT cA t i H x vx->RepT cA t' i H y vy->f x y=some d->∀Q:VK,(∀v H',Same H H'->Rep cA i H' d v->Q v H')->r vx vy H Q
def eOp(f:D->D->Option D)(a b:Env->Option D)(δ:Env):Option D:=match a δ with
 |some x=>match b δ with
  |some y=>f x y
  |none=>none
 |none=>none
theorem Zbx{f:D->D->Option D}{a b:Env->Option D}{δ:Env}{d:D}(h:eOp f a b δ=some d):∃x y,a δ=some x/\b δ=some y/\f x y=some d:=by
 unfold eOp at h;cases ea:a δ with
 |none=>rw [ea]at h;cases h
 |some x=>
  rw [ea]at h;cases eb:b δ with
  |none=>rw [eb]at h;cases h
  |some y=>rw [eb]at h;exact⟨x,y,rfl,rfl,h⟩
def Ql.jn:Ql->Ql->Ql
 | .dt,_ => .dt
 |_,.dt => .dt
 |_,_ => .cl
theorem Zl{r:R2}{f:D->D->Option D}{ta tb:TE}{qa qb:Ql}{a b:Env->Option D}(hr:Xa G.1 r f)(ha:VE G ow ta qa a)(hb:VE G ow tb qb b):VE G ow (tOp r ta tb) (qa.jn qb) (eOp f a b):=λH0 av A σ H δ E d e Q k=>by
 obtain⟨x,y,ex,ey,ed⟩:=Zbx e;refine ha H0 av A σ H δ E x ex _ λvx H1 s1 r1=>hb H0 av A σ H1 δ (E.mono s1) y ey _ λvy H2 s2 r2 => ?_
 have E2:=(E.mono s1).mono s2;have r1':=(r1.same s2).tp;have r2':=r2.tp;have key:∀i:Addr->Prop,(∀a,i a->H2 a≠none)->RepT G.1 av i H2 x vx->RepT G.1 av i H2 y vy->(∀v H',Same H2 H'->Rep G.1 i H' d v->Q v H')->r vx vy H2 Q:=λi hi h1 h2 h3=>hr av av i H2 x y vx vy d hi h1 h2 ed Q h3
 have toav:∀{dd:D}{v:V},RepT G.1 av (AV av A) H2 dd v->RepT G.1 av av H2 dd v:=λh=>h.weak (λa z=>z) λa => .inl
 cases qa with
 |dt=>
  refine key av E2.avH r1' ?_ λv H' s3 r3=>k v H' ((s1.trans s2).trans s3) r3.t
  cases qb with
  |dt=>exact r2'
  |cl=>exact toav r2'
  |tp=>exact toav r2'
 |cl=>
  cases qb with
  |dt=>exact key av E2.avH (toav r1') r2' λv H' s3 r3=>k v H' ((s1.trans s2).trans s3) r3.t
  |cl=>exact key _ E2.avl r1' r2' λv H' s3 r3=>k v H' ((s1.trans s2).trans s3) r3.t
  |tp=>exact key _ E2.avl r1' r2' λv H' s3 r3=>k v H' ((s1.trans s2).trans s3) r3.t
 |tp=>
  cases qb with
  |dt=>exact key av E2.avH (toav r1') r2' λv H' s3 r3=>k v H' ((s1.trans s2).trans s3) r3.t
  |cl=>exact key _ E2.avl r1' r2' λv H' s3 r3=>k v H' ((s1.trans s2).trans s3) r3.t
  |tp=>exact key _ E2.avl r1' r2' λv H' s3 r3=>k v H' ((s1.trans s2).trans s3) r3.t
end
end DL
namespace DL
open PySem PySem.Spec L2
mutual
def toP:D->PyData
 | .non => .none
 | .bl b => .bool b
 | .int i => .int i
 | .str cs => .str (tx cs)
 | .lst xs => .list (YG xs)
 | .tup xs => .tuple (YG xs)
 | .obj _ _ _ => .dict []
 | .dct _ _ => .dict []
 | .dtt _ _ => .dict []
def YG:List D->List PyData
 | []=>[]
 |x::xs=>toP x::YG xs
end
section
variable{X:Cx}{cA:Kn}
mutual
theorem UY{pins:List (Addr×Obj)}{σ:L2.St}{H:Hp}{s:Shared}{av:Addr->Prop}(hK:cA.K=X.K)(I:Inv X pins σ H s):∀(d:D)(v:V)(u:Value),PyData.canLay0 (toP d)=true->Rep cA av H d v->RelV v u->∃as,Reads s.heap u (toP d) as
 | .non,v,u,_,h,r=>by
  cases(show v = .non from h);cases r;exact⟨_,.none⟩
 | .bl b,v,u,_,h,r=>by
  cases(show v = .bl b from h);cases r;exact⟨_,.bool b⟩
 | .int i,v,u,_,h,r=>by
  cases(show v = .int i from h);obtain⟨t,rfl⟩:=r;exact⟨_,.int i t⟩
 | .str cs,v,u,_,h,r=>by
  cases(show v=S cs from h);obtain⟨t,rfl⟩:=r;exact⟨_,.str _ t⟩
 | .lst xs,v,u,c,h,r=>by
  unfold Rep at h;obtain⟨a,vs,rfl,_,rd,l⟩:=h;cases r;obtain⟨its,rv,⟨ob,n,e,hc,hd,hs⟩,z⟩:=I.list (show SqL X.K H a vs from hK▸rd);obtain⟨as,ra⟩:=JN hK I xs vs its (by unfold toP PyData.canLay0 at c;exact c) l rv;unfold toP;exact⟨_,.list e hc hs (by simpa using ra)⟩
 | .tup xs,v,u,c,h,r=>by
  unfold Rep at h;obtain⟨a,vs,rfl,_,rd,l⟩:=h;cases r;obtain⟨z,its,rv,ob,e,hc,⟨n,hd⟩,_⟩:=(show ObjOk X.prog X.w H s.heap a (.tup vs)from I.hok a _ rd)
  obtain⟨as,ra⟩:=JN hK I xs vs its (by unfold toP PyData.canLay0 at c;exact c) l rv;unfold toP;exact⟨_,.tuple e hc hd (by simpa using ra)⟩
 | .obj c' ks xs,v,u,c,h,r=>by
  unfold toP PyData.canLay0 at c;cases c
 | .dct ks xs,v,u,c,h,r=>by
  unfold toP PyData.canLay0 at c;cases c
 | .dtt ks xs,v,u,c,h,r=>by
  unfold toP PyData.canLay0 at c;cases c
theorem JN{pins:List (Addr×Obj)}{σ:L2.St}{H:Hp}{s:Shared}{av:Addr->Prop}(hK:cA.K=X.K)(I:Inv X pins σ H s):∀(xs:List D)(vs:List V)(us:List Value),PyData.canLayAll0 (YG xs)=true->RepL cA av H xs vs->Vals vs us->∃as,ReadsAll s.heap us (YG xs) as
 | [],vs,us,_,h,r=>by
  rw [h.nil_of]at r;cases r;exact⟨_,.nil⟩
 |x::xs,vs,us,c,h,r=>by
  obtain⟨v,rr,rfl,h1,h2⟩:=h.uncons;cases r with
  |cons r1 r2=>
   unfold YG PyData.canLayAll0 at c;rw [Bool.and_eq_true]at c;obtain⟨a1,q1⟩:=UY hK I x v _ c.1 h1 r1;obtain⟨a2,q2⟩:=JN hK I xs rr _ c.2 h2 r2;unfold YG;exact⟨_,.cons q1 q2⟩
end
end
def eqD(x y:D):Option D:=
 if ZK x&&ZK y&&XJ (val x) (val y)then some (.bl (decide (val x=val y)))
 else if SeqAt.shaped (toP x)&&SeqAt.shaped (toP y)then some (.bl (PyData.eqv (toP x) (toP y)))else none
def neD(x y:D):Option D:=match eqD x y with
 |some (.bl b)=>some (.bl (!b))
 |_=>none
def Qw(cA:Kn)(neg:Bool):R2:=λx y H Q=>∃av av' dx dy b,Rep cA av H dx x/\Rep cA av' H dy y/\eqD dx dy=some (.bl b)/\Q (.bl (neg != b)) H
section
variable{X:Cx}{cA:Kn}
theorem JO(hu:X.A.units+64<cLine)(hK:cA.K=X.K:=by rfl):OpR X (compareOp .Eq) (Qw cA false):=by
 intro pins s σ H x y v u Q I rx ry h;obtain⟨av,av',dx,dy,b,hx,hy,e,q⟩:=h;unfold eqD at e
 by_cases h1:(ZK dx&&ZK dy&&XJ (val dx) (val dy))=true
 · rw [if_pos h1]at e
   simp only [Bool.and_eq_true]at h1;obtain⟨⟨s1,s2⟩,s3⟩:=h1;have e1:=hx.val s1;have e2:=hy.val s2;subst e1 e2;have e':decide (val dx=val dy)=b:=by simpa using e
   exact ZgB pins s σ H _ _ v u Q I rx ry ⟨s3,by rw [e'];simpa using q⟩
 · rw [if_neg h1]at e
   by_cases h2:(SeqAt.shaped (toP dx)&&SeqAt.shaped (toP dy))=true
   · rw [if_pos h2]at e
     rw [Bool.and_eq_true]at h2;obtain⟨as,ra⟩:=UY hK I dx x v (SeqAt.canLay_of_shaped h2.1) hx rx;obtain⟨bs,rb⟩:=UY hK I dy y u (SeqAt.canLay_of_shaped h2.2) hy ry;have e':PyData.eqv (toP dx) (toP dy)=b:=by simpa using e
     exact PyProof.Rows.eq_dataH ra rb h2.1 h2.2 hu (by rw [e'];exact⟨.bl b,H,I,rfl,by simpa using q⟩)
   · rw [if_neg h2]at e
     cases e
theorem Xz(hu:X.A.units+64<cLine)(hK:cA.K=X.K:=by rfl):OpR X (compareOp .NotEq) (Qw cA true):=by
 intro pins s σ H x y v u Q I rx ry h;obtain⟨av,av',dx,dy,b,hx,hy,e,q⟩:=h;unfold eqD at e
 by_cases h1:(ZK dx&&ZK dy&&XJ (val dx) (val dy))=true
 · rw [if_pos h1]at e
   simp only [Bool.and_eq_true]at h1;obtain⟨⟨s1,s2⟩,s3⟩:=h1;have e1:=hx.val s1;have e2:=hy.val s2;subst e1 e2;have e':decide (val dx=val dy)=b:=by simpa using e
   exact ZgC pins s σ H _ _ v u Q I rx ry ⟨s3,by rw [e'];simpa using q⟩
 · rw [if_neg h1]at e
   by_cases h2:(SeqAt.shaped (toP dx)&&SeqAt.shaped (toP dy))=true
   · rw [if_pos h2]at e
     rw [Bool.and_eq_true]at h2;obtain⟨as,ra⟩:=UY hK I dx x v (SeqAt.canLay_of_shaped h2.1) hx rx;obtain⟨bs,rb⟩:=UY hK I dy y u (SeqAt.canLay_of_shaped h2.2) hy ry;have e':PyData.eqv (toP dx) (toP dy)=b:=by simpa using e
     exact PyProof.Rows.ne_dataH ra rb h2.1 h2.2 hu (by rw [e'];exact⟨.bl (!b),H,I,rfl,by simpa using q⟩)
   · rw [if_neg h2]at e
     cases e
theorem RepT.av0{t i:Addr->Prop}{H:Hp}{d:D}{v:V}(h:RepT cA t i H d v):Rep cA (λ_=>False) H d v:=(h.weak (λ_ z=>z.elim) λ_ z=>z.elim).r
theorem Zd9{x y d:D}(h:eqD x y=some d):∃b,d = .bl b:=by
 unfold eqD at h
 split at h
 · exact⟨_,(Option.some.inj h).symm⟩
 · split at h
   · exact⟨_,(Option.some.inj h).symm⟩
   · cases h
theorem JP:Xa cA (Qw cA false) eqD:=λt t' i H x y vx vy d _ hx hy e Q k=>by
 obtain⟨b,rfl⟩:=Zd9 e;exact⟨_,_,x,y,b,hx.av0,hy.av0,e,k _ H (Same.refl H) (by cases b<;>rfl)⟩
theorem XA:Xa cA (Qw cA true) neD:=λt t' i H x y vx vy d _ hx hy e Q k=>by
 unfold neD at e;cases he:eqD x y with
 |none=>rw [he]at e;cases e
 |some z=>
  obtain⟨b,rfl⟩:=Zd9 he;rw [he]at e;have e':D.bl (!b)=d:=Option.some.inj e;subst e';exact⟨_,_,x,y,b,hx.av0,hy.av0,he,k _ H (Same.refl H) (by cases b<;>rfl)⟩
def VM(x:List Nat)(n:Int):List Nat:=(List.replicate n.toNat x).flatten
theorem ZaV(x:List Nat):∀(k:Nat)(acc:Array Nat),(List.replicate k x.toArray).foldl (· ++ ·) acc=acc++(List.replicate k x).flatten.toArray
 |0,acc=>by simp
 |k+1,acc=>by
  rw [List.replicate_succ,List.replicate_succ,List.foldl_cons,ZaV x k,List.flatten_cons];simp
theorem Zf9(x:List Nat)(n:Int):Txt.mul (tx x) n=tx (VM x n):=by
 unfold Txt.mul VM
 by_cases h1:n<1
 · rw [if_pos h1]
   have:n.toNat=0:=by omega
   rw [this];rfl
 · rw [if_neg h1]
   by_cases h2:(n == 1||(tx x).length == 0)=true
   · rw [if_pos h2]
     rw [Bool.or_eq_true]at h2;rcases h2 with h2|h2
     · have:n=1:=by simpa using h2
       subst this;simp
     · have : x = [] := by
        have:(tx x).length=0:=by simpa using h2
        rw [Yh]at this;exact List.eq_nil_of_length_eq_zero this
       subst this;simp
   · rw [if_neg h2]
     have:=ZaV x n.toNat #[];rw [this];simp
def rMulS:R2:=λx y H Q=>∃a n,x=S a/\y = .int n/\(n<2 ^ 63 /\ -(2 ^ 63)<=n/\a.length*n.toNat<=sizeLine)/\Q (S (VM a n)) H
theorem op_mulS:OpR X (binaryOp .Mult) rMulS:=by
 intro pins s σ H x y v u Q I rx ry h;obtain⟨a,n,rfl,rfl,⟨h1,h2,h3⟩,q⟩:=h;obtain⟨t,rfl⟩:=rx;obtain⟨t',rfl⟩:=ry;refine SB.mul ⟨?_,λhn hc => ?_,λhn hc => ?_⟩ λt' k=>⟨S (VM a n),H,I.tok _,⟨_,by rw [Zf9]⟩,q⟩
 · have e1:decide (n < -(2 ^ 63:Int))=false:=decide_eq_false (by omega)
   have e2:decide (n ≥ 2 ^ 63)=false:=decide_eq_false (by omega);rw [e1,e2];rfl
 · rw [Yh]
   have hs:sizeLine=16777216:=sizeLine_eq;intro hgt
   have h5:(a.length:Int)*n<=16777216:=by
    have:(a.length:Int)*n=((a.length*n.toNat:Nat):Int):=by
     rw [Int.natCast_mul,Int.toNat_of_nonneg (by omega)]
    rw [this];omega
   have h6:(2 ^ 63-1) / n<(a.length:Int):=hgt
   have h7:(2 ^ 63-1:Int)<(a.length:Int)*n:=by
    have:=Int.lt_mul_of_ediv_lt (show(0:Int)<n by omega) h6;rw [Int.mul_comm];rw [Int.mul_comm]at this;exact this
   omega
 · rw [Yh]
   show decide (a.length*n.toNat>sizeLine)=false;exact decide_eq_false (by omega)
instance (i j:Int):Decidable (CMul i j):=by unfold CMul;infer_instance
instance (i j:Int):Decidable (UR i j):=by unfold UR;infer_instance
def addD:D->D->Option D
 | .int i,.int j=>some (.int (i+j))
 | .str a,.str b=>if a.length+b.length<=sizeLine then some (.str (a++b))else none
 |_,_=>none
def subD:D->D->Option D
 | .int i,.int j=>some (.int (i-j))
 |_,_=>none
def ZhX:D->D->Option D
 | .int i,.int j=>if CMul i j then some (.int (i*j))else none
 | .str a,.int n=>if n<2 ^ 63 /\ -(2 ^ 63)<=n/\a.length*n.toNat<=sizeLine then some (.str (VM a n))else none
 |_,_=>none
def Zfx:D->D->Option D
 | .int i,.int j=>if UR i j then some (.int (i / j))else none
 |_,_=>none
def ZhY:D->D->Option D
 | .int i,.int j=>if 0<j then some (.int (i % j))else none
 |_,_=>none
def YL(p:Int->Int->Bool):D->D->Option D
 | .int i,.int j=>some (.bl (p i j))
 |_,_=>none
theorem Zga:Xa cA ZgI addD:=λt t' i H x y vx vy d _ hx hy e Q k=>by
 cases x<;>cases y<;>first|(cases e;done)|skip
 · cases(show vx=_ from hx);cases(show vy=_ from hy)
   cases e;exact .inl ⟨_,_,rfl,rfl,k _ H (Same.refl H) rfl⟩
 · cases(show vx=_ from hx);cases(show vy=_ from hy)
   rename_i a b;dsimp only [addD]at e
   by_cases hz:a.length+b.length<=sizeLine
   · rw [if_pos hz]at e
     cases e;exact .inr (.inl ⟨_,_,rfl,rfl,hz,k _ H (Same.refl H) rfl⟩)
   · rw [if_neg hz]at e;cases e
theorem Zea:Xa cA (rI0 λi j => .int (i-j)) subD:=λt t' i H x y vx vy d _ hx hy e Q k=>by
 cases x<;>cases y<;>first|(cases e;done)|skip
 cases(show vx=_ from hx);cases(show vy=_ from hy);cases e;exact⟨_,_,rfl,rfl,k _ H (Same.refl H) rfl⟩
theorem VN{p:Int->Int->Bool}:Xa cA (rI0 λi j => .bl (p i j)) (YL p):=λt t' i H x y vx vy d _ hx hy e Q k=>by
 cases x<;>cases y<;>first|(cases e;done)|skip
 cases(show vx=_ from hx);cases(show vy=_ from hy);cases e;exact⟨_,_,rfl,rfl,k _ H (Same.refl H) rfl⟩
def inD(neg:Bool):D->D->Option D
 | .str [c],.str b=>some (.bl (neg != decide (c∈b)))
 |x,.lst ys=>if ZK x&&ys.all ZK then some (.bl (if neg then !(inV (val x) (ys.map val))else inV (val x) (ys.map val)))else none
 |x,.tup ys=>if ZK x&&ys.all ZK then some (.bl (if neg then !(inV (val x) (ys.map val))else inV (val x) (ys.map val)))else none
 |_,_=>none
theorem JQ{d:D}:ZK d=true->XM (val d)=true:=by
 intro h;cases d<;>first|rfl|cases h
theorem JR:∀{xs:List D},xs.all ZK=true->(xs.map val).all XM=true
 | [],_=>rfl
 |x::xs,h=>by
  rw [List.all_cons,Bool.and_eq_true]at h;rw [List.map_cons,List.all_cons,JQ h.1,JR h.2];rfl
theorem ZeG{t i:Addr->Prop}{H:Hp}{d:D}{v:V}(hs:ZK d=true)(h:RepT cA t i H d v):v=val d:=by
 cases d<;>first|exact h|cases hs
theorem Qx{neg:Bool}:Xa cA (Qt cA.K neg) (inD neg):=λt t' i H x y vx vy d _ hx hy e Q k=>by
 have seq:∀ys,(y = .lst ys\/y = .tup ys)->(if ZK x&&ys.all ZK then some (D.bl (if neg then !(inV (val x) (ys.map val))else inV (val x) (ys.map val)))else none)=some d->Qt cA.K neg vx vy H Q:=λys hy' e=>by
  by_cases hz:(ZK x&&ys.all ZK)=true
  · rw [if_pos hz]at e
    rw [Bool.and_eq_true]at hz;have ex:=ZeG hz.1 hx;subst ex;cases e;rcases hy' with rfl|rfl
    · obtain⟨a,vs,rfl,_,rd,l⟩:=hy
      have ev:=l.vals hz.2;subst ev;exact .inr ⟨a,_,rfl,.inl rd,JQ hz.1,JR hz.2,k _ H (Same.refl H) rfl⟩
    · obtain⟨a,vs,rfl,_,rd,l⟩:=hy
      have ev:=l.vals hz.2;subst ev;exact .inr ⟨a,_,rfl,.inr (SqT.of rd),JQ hz.1,JR hz.2,k _ H (Same.refl H) rfl⟩
  · rw [if_neg hz]at e;cases e
 cases y with
 |lst ys=>exact seq ys (.inl rfl) (by cases x<;>first|exact e|(rename_i cs;cases cs<;>first|exact e|(rename_i c r;cases r<;>exact e)))
 |tup ys=>exact seq ys (.inr rfl) (by cases x<;>first|exact e|(rename_i cs;cases cs<;>first|exact e|(rename_i c r;cases r<;>exact e)))
 |str b=>
  cases x with
  |str cs=>
   cases cs with
   |nil=>cases e
   |cons c r=>
    cases r with
    |cons _ _=>cases e
    |nil=>
     cases(show vx=_ from hx);cases(show vy=_ from hy);cases e;exact .inl ⟨c,b,rfl,rfl,k _ H (Same.refl H) rfl⟩
  |_=>cases e
 |_=>cases x<;>first|(cases e;done)|(rename_i cs;cases cs<;>first|(cases e;done)|(rename_i c r;cases r<;>cases e))
def ixD:D->D->Option D
 | .lst xs,.int i=>atI xs i
 | .tup xs,.int i=>atI xs i
 | .str cs,.int i=>if cs.length<=sizeLine then(atI cs i).map λc => .str [c]else none
 |_,_=>none
theorem Zct{av:Addr->Prop}{H:Hp}{xs:List D}{vs:List V}{i:Int}{d:D}(l:RepL cA av H xs vs)(h:atI xs i=some d):∃v,atI vs i=some v/\Rep cA av H d v:=by
 unfold atI at h ⊢;rw [l.length]at h;cases e:ixN vs.length i with
 |none=>rw [e]at h;cases h
 |some j=>
  rw [e]at h;exact l.get h
theorem ZD:Xa cA (VH cA.K) ixD:=λt t' i H x y vx vy d _ hx hy e Q k=>by
 cases y<;>first|(cases x<;>cases e;done)|skip
 rename_i j;cases(show vy=_ from hy);cases x<;>first|(cases e;done)|skip
 · cases(show vx=_ from hx)
   rename_i cs;dsimp only [ixD]at e
   by_cases hz:cs.length<=sizeLine
   · rw [if_pos hz]at e
     cases ea:atI cs j with
     |none=>rw [ea]at e;cases e
     |some c=>
      rw [ea]at e;cases e;exact .inr (.inr ⟨cs,j,c,rfl,rfl,hz,ea,k _ H (Same.refl H) rfl⟩)
   · rw [if_neg hz]at e;cases e
 · obtain⟨a,vs,rfl,_,rd,l⟩:=hx
   obtain⟨v,h1,h2⟩:=Zct l e;exact .inl ⟨a,vs,j,v,rfl,rfl,rd,h1,k v H (Same.refl H) h2⟩
 · obtain⟨a,vs,rfl,_,rd,l⟩:=hx
   obtain⟨v,h1,h2⟩:=Zct l e;exact .inr (.inl ⟨a,vs,j,v,rfl,rfl,SqT.of rd,h1,k v H (Same.refl H) h2⟩)
end
end DL
namespace DL
open PySem PySem.Spec L2
section
variable{cA:Kn}{G:Cn}{ow:List Nat}
def bD:Option D->Option Bool
 |some (.bl b)=>some b
 |_=>none
theorem Zcu{o:Option D}{b:Bool}(h:bD o=some b):o=some (.bl b):=by
 cases o with
 |none=>cases h
 |some d=>cases d<;>first|(cases h;rfl)|cases h
def xB(ε:Env->Option D)(δ:Env):Option Bool:=bD (ε δ)
theorem Yq{te:TE}{q:Ql}{ε:Env->Option D}(h:VE G ow te q ε):VT G ow (tB te) (xB ε):=λH0 av A σ H δ E b e Q k=>
 h H0 av A σ H δ E _ (Zcu e) _ λv H' s r=>⟨b,by cases q<;>exact r,k H' s⟩
theorem Yk{te:TE}{q:Ql}{ε:Env->Option D}(h:VE G ow te q ε):VT G ow (Zfr te) (xB ε):=λH0 av A σ H δ E b e Q k=>
 h H0 av A σ H δ E _ (Zcu e) _ λv H' s r=>⟨b,by cases q<;>exact r,k H' s⟩
def ZW(τ:Env->Option Bool)(δ:Env):Option Bool:=match τ δ with
 |some b=>some (!b)
 |none=>none
theorem Xb{t:TT}{τ:Env->Option Bool}(h:VT G ow t τ):VT G ow (ZhK t) (ZW τ):=λH0 av A σ H δ E b e Q k=>by
 unfold ZW at e;cases he:τ δ with
 |none=>rw [he]at e;cases e
 |some c=>
  rw [he]at e;cases e;exact h H0 av A σ H δ E c he _ λH' s=>k H' s
def Xc(τ υ:Env->Option Bool)(δ:Env):Option Bool:=match τ δ with
 |some true=>υ δ
 |some false=>some false
 |none=>none
def xOr(τ υ:Env->Option Bool)(δ:Env):Option Bool:=match τ δ with
 |some true=>some true
 |some false=>υ δ
 |none=>none
theorem JS{t u:TT}{τ υ:Env->Option Bool}(h:VT G ow t τ)(h':VT G ow u υ):VT G ow (ZhJ t u) (Xc τ υ):=λH0 av A σ H δ E b e Q k=>by
 unfold Xc at e;cases he:τ δ with
 |none=>rw [he]at e;cases e
 |some c=>
  rw [he]at e;refine h H0 av A σ H δ E c he _ λH' s => ?_
  cases c with
  |true=>exact V8 (h' H0 av A σ H' δ (E.mono s) b e _ λH2 s2=>k H2 (s.trans s2))
  |false=>cases e;exact V7 (k H' s)
theorem YR{t u:TT}{τ υ:Env->Option Bool}(h:VT G ow t τ)(h':VT G ow u υ):VT G ow (tOr t u) (xOr τ υ):=λH0 av A σ H δ E b e Q k=>by
 unfold xOr at e;cases he:τ δ with
 |none=>rw [he]at e;cases e
 |some c=>
  rw [he]at e;refine h H0 av A σ H δ E c he _ λH' s => ?_
  cases c with
  |true=>cases e;exact V8 (k H' s)
  |false=>exact V7 (h' H0 av A σ H' δ (E.mono s) b e _ λH2 s2=>k H2 (s.trans s2))
theorem XO:VT G ow tYes (λ_=>some true):=λH0 av A σ H δ E b e Q k=>by
 cases e;exact k H (Same.refl H)
theorem blq{av:Addr->Prop}{A:Nat->Option Addr}{H:Hp}{q:Ql}{b:Bool}:RepQ cA av A H q (.bl b) (.bl b):=by cases q<;>exact rfl
theorem qbl{av:Addr->Prop}{A:Nat->Option Addr}{H:Hp}{q:Ql}{b:Bool}{v:V}(h:RepQ cA av A H q (.bl b) v):v = .bl b:=by cases q<;>exact h
def VP(a b:Env->Option D)(δ:Env):Option D:=match a δ with
 |some (.bl true)=>b δ
 |some (.bl false)=>some (.bl false)
 |_=>none
def eOr(a b:Env->Option D)(δ:Env):Option D:=match a δ with
 |some (.bl true)=>some (.bl true)
 |some (.bl false)=>b δ
 |_=>none
def UC(a:Env->Option D)(δ:Env):Option D:=match a δ with
 |some (.bl b)=>some (.bl (!b))
 |_=>none
theorem Zeb{ta tb:TE}{qa qb:Ql}{a b:Env->Option D}(ha:VE G ow ta qa a)(hb:VE G ow tb qb b):VE G ow (Zfm ta tb) qb (VP a b):=λH0 av A σ H δ E d e Q k=>by
 unfold VP at e;cases he:a δ with
 |none=>rw [he]at e;cases e
 |some x=>
  rw [he]at e;cases x<;>first|(cases e;done)|skip
  rename_i c;refine ha H0 av A σ H δ E _ he _ λv H' s r=>⟨c,qbl r,?_⟩
  cases c with
  |true=>exact V8 (hb H0 av A σ H' δ (E.mono s) d e _ λv2 H2 s2 r2=>k v2 H2 (s.trans s2) r2)
  |false=>cases e;exact V7 (k _ H' s blq)
theorem Zgb{ta:TE}{qa:Ql}{a:Env->Option D}(ha:VE G ow ta qa a):VE G ow (Zfn ta) .cl (UC a):=λH0 av A σ H δ E d e Q k=>by
 unfold UC at e;cases he:a δ with
 |none=>rw [he]at e;cases e
 |some x=>
  rw [he]at e;cases x<;>first|(cases e;done)|skip
  cases e;exact ha H0 av A σ H δ E _ he _ λv H' s r=>⟨_,qbl r,k _ H' s blq⟩
def eIf(τ:Env->Option Bool)(a b:Env->Option D)(δ:Env):Option D:=match τ δ with
 |some true=>a δ
 |some false=>b δ
 |none=>none
theorem Ua{t:TT}{ta tb:TE}{q:Ql}{τ:Env->Option Bool}{a b:Env->Option D}(ht:VT G ow t τ)(ha:VE G ow ta q a)(hb:VE G ow tb q b):VE G ow (tIf t ta tb) q (eIf τ a b):=λH0 av A σ H δ E d e Q k=>by
 unfold eIf at e;cases he:τ δ with
 |none=>rw [he]at e;cases e
 |some c=>
  rw [he]at e;refine ht H0 av A σ H δ E c he _ λH' s => ?_
  cases c with
  |true=>exact V8 (ha H0 av A σ H' δ (E.mono s) d e _ λv H2 s2 r=>k v H2 (s.trans s2) r)
  |false=>exact V7 (hb H0 av A σ H' δ (E.mono s) d e _ λv H2 s2 r=>k v H2 (s.trans s2) r)
def Ub:D->Bool
 | .non=>true
 |_=>false
theorem Zcv{av:Addr->Prop}{H:Hp}{d:D}{v:V}(h:Rep cA av H d v):decide (v = .non)=Ub d:=by
 cases d with
 |non=>cases(show v=_ from h);rfl
 |bl b=>cases(show v=_ from h);rfl
 |int i=>cases(show v=_ from h);rfl
 |str cs=>cases(show v=_ from h);rfl
 |lst xs=>unfold Rep at h;obtain⟨a,vs,rfl,_⟩:=h;rfl
 |tup xs=>unfold Rep at h;obtain⟨a,vs,rfl,_⟩:=h;rfl
 |obj c ks xs=>unfold Rep at h;obtain⟨a,dx,vs,rfl,_⟩:=h;rfl
 |dct ks xs=>unfold Rep at h;obtain⟨a,vs,rfl,_⟩:=h;rfl
 |dtt ks xs=>unfold Rep at h;obtain⟨a,vs,rfl,_⟩:=h;rfl
def YH(a:Env->Option D)(δ:Env):Option D:=match a δ with
 |some d=>some (.bl (Ub d))
 |none=>none
def XB(a:Env->Option D)(δ:Env):Option D:=match a δ with
 |some d=>some (.bl (!Ub d))
 |none=>none
theorem UD{ta:TE}{qa:Ql}{a:Env->Option D}(ha:VE G ow ta qa a):VE G ow (ZhI ta) .cl (YH a):=λH0 av A σ H δ E d e Q k=>by
 unfold YH at e;cases he:a δ with
 |none=>rw [he]at e;cases e
 |some x=>
  rw [he]at e;cases e;refine ha H0 av A σ H δ E _ he _ λv H' s r => ?_
  rw [Zcv r.any];exact k _ H' s blq
theorem Zcw{ta:TE}{qa:Ql}{a:Env->Option D}(ha:VE G ow ta qa a):VE G ow (Zfl ta) .cl (XB a):=λH0 av A σ H δ E d e Q k=>by
 unfold XB at e;cases he:a δ with
 |none=>rw [he]at e;cases e
 |some x=>
  rw [he]at e;cases e;refine ha H0 av A σ H δ E _ he _ λv H' s r => ?_
  rw [Zcv r.any];exact k _ H' s blq
def Zec(f g:D->D->Option D)(a b c:Env->Option D)(δ:Env):Option D:=match eOp f a b δ with
 |some (.bl true)=>eOp g b c δ
 |some (.bl false)=>some (.bl false)
 |_=>none
def ZhZ:D->Option D
 | .int i=>some (.int (-i))
 |_=>none
def eUn(f:D->Option D)(a:Env->Option D)(δ:Env):Option D:=match a δ with
 |some x=>f x
 |none=>none
def eNil(_:Env):Option (List D):=some []
def Zb(a:Env->Option D)(r:Env->Option (List D))(δ:Env):Option (List D):=match a δ with
 |some x=>match r δ with
  |some xs=>some (x::xs)
  |none=>none
 |none=>none
theorem Zk{q:Ql}:VA G ow tNil q eNil:=λH0 av A σ H δ E ds e Q k=>by
 cases e;exact k [] H (Same.refl H) rfl
theorem Ze{te:TE}{ta:TA}{q:Ql}{a:Env->Option D}{r:Env->Option (List D)}(ha:VE G ow te q a)(hr:VA G ow ta q r):VA G ow (Xn te ta) q (Zb a r):=λH0 av A σ H δ E ds e Q k=>by
 unfold Zb at e;cases he:a δ with
 |none=>rw [he]at e;cases e
 |some x=>
  rw [he]at e;cases hr':r δ with
  |none=>rw [hr']at e;cases e
  |some xs=>
   rw [hr']at e;cases e;exact ha H0 av A σ H δ E x he _ λv H1 s1 r1=>hr H0 av A σ H1 δ (E.mono s1) xs hr' _ λvs H2 s2 r2=>k _ H2 (s1.trans s2) ⟨v,vs,rfl,r1.same s2,r2⟩
theorem RepQL.length{av:Addr->Prop}{A:Nat->Option Addr}{H:Hp}{q:Ql}{xs:List D}{vs:List V}(h:RepQL cA av A H q xs vs):xs.length=vs.length:=h.any.length
def ZU(α:Env->Option (List D))(δ:Env):Option D:=match α δ with
 |some xs=>if xs.length<=sizeLine then some (.lst xs)else none
 |none=>none
theorem Xd{t:TA}{α:Env->Option (List D)}(h:VA G ow t .cl α):VF G ow (ZhR t) (ZU α):=λH0 av A σ H δ E d e Q k=>by
 unfold ZU at e;cases he:α δ with
 |none=>rw [he]at e;cases e
 |some xs=>
  rw [he]at e
  by_cases hz:xs.length<=sizeLine
  · have e':D.lst xs=d:=by simpa [hz]using e
    exact h H0 av A σ H δ E xs he _ λvs H1 s1 r1=>⟨by rw [<-r1.length];exact hz,λp hp=>k p vs xs H1 s1 hp r1.cl e'.symm⟩
  · simp [hz]at e
def YY(α:Env->Option (List D))(δ:Env):Option D:=match α δ with
 |some xs=>if xs.length<=sizeLine then some (.tup xs)else none
 |none=>none
theorem Qy{t:TA}{α:Env->Option (List D)}(h:VA G ow t .cl α):VE G ow (Jp t) .cl (YY α):=λH0 av A σ H δ E d e Q k=>by
 unfold YY at e;cases he:α δ with
 |none=>rw [he]at e;cases e
 |some xs=>
  rw [he]at e
  by_cases hz:xs.length<=sizeLine
  · have e':D.tup xs=d:=by simpa [hz]using e
    subst e';refine h H0 av A σ H δ E xs he _ λvs H1 s1 r1=>⟨by rw [<-r1.length];exact hz,λp hp=>k _ _ (s1.trans (ZT hp)) ⟨p,vs,rfl,λz=>(E.mono s1).avl p z hp,ZS,r1.cl.same (ZT hp)⟩⟩
  · simp [hz]at e
def VQ(cA:Kn)(i:Addr->Prop)(H:Hp):List D->List V->Prop
 | [],vs=>vs=[]
 |x::xs,vs=>∃v r,vs=v::r/\(∃t,RepT cA t i H x v)/\VQ cA i H xs r
theorem RepQL.il{av:Addr->Prop}{A:Nat->Option Addr}{H:Hp}{q:Ql}:∀{xs:List D}{vs:List V},RepQL cA av A H q xs vs->VQ cA (q.iv av A) H xs vs
 | [],_,h=>h
 |x::xs,vs,h=>by
  obtain⟨v,r,e,h1,h2⟩:=h;exact⟨v,r,e,⟨_,h1.tp⟩,RepQL.il h2⟩
def UZ(cA:Kn)(r:List V->Hp->VK->Prop)(f:List D->Option D):Prop:=
 ∀(i:Addr->Prop)(H:Hp)(ds:List D)(vs:List V)(d:D),(∀a,i a->H a≠none)->VQ cA i H ds vs->f ds=some d->∀Q:VK,(∀v H',Same H H'->Rep cA i H' d v->Q v H')->r vs H Q
def eCB(f:List D->Option D)(α:Env->Option (List D))(δ:Env):Option D:=match α δ with
 |some ds=>f ds
 |none=>none
theorem ZX{r:List V->Hp->VK->Prop}{f:List D->Option D}{t:TA}{q:Ql}{α:Env->Option (List D)}(hr:UZ G.1 r f)(h:VA G ow t q α):VE G ow (tCB r t) q.it (eCB f α):=λH0 av A σ H δ E d e Q k=>by
 unfold eCB at e;cases he:α δ with
 |none=>rw [he]at e;cases e
 |some ds=>
  rw [he]at e;refine h H0 av A σ H δ E ds he _ λvs H1 s1 r1 => ?_
  have E1:=E.mono s1;cases q with
  |cl=>exact hr _ H1 ds vs d E1.avl r1.il e _ λv H' s r=>k v H' (s1.trans s) r.t
  |tp=>exact hr _ H1 ds vs d E1.avl r1.il e _ λv H' s r=>k v H' (s1.trans s) r.t
  |dt=>exact hr _ H1 ds vs d E1.avH r1.il e _ λv H' s r=>k v H' (s1.trans s) r.t
theorem il1{i:Addr->Prop}{H:Hp}{x:D}{vs:List V}(h:VQ cA i H [x] vs):∃v t,vs=[v]/\RepT cA t i H x v:=by
 obtain⟨v,r,rfl,⟨t,h1⟩,h2⟩:=h;cases(show r=[]from h2);exact⟨v,t,rfl,h1⟩
def lenD:List D->Option D
 | [.str a]=>if a.length<=sizeLine then some (.int a.length)else none
 | [.lst xs]=>some (.int xs.length)
 | [.tup xs]=>some (.int xs.length)
 |_=>none
theorem Yl:UZ cA (JJ cA.K) lenD:=λi H ds vs d _ h e Q k=>by
 cases ds with
 |nil=>cases e
 |cons x r=>
  cases r with
  |cons _ _=>cases x<;>cases e
  |nil=>
   obtain⟨v,t,rfl,hx⟩:=il1 h;cases x<;>first|(cases e;done)|skip
   · rename_i a
     dsimp only [lenD]at e
     by_cases hz:a.length<=sizeLine
     · rw [if_pos hz]at e
       cases e;exact .inl ⟨a,by rw [show v=S a from hx],hz,k _ H (Same.refl H) rfl⟩
     · rw [if_neg hz]at e;cases e
   · obtain⟨a,ws,rfl,_,rd,l⟩:=hx
     cases e;exact .inr ⟨a,ws,rfl,.inl rd,k _ H (Same.refl H) (by rw [l.length];rfl)⟩
   · obtain⟨a,ws,rfl,_,rd,l⟩:=hx
     cases e;exact .inr ⟨a,ws,rfl,.inr (SqT.of rd),k _ H (Same.refl H) (by rw [l.length];rfl)⟩
def Zh0:List D->Option D
 | [.int i,.int j]=>some (.int (if j<i then j else i))
 |_=>none
def Zh1:List D->Option D
 | [.int i,.int j]=>some (.int (if j>i then j else i))
 |_=>none
def VR:List D->Option (List Bool)
 | []=>some []
 | .bl b::r=>match VR r with
  |some bs=>some (b::bs)
  |none=>none
 |_=>none
theorem bools_of:∀{xs:List D}{bs:List Bool},VR xs=some bs->xs=bs.map D.bl
 | [],bs,h=>by cases h;rfl
 |x::xs,bs,h=>by
  cases x<;>first|(cases h;done)|skip
  rename_i b;unfold VR at h;cases hr:VR xs with
  |none=>rw [hr]at h;cases h
  |some cs=>
   rw [hr]at h;cases h;rw [List.map_cons,bools_of hr]
def Uc(f:List Bool->Bool):List D->Option D
 | [.lst xs]=>match VR xs with
  |some bs=>some (.bl (f bs))
  |none=>none
 |_=>none
theorem Zed{f:List Bool->Bool}:UZ cA (JK cA.K f) (Uc f):=λi H ds vs d _ h e Q k=>by
 unfold Uc at e
 split at e
 · rename_i xs
   cases hb:VR xs with
   |none=>rw [hb]at e;cases e
   |some bs=>
    rw [hb]at e;cases e;obtain⟨v,t,rfl,a,ws,rfl,_,rd,l⟩:=il1 h;have ex:=bools_of hb;subst ex;have ev:=l.vals (by rw [List.all_map];exact List.all_eq_true.mpr λ_ _=>rfl);rw [List.map_map]at ev;subst ev;exact⟨a,bs,rfl,rd,k _ H (Same.refl H) rfl⟩
 · cases e
def intD:List D->Option D
 | [.str a]=>if a.length<=640/\a≠[]/\a.all V9=true then some (.int (Uy a:Nat))else none
 | [.bl b]=>some (.int (if b then 1 else 0))
 |_=>none
theorem Zgc:UZ cA rIntX intD:=λi H ds vs d _ h e Q k=>by
 unfold intD at e
 split at e
 · rename_i a
   obtain⟨v,t,rfl,hx⟩:=il1 h;cases(show v=_ from hx)
   by_cases hz:a.length<=640/\a≠[]/\a.all V9=true
   · rw [if_pos hz]at e
     cases e;exact .inl ⟨a,rfl,hz.1,hz.2.1,hz.2.2,k _ H (Same.refl H) rfl⟩
   · rw [if_neg hz]at e;cases e
 · rename_i b
   obtain⟨v,t,rfl,hx⟩:=il1 h;cases(show v=_ from hx);cases e;exact .inr ⟨b,rfl,k _ H (Same.refl H) rfl⟩
 · cases e
def strD:List D->Option D
 | [.int n]=>if 0<=n/\n<10 ^ 10 then some (.str (Zf n.toNat))else none
 |_=>none
theorem UE:UZ cA rStrI strD:=λi H ds vs d _ h e Q k=>by
 unfold strD at e
 split at e
 · rename_i n
   obtain⟨v,t,rfl,hx⟩:=il1 h;cases(show v=_ from hx)
   by_cases hz:0<=n/\n<10 ^ 10
   · rw [if_pos hz]at e
     cases e;exact⟨n.toNat,by rw [Int.toNat_of_nonneg hz.1];rfl,by omega,k _ H (Same.refl H) rfl⟩
   · rw [if_neg hz]at e;cases e
 · cases e
def YS:List D->Option D
 | [.lst xs]=>some (.tup xs)
 | [.tup xs]=>some (.tup xs)
 |_=>none
def Zfy:List D->Option D
 | [.lst xs]=>some (.lst xs)
 | [.tup xs]=>some (.lst xs)
 |_=>none
theorem U0{t:TA}{α:Env->Option (List D)}(h:VA G ow t .cl α):VE G ow (tCB (Zd8 G.1.K) t) .cl (eCB YS α):=λH0 av A σ H δ E d e Q k=>by
 unfold eCB at e;cases he:α δ with
 |none=>rw [he]at e;cases e
 |some ds=>
  rw [he]at e;refine h H0 av A σ H δ E ds he _ λvs H1 s1 r1 => ?_
  have E1:=E.mono s1;have e:YS ds=some d:=e;unfold YS at e
  split at e
  · rename_i xs
    cases e;obtain⟨v,r,rfl,⟨a,ws,rfl,_,rd,l⟩,h2⟩:=r1;cases(show r=[]from h2);exact⟨a,ws,rfl,.inl ⟨rd,λp hp=>k _ _ (s1.trans (ZT hp)) ⟨p,ws,rfl,λz=>E1.avl p z hp,ZS,l.same (ZT hp)⟩⟩⟩
  · rename_i xs
    cases e;obtain⟨v,r,rfl,⟨a,ws,rfl,na,rd,l⟩,h2⟩:=r1;cases(show r=[]from h2);exact⟨a,ws,rfl,.inr ⟨SqT.of rd,k _ H1 s1 ⟨a,ws,rfl,na,rd,l⟩⟩⟩
  · cases e
end
end DL
namespace DL
open PySem PySem.Spec L2
inductive Out where
 |nx (δ:Env)
 |rt (d:D)
 |bk (δ:Env)
 |ct (δ:Env)
def ZgK(G:Cn)(owN owB owC:List Nat)(H0:Hp)(av:Addr->Prop)(De:Ends):Out->Prop
 | .nx δ'=>∀A' σ' H',ER G owN H0 av A' σ' H' δ'->De.nx σ' H'
 | .rt d=>∀v H',Same H0 H'->Rep G.1 av H' d v->De.rt v H'
 | .bk δ'=>∀A' σ' H',ER G owB H0 av A' σ' H' δ'->De.bk σ' H'
 | .ct δ'=>∀A' σ' H',ER G owC H0 av A' σ' H' δ'->De.ct σ' H'
def VS(G:Cn)(ow owN owB owC:List Nat)(ts:TS)(φ:Env->Option Out):Prop:=
 ∀H0 av A σ H δ,ER G ow H0 av A σ H δ->∀o,φ δ=some o->∀De:Ends,ZgK G owN owB owC H0 av De o->ts De σ H
def VG(G:Cn)(ow ow':List Nat)(g:TG)(γ:D->Env->Option Env):Prop:=
 ∀H0 av A σ H δ,ER G ow H0 av A σ H δ->∀d v,Rep G.1 (AV av A) H d v->∀δ',γ d δ=some δ'->∀Q:L2.St->Hp->Prop,(∀A' σ' H',Same H H'->ER G ow' H0 av A' σ' H' δ'->Q σ' H')->g v σ H Q
def sub(a b:List Nat):Bool:=a.all λx=>b.contains x
theorem Qz{a b:List Nat}(h:sub a b=true):∀x∈a,x∈b:=λx hx=>by
 have:=List.all_eq_true.mp h x hx;simpa using this
section
variable{cA:Kn}{G:Cn}{ow owN owB owC ow1 ow2:List Nat}{H0 H H':Hp}{av:Addr->Prop}{A:Nat->Option Addr}{σ:L2.St}{δ:Env}
theorem JT{α:Type}{l:List (Option α)}{i j:Nat}{x y:α}(h:(l.set i (some x))[j]? = some (some y)):(j=i/\y=x/\i<l.length)\/(j≠i/\l[j]? = some (some y)):=by
 by_cases e:j=i
 · subst e
   by_cases hl:j<l.length
   · rw [List.getElem?_set_self hl]at h
     exact .inl ⟨rfl,(Option.some.inj (Option.some.inj h)).symm,hl⟩
   · rw [List.getElem?_eq_none (by simpa using hl)]at h
     cases h
 · rw [List.getElem?_set_ne (Ne.symm e)]at h
   exact .inr ⟨e,h⟩
theorem ER.set{i:Nat}{d:D}{v:V}(E:ER G ow H0 av A σ H δ)(h:Rep G.1 (AV av A) H d v)(hw:∀j,j∈ow1 ↔ j∈ow/\j≠i)(hn:G.2 i=none) :
 ER G ow1 H0 av (λj=>if j=i then none else A j) (σ.set i (some v)) H (δ.set i (some d)):=by
 have less:∀b,AV av (λj=>if j=i then none else A j) b->AV av A b:=λb z=>by
  rcases z with z|⟨j,z⟩
  · exact .inl z
  · by_cases e:j=i
    · simp [e]at z
    · simp [e]at z;exact .inr ⟨j,z⟩
 refine⟨E.same,E.avd,λj a e => ?_,λj k a e1 e2 => ?_,λj a e => ?_,λj e => ?_,λj hj => ?_,by simp [E.len],λj a e=>(by
  have q:j≠i:=λz=>by rw [z,hn]at e;cases e
  simp only [q,if_false];exact E.pin j a e),(λj v' e=>by
  have q:j≠i:=λz=>by rw [z,hn]at e;cases e
  rw [List.getElem?_set_ne (Ne.symm q)];exact E.kept j v' e),λj d' e => ?_⟩
 · by_cases q:j=i
   · simp [q]at e
   · simp [q]at e;exact E.fr j a e
 · by_cases q:j=i
   · simp [q]at e1
   · by_cases q2:k=i
     · simp [q2]at e2
     · simp [q]at e1;simp [q2]at e2;exact E.inj j k a e1 e2
 · by_cases q:j=i
   · simp [q]at e
   · simp [q]at e;exact E.live j a e
 · by_cases q:j=i
   · simp [q]at e
   · simp [q]at e;exact(hw j).mpr ⟨E.dom j e,q⟩
 · obtain⟨h1,h2⟩:=(hw j).mp hj
   simp [h2];exact E.dom' j h1
 · rcases JT e with⟨rfl,rfl,hl⟩|⟨q,e'⟩
   · refine⟨v,?_,λ_=>h.av λb z => .inl (less b z),λa z=>by simp at z⟩
     rw [List.getElem?_set_self (by rw [E.len];exact hl)]
   · obtain⟨v',h1,h2,h3⟩:=E.var j d' e'
     refine⟨v',by rw [List.getElem?_set_ne (Ne.symm q)];exact h1,λz => ?_,λa z => ?_⟩
     · simp [q]at z
       exact(h2 z).av λb z => .inl (less b z)
     · simp [q]at z
       obtain⟨r1,r2⟩:=h3 a z;refine⟨r1,?_⟩;cases d' with
       |lst xs=>obtain⟨vs,q1,q2⟩:=r2;exact⟨vs,q1,q2.av λb z => .inl (less b z)⟩
       |obj c ks xs=>obtain⟨dx,vs,q1,q0,q2⟩:=r2;exact⟨dx,vs,q1,q0,q2.av λb z => .inl (less b z)⟩
       |dct ks xs=>obtain⟨vs,q1,q0,q2⟩:=r2;exact⟨vs,q1,q0,q2.av λb z => .inl (less b z)⟩
       |dtt ks xs=>obtain⟨vs,q1,q0,q2⟩:=r2;exact⟨vs,q1,q0,q2.av λb z => .inl (less b z)⟩
       |_=>exact r2
theorem ER.own{i:Nat}{xs:List D}{vs:List V}{p:Addr}(E:ER G ow H0 av A σ H δ)(hp:H p=none)(l:RepL G.1 (AV av A) H xs vs)(hw:∀j,j∈ow1 ↔ j∈ow\/j=i)(hn:G.2 i=none) :
 ER G ow1 H0 av (λj=>if j=i then some p else A j) (σ.set i (some (.ref p))) (upd H p (.lst vs)) (δ.set i (some (.lst xs))):=by
 have hs:Same H (upd H p (.lst vs)):=ZT hp
 have less:∀b,AV av (λj=>if j=i then some p else A j) b->AV av A b\/H b=none:=λb z=>by
  rcases z with z|⟨j,z⟩
  · exact .inl (.inl z)
  · by_cases e:j=i
    · simp [e]at z;subst z;exact .inr hp
    · simp [e]at z;exact .inl (.inr ⟨j,z⟩)
 have np:∀j a,A j=some a->a≠p:=λj a e z=>by subst z;exact E.live j a e hp
 have h0:H0 p=none:=by
  cases q:H0 p with
  |none=>rfl
  |some o=>rw [E.same p o q]at hp;cases hp
 refine⟨E.same.trans hs,E.avd,λj a e => ?_,λj k a e1 e2 => ?_,λj a e => ?_,λj e => ?_,λj hj => ?_,by simp [E.len],λj a e=>(by
  have q:j≠i:=λz=>by rw [z,hn]at e;cases e
  simp only [q,if_false];exact E.pin j a e),(λj v' e=>by
  have q:j≠i:=λz=>by rw [z,hn]at e;cases e
  rw [List.getElem?_set_ne (Ne.symm q)];exact E.kept j v' e),λj d' e => ?_⟩
 · by_cases q:j=i
   · simp [q]at e;subst e;exact h0
   · simp [q]at e;exact E.fr j a e
 · by_cases q:j=i
   · by_cases q2:k=i
     · rw [q,q2]
     · simp [q]at e1;simp [q2]at e2
       exact absurd e1.symm (np k a e2)
   · by_cases q2:k=i
     · simp [q]at e1;simp [q2]at e2
       exact absurd e2.symm (np j a e1)
     · simp [q]at e1;simp [q2]at e2;exact E.inj j k a e1 e2
 · by_cases q:j=i
   · simp [q]at e;subst e;rw [ZS];exact λz=>by cases z
   · simp [q]at e
     rw [ZF (np j a e)];exact E.live j a e
 · by_cases q:j=i
   · exact(hw j).mpr (.inr q)
   · simp [q]at e;exact(hw j).mpr (.inl (E.dom j e))
 · by_cases q:j=i
   · simp [q]
   · simp [q]
     exact E.dom' j (((hw j).mp hj).resolve_right q)
 · rcases JT e with⟨rfl,rfl,hl⟩|⟨q,e'⟩
   · refine⟨.ref p,?_,λz=>by simp at z,λa z => ?_⟩
     · rw [List.getElem?_set_self (by rw [E.len];exact hl)]
     · simp at z
       subst z;exact⟨rfl,vs,ZS,(l.av less).same hs⟩
   · obtain⟨v',h1,h2,h3⟩:=E.var j d' e'
     refine⟨v',by rw [List.getElem?_set_ne (Ne.symm q)];exact h1,λz => ?_,λa z => ?_⟩
     · simp [q]at z
       exact((h2 z).av less).same hs
     · simp [q]at z
       obtain⟨r1,r2⟩:=h3 a z;refine⟨r1,?_⟩;cases d' with
       |lst xs=>obtain⟨vs',q1,q2⟩:=r2;exact⟨vs',hs _ _ q1,(q2.av less).same hs⟩
       |obj c ks xs=>obtain⟨dx,vs',q1,q0,q2⟩:=r2;exact⟨dx,vs',hs _ _ q1,q0,(q2.av less).same hs⟩
       |dct ks xs=>obtain⟨vs',q1,q0,q2⟩:=r2;exact⟨vs',hs _ _ q1,q0,(q2.av less).same hs⟩
       |dtt ks xs=>obtain⟨vs',q1,q0,q2⟩:=r2;exact⟨vs',hs _ _ q1,q0,(q2.av less).same hs⟩
       |_=>exact r2
theorem ER.put{i:Nat}{a:Addr}{d d':D}(E:ER G ow H0 av A σ H δ)(hi:A i=some a)(hd:δ[i]? = some (some d))(hk:∀b o,b≠a->H b=some o->H' b=some o)(hl:H' a≠none)(ho:Own G.1 (AV av A) H' d' a) :
 ER G ow H0 av A σ H' (δ.set i (some d')):=by
 have kk:∀b o,¬AV av A b->H b=some o->H' b=some o:=λb o n e=>hk b o (λz=>n (.inr ⟨i,by rw [z];exact hi⟩)) e
 refine⟨λb o e=>hk b o (λz => ?_) (E.same b o e),E.avd,E.fr,E.inj,λj b e => ?_,E.dom,E.dom',by simp [E.len],E.pin,E.kept,λj d'' e => ?_⟩
 · rw [z,E.fr i a hi]at e;cases e
 · by_cases q:b=a
   · subst q;exact hl
   · have:=E.live j b e
     cases e':H b with
     |none=>exact absurd e' this
     |some o=>rw [hk b o q e'];exact λz=>by cases z
 · rcases JT e with⟨rfl,rfl,hl'⟩|⟨q,e'⟩
   · obtain⟨v,h1,_,h3⟩:=E.var j d hd
     obtain⟨r1,_⟩:=h3 a hi
     exact⟨v,h1,λz=>(by rw [hi]at z;cases z),λb z=>by
      rw [hi]at z;cases z;exact⟨r1,ho⟩⟩
   · obtain⟨v',h1,h2,h3⟩:=E.var j d'' e'
     refine⟨v',h1,λz=>(h2 z).ext kk,λb z => ?_⟩;obtain⟨r1,r2⟩:=h3 b z;have nb:b≠a:=λw=>q (E.inj j i a (by rw [<-w];exact z) hi)
     refine⟨r1,?_⟩;cases d'' with
     |lst xs=>obtain⟨vs,q1,q2⟩:=r2;exact⟨vs,hk _ _ nb q1,q2.ext kk⟩
     |obj c ks xs=>obtain⟨dx,vs,q1,q0,q2⟩:=r2;exact⟨dx,vs,hk _ _ nb q1,q0,q2.ext kk⟩
     |dct ks xs=>obtain⟨vs,q1,q0,q2⟩:=r2;exact⟨vs,hk _ _ nb q1,q0,q2.ext kk⟩
     |dtt ks xs=>obtain⟨vs,q1,q0,q2⟩:=r2;exact⟨vs,hk _ _ nb q1,q0,q2.ext kk⟩
     |_=>exact r2
theorem ER.freeze(i:Nat)(E:ER G ow H0 av A σ H δ)(hw:∀j,j∈ow1 ↔ j∈ow/\j≠i)(hn:G.2 i=none):ER G ow1 H0 av (λj=>if j=i then none else A j) σ H δ:=by
 have less:∀b,AV av (λj=>if j=i then none else A j) b->AV av A b:=λb z=>by
  rcases z with z|⟨j,z⟩
  · exact .inl z
  · by_cases e:j=i
    · simp [e]at z
    · simp [e]at z;exact .inr ⟨j,z⟩
 refine⟨E.same,E.avd,λj a e => ?_,λj k a e1 e2 => ?_,λj a e => ?_,λj e => ?_,λj hj => ?_,E.len,λj a e=>(by
  have q:j≠i:=λz=>by rw [z,hn]at e;cases e
  simp only [q,if_false];exact E.pin j a e),E.kept,λj d' e => ?_⟩
 · by_cases q:j=i
   · simp [q]at e
   · simp [q]at e;exact E.fr j a e
 · by_cases q:j=i
   · simp [q]at e1
   · by_cases q2:k=i
     · simp [q2]at e2
     · simp [q]at e1;simp [q2]at e2;exact E.inj j k a e1 e2
 · by_cases q:j=i
   · simp [q]at e
   · simp [q]at e;exact E.live j a e
 · by_cases q:j=i
   · simp [q]at e
   · simp [q]at e;exact(hw j).mpr ⟨E.dom j e,q⟩
 · obtain⟨h1,h2⟩:=(hw j).mp hj
   simp [h2];exact E.dom' j h1
 · obtain⟨v',h1,h2,h3⟩:=E.var j d' e
   refine⟨v',h1,λz => ?_,λa z => ?_⟩
   · by_cases q:j=i
     · subst q
       cases hA:A j with
       |none=>exact(h2 hA).av λb z => .inl (less b z)
       |some a=>
        obtain⟨rfl,r2⟩:=h3 a hA
        have na:¬AV av (λk=>if k=j then none else A k) a:=λz=>by
         rcases z with z|⟨k,z⟩
         · exact E.avd a z (E.fr j a hA)
         · by_cases qk:k=j
           · simp [qk]at z
           · simp [qk]at z;exact qk (E.inj k j a z hA)
        cases d' with
        |lst xs=>obtain⟨vs,q1,q2⟩:=r2;unfold Rep;exact⟨a,vs,rfl,λz=>(na z).elim,SqL.of q1,q2.av λb z => .inl (less b z)⟩
        |obj c ks xs=>obtain⟨dx,vs,q1,q0,q2⟩:=r2;unfold Rep;exact⟨a,dx,vs,rfl,na,q1,q0,q2.av λb z => .inl (less b z)⟩
        |dct ks xs=>obtain⟨vs,q1,q0,q2⟩:=r2;unfold Rep;exact⟨a,vs,rfl,na,q1,q0,q2.av λb z => .inl (less b z)⟩
        |dtt ks xs=>obtain⟨vs,q1,q0,q2⟩:=r2;unfold Rep;exact⟨a,vs,rfl,na,q1,q0,q2.av λb z => .inl (less b z)⟩
        |_=>exact False.elim r2
     · simp [q]at z
       exact(h2 z).av λb z => .inl (less b z)
   · by_cases q:j=i
     · simp [q]at z
     · simp [q]at z
       obtain⟨r1,r2⟩:=h3 a z;refine⟨r1,?_⟩;cases d' with
       |lst xs=>obtain⟨vs,q1,q2⟩:=r2;exact⟨vs,q1,q2.av λb z => .inl (less b z)⟩
       |obj c ks xs=>obtain⟨dx,vs,q1,q0,q2⟩:=r2;exact⟨dx,vs,q1,q0,q2.av λb z => .inl (less b z)⟩
       |dct ks xs=>obtain⟨vs,q1,q0,q2⟩:=r2;exact⟨vs,q1,q0,q2.av λb z => .inl (less b z)⟩
       |dtt ks xs=>obtain⟨vs,q1,q0,q2⟩:=r2;exact⟨vs,q1,q0,q2.av λb z => .inl (less b z)⟩
       |_=>exact r2
open Classical in
noncomputable def cut(A:Nat->Option Addr)(H:Hp):Hp:=λb=>if ∃i,A i=some b then none else H b
theorem JU{b:Addr}{o:HO}(h:cut A H b=some o):H b=some o/\¬∃i,A i=some b:=by
 unfold cut at h
 by_cases e:∃i,A i=some b
 · rw [if_pos e]at h;cases h
 · rw [if_neg e]at h;exact⟨h,e⟩
theorem VU{b:Addr}(e:¬∃i,A i=some b):cut A H b=H b:=by
 unfold cut;rw [if_neg e]
theorem ER.cut(E:ER G ow H0 av A σ H δ):ER G ow (DL.cut A H) av A σ H δ:=by
 refine⟨λb o e=>(JU e).1,λa z => ?_,λi a e => ?_,E.inj,E.live,E.dom,E.dom',E.len,E.pin,E.kept,E.var⟩
 · rw [VU λ⟨i,e⟩=>E.avd a z (E.fr i a e)]
   exact E.avH a z
 · unfold DL.cut
   rw [if_pos ⟨i,e⟩]
theorem ER.sub0(E:ER G ow H0 av A σ H δ):Same H0 (DL.cut A H):=λb o e=>by
 rw [VU λ⟨i,z⟩=>by rw [E.fr i b z]at e;cases e];exact E.same b o e
theorem ER.uncut{A':Nat->Option Addr}{σ':L2.St}{δ':Env}(E:ER G ow H0 av A σ H δ)(E':ER G ow1 (DL.cut A H) av A' σ' H' δ'):ER G ow1 H0 av A' σ' H' δ':=
 ⟨E.sub0.trans E'.same,E.avd,λi a e=>E.sub0.free (E'.fr i a e),E'.inj,E'.live,E'.dom,E'.dom',E'.len,E'.pin,E'.kept,E'.var⟩
def sNext(δ:Env):Option Out:=some (.nx δ)
theorem Yx:VS G ow ow owB owC tNext sNext:=λH0 av A σ H δ E o e De k=>by
 cases e;exact k A σ H E
def Zh(φ ψ:Env->Option Out)(δ:Env):Option Out:=match φ δ with
 |some (.nx δ')=>ψ δ'
 |r=>r
theorem Zt{t u:TS}{φ ψ:Env->Option Out}(h1:VS G ow ow1 owB owC t φ)(h2:VS G ow1 owN owB owC u ψ):VS G ow owN owB owC (Uv t u) (Zh φ ψ):=λH0 av A σ H δ E o e De k=>by
 unfold Zh at e;cases he:φ δ with
 |none=>rw [he]at e;cases e
 |some o1=>
  rw [he]at e;refine h1 H0 av A σ H δ E o1 he _ ?_;cases o1 with
  |nx δ'=>exact λA' σ' H' E'=>h2 H0 av A' σ' H' δ' E' o e De k
  |rt d=>cases e;exact k
  |bk δ'=>cases e;exact k
  |ct δ'=>cases e;exact k
def sIf(τ:Env->Option Bool)(φ ψ:Env->Option Out)(δ:Env):Option Out:=match τ δ with
 |some true=>φ δ
 |some false=>ψ δ
 |none=>none
theorem Yy{c:TT}{t u:TS}{τ:Env->Option Bool}{φ ψ:Env->Option Out}(hc:VT G ow c τ)(h1:VS G ow owN owB owC t φ)(h2:VS G ow owN owB owC u ψ):VS G ow owN owB owC (ZhL c t u) (sIf τ φ ψ):=λH0 av A σ H δ E o e De k=>by
 unfold sIf at e;cases he:τ δ with
 |none=>rw [he]at e;cases e
 |some b=>
  rw [he]at e;refine hc H0 av A σ H δ E b he _ λH' s => ?_
  cases b with
  |true=>exact V8 (h1 H0 av A σ H' δ (E.mono s) o e De k)
  |false=>exact V7 (h2 H0 av A σ H' δ (E.mono s) o e De k)
def Zq(ε:Env->Option D)(δ:Env):Option Out:=match ε δ with
 |some d=>some (.rt d)
 |none=>none
theorem ZM{te:TE}{q:Ql}{ε:Env->Option D}(h:VE G ow te q ε):VS G ow owN owB owC (Jf te) (Zq ε):=λH0 av A σ H δ E o e De k=>by
 unfold Zq at e;cases he:ε δ with
 |none=>rw [he]at e;cases e
 |some d=>
  rw [he]at e;cases e;exact h H0 av A σ H δ E d he _ λv H' s r=>k v H' (E.same.trans s) r.any
def Zfz(_:Env):Option Out:=some (.rt .non)
def sNever(_:Env):Option Out:=none
theorem Zby{ts:TS}:VS G ow owN owB owC ts sNever:=λH0 av A σ H δ E o e De k=>by cases e
def Zp(i:Nat)(ε:Env->Option D)(δ:Env):Option Out:=match ε δ with
 |some d=>some (.nx (δ.set i (some d)))
 |none=>none
theorem JV{i:Nat}(h1:sub ow1 ow=true)(h2:ow1.contains i=false)(h3:sub ow (i::ow1)=true):∀j,j∈ow1 ↔ j∈ow/\j≠i:=λj=>by
 constructor
 · intro h
   refine⟨Qz h1 j h,λe => ?_⟩;subst e;have:j∉ow1:=by simpa using h2
   exact this h
 · rintro⟨h,n⟩
   rcases List.mem_cons.mp (Qz h3 j h)with e|e
   · exact absurd e n
   · exact e
theorem ZdD{i:Nat}(h1:sub ow1 (i::ow)=true)(h2:ow1.contains i=true)(h3:sub ow ow1=true):∀j,j∈ow1 ↔ j∈ow\/j=i:=λj=>by
 constructor
 · intro h
   rcases List.mem_cons.mp (Qz h1 j h)with e|e
   · exact .inr e
   · exact .inl e
 · rintro(h|rfl)
   · exact Qz h3 j h
   · simpa using h2
theorem Z1{te:TE}{ε:Env->Option D}(i:Nat)(h:VE G ow te .cl ε)(hn:G.2 i=none)(h1:sub owN ow=true)(h2:owN.contains i=false)(h3:sub ow (i::owN)=true):VS G ow owN owB owC (Va te (X9 i)) (Zp i ε):=λH0 av A σ H δ E o e De k=>by
 unfold Zp at e;cases he:ε δ with
 |none=>rw [he]at e;cases e
 |some d=>
  rw [he]at e;cases e;exact h H0 av A σ H δ E d he _ λv H' s r=>k _ _ H' ((E.mono s).set (RepT.r r) (JV h1 h2 h3) hn)
theorem Ud{te:TE}{ε:Env->Option D}(i:Nat)(h:VF G ow te ε)(hn:G.2 i=none)(h1:sub owN (i::ow)=true)(h2:owN.contains i=true)(h3:sub ow owN=true):VS G ow owN owB owC (Va te (X9 i)) (Zp i ε):=λH0 av A σ H δ E o e De k=>by
 unfold Zp at e;cases he:ε δ with
 |none=>rw [he]at e;cases e
 |some d=>
  rw [he]at e;cases e;refine h H0 av A σ H δ E d he _ λp vs xs H1 s hp l hd => ?_
  subst hd;exact k _ _ _ ((E.mono s).own hp l (ZdD h1 h2 h3) hn)
def ZfA(ε:Env->Option D)(δ:Env):Option Out:=match ε δ with
 |some _=>some (.nx δ)
 |none=>none
def Z3(i:Nat)(ε:Env->Option D)(δ:Env):Option Out:=match Za i δ with
 |some (.lst xs)=>match ε δ with
  |some d=>if xs.length<sizeLine then some (.nx (δ.set i (some (.lst (xs++[d])))))else none
  |none=>none
 |_=>none
theorem XC{K:PySem.W.Frag}{te:TE}{ε:Env->Option D}(i:Nat)(hi:ow.contains i=true)(h:VE G ow te .cl ε):VS G ow ow owB owC (Je (tBM K "list" rAppend (Vz i) (Xn te tNil))) (Z3 i ε):=λH0 av A σ H δ E o e De k=>by
 unfold Z3 at e;cases hv:Za i δ with
 |none=>rw [hv]at e;cases e
 |some x=>
  rw [hv]at e;cases x<;>first|(cases e;done)|skip
  rename_i xs;dsimp only at e;cases he:ε δ with
  |none=>rw [he]at e;cases e
  |some d=>
   rw [he]at e;dsimp only at e
   by_cases hz:xs.length<sizeLine
   · rw [if_pos hz]at e
     cases e;have hi':i∈ow:=by simpa using hi
     cases hA:A i with
     |none=>exact absurd hA (E.dom' i hi')
     |some a=>
      obtain⟨v,h1,_,h3⟩:=E.var i _ (VL hv);obtain⟨rfl,vs,q1,q2⟩:=h3 a hA;refine⟨_,h1,.inl ⟨rfl,vs,SqL.of q1⟩,h H0 av A σ H δ E d he _ λv H' s r => ?_⟩;have E':=E.mono s;have q1':=s _ _ q1;refine⟨a,vs,v,rfl,rfl,q1',by rw [<-q2.length];exact hz,k A σ _ (E'.put hA (VL hv) (λb o hb e=>by rw [ZF hb];exact e) (by rw [ZS];exact λz=>by cases z) ⟨_,ZS,?_⟩)⟩
      have ex:∀b o,¬AV av A b->H' b=some o->upd H' a (.lst (vs++[v])) b=some o:=λb o n e=>by
       rw [ZF λz=>n (.inr ⟨i,by rw [z];exact hA⟩)];exact e
      exact((q2.same s).append (.cons (RepT.r r) .nil)).ext ex
   · rw [if_neg hz]at e;cases e
theorem VS.frz{t:TS}{φ:Env->Option Out}(i:Nat)(h:VS G ow1 owN owB owC t φ)(hn:G.2 i=none)(h1:sub ow1 ow=true)(h2:ow1.contains i=false)(h3:sub ow (i::ow1)=true):VS G ow owN owB owC t φ:=λH0 av A σ H δ E o e De k=>
 h H0 av _ σ H δ (E.freeze i (JV h1 h2 h3) hn) o e De k
def Zx(i:Nat)(d:D)(δ:Env):Option Env:=some (δ.set i (some d))
theorem YM(i:Nat)(hi:ow.contains i=false)(hn:G.2 i=none):VG G ow ow (X9 i) (Zx i):=λH0 av A σ H δ E d v r δ' e Q k=>by
 cases e
 exact k _ _ H (Same.refl H) (E.set r (λj=>by
  have:i∉ow:=by simpa using hi
  exact⟨λh=>⟨h,λz=>this (z▸h)⟩,λh=>h.1⟩) hn)
def VGs(G:Cn)(ow ow':List Nat)(g:TGs)(γ:List D->Env->Option Env):Prop:=
 ∀H0 av A σ H δ,ER G ow H0 av A σ H δ->∀ds vs,RepL G.1 (AV av A) H ds vs->∀δ',γ ds δ=some δ'->∀Q:L2.St->Hp->Prop,(∀A' σ' H',Same H H'->(∀b,AV av A' b->AV av A b)->ER G ow' H0 av A' σ' H' δ'->Q σ' H')->g vs σ H Q
def gsNil(ds:List D)(δ:Env):Option Env:=match ds with
 | []=>some δ
 |_=>none
theorem JW:VGs G ow ow gNil gsNil:=λH0 av A σ H δ E ds vs r δ' e Q k=>by
 cases ds with
 |nil=>cases e;exact⟨r.nil_of,k A σ H (Same.refl H) (λ_ z=>z) E⟩
 |cons _ _=>cases e
def Ym(i:Nat)(γs:List D->Env->Option Env)(ds:List D)(δ:Env):Option Env:=match ds with
 |d::r=>γs r (δ.set i (some d))
 | []=>none
theorem UF{gs:TGs}{γs:List D->Env->Option Env}(i:Nat)(hi:ow.contains i=false)(hn:G.2 i=none)(h:VGs G ow ow gs γs):VGs G ow ow (Zfo (X9 i) gs) (Ym i γs):=λH0 av A σ H δ E ds vs r δ' e Q k=>by
 cases ds with
 |nil=>cases e
 |cons d ds=>
  obtain⟨v,vr,rfl,r1,r2⟩:=r.uncons;refine⟨v,vr,rfl,?_⟩
  have less:∀b,AV av (λj=>if j=i then none else A j) b->AV av A b:=λb z=>by
   rcases z with z|⟨j,z⟩
   · exact .inl z
   · by_cases e:j=i
     · simp [e]at z
     · simp [e]at z;exact .inr ⟨j,z⟩
  have E1:ER G ow H0 av (λj=>if j=i then none else A j) (σ.set i (some v)) H (δ.set i (some d)):=E.set r1 (λj=>by
   have:i∉ow:=by simpa using hi
   exact⟨λh=>⟨h,λz=>this (z▸h)⟩,λh=>h.1⟩) hn
  exact h H0 av _ _ H _ E1 ds vr (r2.av λb z => .inl (less b z)) δ' e Q λA' σ' H' s l E'=>k A' σ' H' s (λb z=>less b (l b z)) E'
def Xe(n:Nat)(γs:List D->Env->Option Env)(d:D)(δ:Env):Option Env:=match d with
 | .tup ds=>if ds.length=n then γs ds δ else none
 |_=>none
theorem JX{K:PySem.W.Frag}{n:Nat}{gs:TGs}{γs:List D->Env->Option Env}(h:VGs G ow ow gs γs):VG G ow ow (Jh K n gs) (Xe n γs):=λH0 av A σ H δ E d v r δ' e Q k=>by
 cases d<;>first|(cases e;done)|skip
 rename_i ds;dsimp only [Xe]at e
 by_cases hz:ds.length=n
 · rw [if_pos hz]at e
   unfold Rep at r;obtain⟨a,vs,rfl,_,rd,l⟩:=r;exact⟨a,vs,rfl,SqT.of rd,by rw [<-l.length];exact hz,h H0 av A σ H δ E ds vs l δ' e Q λA' σ' H' s _ E'=>k A' σ' H' s E'⟩
 · rw [if_neg hz]at e;cases e
def UG(cA:Kn)(iv:Addr->Prop)(J:It)(xs:List D)(H0:Hp):Prop:=∀H,Same H0 H ->
 (∀i,i<xs.length->J.go i H) /\
 (∀(i:Nat)x v H',xs[i]? = some x->J.yld i H v H'->Same H H'/\∀av':Addr->Prop,(∀b,av' b->H b≠none)->(∀b,av' b->iv b\/H0 b=none)->Rep cA av' H' x v) /\
 (∀i,xs.length<=i->J.stop i H)
def VI(G:Cn)(ow:List Nat)(wi:TI)(ι:Env->Option (List D)):Prop:=
 ∀H0 av A σ H δ,ER G ow H0 av A σ H δ->∀xs,ι δ=some xs->∀R:It->Hp->Prop,(∀J H1,Same H H1->UG G.1 (AV av A) J xs (DL.cut A H1)->R J H1)->wi σ H R
def YI(γ:D->Env->Option Env)(φ:Env->Option Out):List D->Env->Option Out
 | [],δ=>some (.nx δ)
 |x::r,δ=>match γ x δ with
  |none=>none
  |some δ1=>match φ δ1 with
   |none=>none
   |some (.nx δ2)=>YI γ φ r δ2
   |some (.ct δ2)=>YI γ φ r δ2
   |some (.bk δ2)=>some (.nx δ2)
   |some (.rt d)=>some (.rt d)
def Z4(ι:Env->Option (List D))(γ:D->Env->Option Env)(φ:Env->Option Out)(δ:Env):Option Out:=match ι δ with
 |some xs=>YI γ φ xs δ
 |none=>none
theorem XQ{wi:TI}{g:TG}{tb:TS}{ι:Env->Option (List D)}{γ:D->Env->Option Env}{φ:Env->Option Out}(hi:VI G ow wi ι)(hg:VG G ow ow g γ)(hb:VS G ow ow ow ow tb φ):VS G ow ow owB owC (ZhN wi g tb) (Z4 ι γ φ):=λH0 av A σ H δ E o e De k=>by
 unfold Z4 at e;cases he:ι δ with
 |none=>rw [he]at e;cases e
 |some xs=>
  rw [he]at e;have e:YI γ φ xs δ=some o:=e;refine hi H0 av A σ H δ E xs he _ λJ H1 s1 W => ?_
  have E1:=E.mono s1;refine⟨λi m σ' H'=>m=xs.length-i/\i<=xs.length/\∃A' δ',ER G ow (DL.cut A H1) av A' σ' H' δ'/\YI γ φ (xs.drop i) δ'=some o,⟨xs.length,by simp,Nat.zero_le _,A,δ,E1.cut,e⟩,?_⟩
  rintro i m σ' H' ⟨rfl,hle,A',δ',E',e'⟩
  obtain⟨w1,w2,w3⟩:=W H' E'.same
  by_cases hlt:i<xs.length
  · refine .inr ⟨w1 i hlt,λσ2 H2=>∃A2 δ2,ER G ow (DL.cut A H1) av A2 σ2 H2 δ2/\YI γ φ (xs.drop (i+1)) δ2=some o,λσ2 H2 ⟨A2,δ2,E2,e2⟩=>⟨xs.length-(i+1),by omega,rfl,hlt,A2,δ2,E2,e2⟩,λv H2 y => ?_⟩
    have hx:xs[i]? = some xs[i]:=List.getElem?_eq_getElem hlt;obtain⟨s2,rep⟩:=w2 i _ v H2 hx y;have E2:=E'.mono s2
    have rep':Rep G.1 (AV av A') H2 xs[i] v:=rep _ E'.avl λb z=>by
     rcases z with z|⟨j,z⟩
     · exact .inl (.inl z)
     · exact .inr (E'.fr j b z)
    rw [List.drop_eq_getElem_cons hlt]at e';unfold YI at e';cases hγ:γ xs[i] δ' with
    |none=>rw [hγ]at e';cases e'
    |some δ1=>
     rw [hγ]at e';dsimp only at e';refine hg _ av A' σ' H2 δ' E2 _ v rep' δ1 hγ _ λA3 σ3 H3 s3 E3 => ?_
     cases hφ:φ δ1 with
     |none=>rw [hφ]at e';cases e'
     |some o1=>
      rw [hφ]at e';refine hb _ av A3 σ3 H3 δ1 E3 o1 hφ _ ?_;cases o1 with
      |nx δ2=>exact λA4 σ4 H4 E4=>⟨A4,δ2,E4,e'⟩
      |ct δ2=>exact λA4 σ4 H4 E4=>⟨A4,δ2,E4,e'⟩
      |bk δ2=>cases e';exact λA4 σ4 H4 E4=>k A4 σ4 H4 (E1.uncut E4)
      |rt d=>cases e';exact λv H4 s4 r4=>k v H4 (E1.sub0.trans s4) r4
  · have ei:i=xs.length:=by omega
    subst ei;rw [List.drop_length]at e';cases e';exact .inl ⟨w3 _ (Nat.le_refl _),k A' σ' H' (E1.uncut E')⟩
open Classical in
end
end DL
namespace DL
open PySem PySem.Spec L2
section
variable{cA:Kn}{G:Cn}{ow owN owB owC:List Nat}
def ZQ(ε:Env->Option D)(δ:Env):Option (List D):=match ε δ with
 |some (.lst xs)=>some xs
 |some (.tup xs)=>some xs
 |some (.str cs)=>some (cs.map λc => .str [c])
 |_=>none
theorem Rep.cut{av:Addr->Prop}{A:Nat->Option Addr}{H:Hp}{d:D}{v:V}(h:Rep cA (AV av A) H d v):Rep cA (AV av A) (DL.cut A H) d v:=h.ext λb o n e=>by
 rw [VU λ⟨i,z⟩=>n (.inr ⟨i,z⟩)];exact e
theorem RepL.cut{av:Addr->Prop}{A:Nat->Option Addr}{H:Hp}{d:List D}{v:List V}(h:RepL cA (AV av A) H d v):RepL cA (AV av A) (DL.cut A H) d v:=h.ext λb o n e=>by
 rw [VU λ⟨i,z⟩=>n (.inr ⟨i,z⟩)];exact e
theorem Zb4{iv:Addr->Prop}{H0:Hp}{a:Addr}{vs:List V}{xs:List D}(rd:SqL cA.K H0 a vs)(l:RepL cA iv H0 xs vs):UG cA iv (Itl cA.K a) xs H0:=λH s=>by
 have rd':SqL cA.K H a vs:=s.seq rd;refine⟨λi hi => ?_,λi x v H' hx y => ?_,λi hi=>⟨vs,rd',by rw [<-l.length];exact hi⟩⟩
 · obtain⟨v,hv,_⟩:=l.get (List.getElem?_eq_getElem hi)
   exact⟨vs,v,rd',hv⟩
 · obtain⟨rfl,hy⟩:=y
   obtain⟨v',hv,r⟩:=l.get hx;rw [hy vs rd']at hv;cases hv;exact⟨Same.refl _,λav' _ h2=>(r.av h2).same s⟩
theorem Zde{K:PySem.W.Frag}{iv:Addr->Prop}{H0:Hp}{a:Addr}{vs:List V}{xs:List D}(rd:H0 a=some (.tup vs))(l:RepL cA iv H0 xs vs):UG cA iv (Itt K a) xs H0:=λH s=>by
 have rd':SqT K H a vs:=SqT.of (s _ _ rd);refine⟨λi hi => ?_,λi x v H' hx y => ?_,λi hi=>⟨vs,rd',by rw [<-l.length];exact hi⟩⟩
 · obtain⟨v,hv,_⟩:=l.get (List.getElem?_eq_getElem hi)
   exact⟨vs,v,rd',hv⟩
 · obtain⟨rfl,hy⟩:=y
   obtain⟨v',hv,r⟩:=l.get hx;rw [hy vs rd']at hv;cases hv;exact⟨Same.refl _,λav' _ h2=>(r.av h2).same s⟩
theorem Zdf{iv:Addr->Prop}{H0:Hp}{cs:List Nat}:UG cA iv (Its cs) (cs.map λc => .str [c]) H0:=λH s=>by
 refine⟨λi hi=>(show i<cs.length by simpa using hi),λi x v H' hx y => ?_,λi hi=>(show cs.length<=i by simpa using hi)⟩;obtain⟨rfl,c,hc,rfl⟩:=y;rw [List.getElem?_map,hc]at hx;cases hx;exact⟨Same.refl _,λ_ _ _=>rfl⟩
theorem XD{tl:TE}{ε:Env->Option D}(h:VE G ow tl .cl ε):VI G ow (JH G.1.K tl) (ZQ ε):=λH0 av A σ H δ E xs e R k=>by
 unfold ZQ at e;cases he:ε δ with
 |none=>rw [he]at e;cases e
 |some d=>
  rw [he]at e;refine h H0 av A σ H δ E d he _ λv H1 s r => ?_
  cases d<;>first|(cases e;done)|skip
  · cases e
    exact .inr (.inr ⟨_,r,k _ H1 s Zdf⟩)
  · cases e
    obtain⟨a,vs,rfl,na,rd,l⟩:=r;exact .inl ⟨a,vs,rfl,rd,k _ H1 s (Zb4 (JM na rd λb o n e=>by rw [VU λ⟨i,z⟩=>n (.inr ⟨i,z⟩)];exact e) l.cut)⟩
  · cases e
    obtain⟨a,vs,rfl,na,rd,l⟩:=r;exact .inr (.inl ⟨a,vs,rfl,SqT.of rd,k _ H1 s (Zde (by rw [VU λ⟨i,z⟩=>na (.inr ⟨i,z⟩)];exact rd) l.cut)⟩)
def ZR(lo c:Int)(n:Nat):List D:=(List.range n).map λk => .int (lo+(k:Nat)*c)
theorem ZaW{iv:Addr->Prop}{H0:Hp}{lo:Int}{n:Nat}:UG cA iv (Itr lo n) (ZR lo 1 n) H0:=λH s=>by
 refine⟨λi hi=>(show i<n by simpa [ZR]using hi),λi x v H' hx y => ?_,λi hi=>(show n<=i by simpa [ZR]using hi)⟩;obtain⟨rfl,rfl⟩:=y;have hi:i<n:=by have:=(List.getElem?_eq_some_iff.mp hx).1;simpa [ZR]using this
 have:x = .int (lo+i):=by
  unfold ZR at hx;rw [List.getElem?_map,List.getElem?_range hi]at hx;have:=Option.some.inj hx;rw [<-this];show D.int (lo+(i:Int)*1)=_;rw [Int.mul_one]
 subst this;exact⟨Same.refl _,λ_ _ _=>rfl⟩
def ZY(α:Env->Option (List D))(δ:Env):Option (List D):=match α δ with
 |some [.int j]=>if -(2 ^ 62)<=j/\j<2 ^ 62 then some (ZR 0 1 j.toNat)else none
 |some [.int i,.int j]=>if -(2 ^ 62)<=i/\i<2 ^ 62 /\ -(2 ^ 62)<=j/\j<2 ^ 62 then some (ZR i 1 (j-i).toNat)else none
 |some [.int i,.int j,.int c]=>if c≠0/\c.natAbs<1073741824/\Builtin.Range.small i j c=true then some (ZR i c (Builtin.Range.rangeSize i j c).toNat)else none
 |_=>none
theorem ql1{av:Addr->Prop}{A:Nat->Option Addr}{H:Hp}{q:Ql}{x:Int}{vs:List V}(h:RepQL cA av A H q [.int x] vs):vs=[.int x]:=by
 obtain⟨v,r,rfl,h1,h2⟩:=h;have:=h1.any;cases(show v=_ from this);cases(show r=[]from h2);rfl
theorem ql2{av:Addr->Prop}{A:Nat->Option Addr}{H:Hp}{q:Ql}{x y:Int}{vs:List V}(h:RepQL cA av A H q [.int x,.int y] vs):vs=[.int x,.int y]:=by
 obtain⟨v,r,rfl,h1,h2⟩:=h;have:=h1.any;cases(show v=_ from this);rw [ql1 h2]
theorem Ue{ta:TA}{q:Ql}{a:Env->Option (List D)}(h:VA G ow ta q a)(hl:∀δ ds,a δ=some ds->ds.length=1):VI G ow (Zfp ta) (ZY a):=λH0 av A σ H δ E xs e R k=>by
 unfold ZY at e;cases he:a δ with
 |none=>rw [he]at e;cases e
 |some ds=>
  rw [he]at e;refine h H0 av A σ H δ E ds he _ λvs H1 s r => ?_
  have hln:=hl δ ds he
  split at e
  · rename_i j he2
    cases he2
    by_cases hz : -(2 ^ 62)<=j/\j<2 ^ 62
    · rw [if_pos hz]at e
      cases e;exact⟨j,ql1 r,hz.1,hz.2,k _ H1 s ZaW⟩
    · rw [if_neg hz]at e;cases e
  · rename_i he2;cases he2;simp at hln
  · rename_i he2;cases he2;simp at hln
  · cases e
theorem ZeH{ta:TA}{q:Ql}{a:Env->Option (List D)}(h:VA G ow ta q a)(hl:∀δ ds,a δ=some ds->ds.length=2):VI G ow (Zfq ta) (ZY a):=λH0 av A σ H δ E xs e R k=>by
 unfold ZY at e;cases he:a δ with
 |none=>rw [he]at e;cases e
 |some ds=>
  rw [he]at e;refine h H0 av A σ H δ E ds he _ λvs H1 s r => ?_
  have hln:=hl δ ds he
  split at e
  · rename_i he2;cases he2;simp at hln
  · rename_i i j he2
    cases he2
    by_cases hz : -(2 ^ 62)<=i/\i<2 ^ 62 /\ -(2 ^ 62)<=j/\j<2 ^ 62
    · rw [if_pos hz]at e
      cases e;exact⟨i,j,ql2 r,hz,k _ H1 s ZaW⟩
    · rw [if_neg hz]at e;cases e
  · rename_i he2;cases he2;simp at hln
  · cases e
theorem ZeI{δ:Env}{ds:List D}(h:eNil δ=some ds):ds.length=0:=by cases h;rfl
theorem Zbz{a:Env->Option D}{r:Env->Option (List D)}{n:Nat}(hr:∀δ ds,r δ=some ds->ds.length=n):∀δ ds,Zb a r δ=some ds->ds.length=n+1:=λδ ds h=>by
 unfold Zb at h;cases ha:a δ with
 |none=>rw [ha]at h;cases h
 |some x=>
  rw [ha]at h;cases hr':r δ with
  |none=>rw [hr']at h;cases h
  |some xs=>rw [hr']at h;cases h;rw [List.length_cons,hr δ xs hr']
theorem VV{a:Env->Option D}:∀δ ds,Zb a eNil δ=some ds->ds.length=1:=Zbz λ_ _=>ZeI
theorem Zij{a b:Env->Option D}:∀δ ds,Zb a (Zb b eNil) δ=some ds->ds.length=2:=Zbz VV
def YT(n:Nat)(δ:Env)(js:List Nat):Env:=List.replicate n none++js.map λj=>(δ[j]?).getD none
def Yn(γ:D->Env->Option Env)(τ:Env->Option Bool)(ε:Env->Option D)(δ0:Env):List D->Option (List D)
 | []=>some []
 |x::r=>match γ x δ0 with
  |none=>none
  |some δ1=>match τ δ1 with
   |none=>none
   |some false=>Yn γ τ ε δ0 r
   |some true=>match ε δ1 with
    |none=>none
    |some y=>match Yn γ τ ε δ0 r with
     |none=>none
     |some ys=>some (y::ys)
def Z5(ι:Env->Option (List D))(γ:D->Env->Option Env)(τ:Env->Option Bool)(ε:Env->Option D)(n:Nat)(js:List Nat)(δ:Env):Option D:=match ι δ with
 |none=>none
 |some xs=>match Yn γ τ ε (YT n δ js) xs with
  |none=>none
  |some ys=>if ys.length<=sizeLine then some (.lst ys)else none
theorem ER.blk{H0 H:Hp}{av:Addr->Prop}{A:Nat->Option Addr}{σ:L2.St}{δ:Env}(n:Nat)(js:List Nat)(hjs:js.all (λj => !ow.contains j)=true)(E:ER G ow H0 av A σ H δ) :
 ER ⟨G.1,λ_=>none⟩ [] H (AV av A) (λ_=>none) (L2.blk n σ js) H (YT n δ js):=by
 refine⟨Same.refl H,E.avl,λ_ _ z=>(by cases z),λ_ _ _ z=>(by cases z),λ_ _ z=>(by cases z),λ_ z=>absurd rfl z,λ_ z=>(by cases z),?_,λ_ _ z=>(by cases z),λ_ _ z=>(by cases z),λi d e => ?_⟩
 · unfold L2.blk YT UW
   rw [List.length_append,List.length_append,List.length_replicate,List.length_replicate,List.length_map,List.length_map]
 · unfold YT at e
   by_cases hi:i<n
   · rw [List.getElem?_append_left (by simpa using hi),List.getElem?_replicate,if_pos hi]at e
     cases e
   · rw [List.getElem?_append_right (by simpa using hi),List.length_replicate,List.getElem?_map]at e
     cases hj:js[i-n]? with
     |none=>rw [hj]at e;cases e
     |some j=>
      rw [hj]at e;have e':(δ[j]?).getD none=some d:=Option.some.inj e
      have e2:δ[j]? = some (some d):=by
       cases q:δ[j]? with
       |none=>rw [q]at e';cases e'
       |some z=>rw [q]at e';exact congrArg some e'
      obtain⟨v,h1,h2,_⟩:=E.var j d e2
      have hjo:A j=none:=by
       cases q:A j with
       |none=>rfl
       |some a=>
        have h3:=E.dom j (by rw [q];exact λz=>by cases z);have h4:=List.all_eq_true.mp hjs j (List.mem_of_getElem? hj);simp at h4;exact absurd h3 h4
      refine⟨v,?_,λ_=>(h2 hjo).av λb z => ?_,λ_ z=>(by cases z)⟩
      · unfold L2.blk UW
        rw [List.getElem?_append_right (by simpa using hi),List.length_replicate,List.getElem?_map,hj];show some ((σ[j]?).getD none)=_;rw [h1];rfl
      · rcases z with z|⟨_,z⟩
        · exact .inl z
        · cases z
theorem Vd {wi:TI} {g:TG} {tt:TT} {te:TE} {n:Nat} {js:List Nat} {ι:Env->Option (List D)} {γ:D->Env->Option Env} {τ:Env->Option Bool} {ε:Env->Option D}
 (hjs:js.all (λj => !ow.contains j)=true) (hi:VI G ow wi ι) (hg:VG ⟨G.1,λ_=>none⟩ [] [] g γ) (ht:VT ⟨G.1,λ_=>none⟩ [] tt τ) (he:VE ⟨G.1,λ_=>none⟩ [] te .cl ε):VF G ow (Qr wi g tt te n js) (Z5 ι γ τ ε n js):=λH0 av A σ H δ E d e Q k=>by
 unfold Z5 at e;cases hι:ι δ with
 |none=>rw [hι]at e;cases e
 |some xs=>
  rw [hι]at e;dsimp only at e;cases hc:Yn γ τ ε (YT n δ js) xs with
  |none=>rw [hc]at e;cases e
  |some full=>
   rw [hc]at e;dsimp only at e
   by_cases hz:full.length<=sizeLine
   · rw [if_pos hz]at e
     have ed:D.lst full=d:=Option.some.inj e;refine hi H0 av A σ H δ E xs hι _ λJ H1 s1 W => ?_
     have E1:=E.mono s1
     refine⟨λi m ys H'=>m=xs.length-i/\i<=xs.length/\Same H1 H'/\∃done rest,RepL G.1 (AV av A) H' done ys/\Yn γ τ ε (YT n δ js) (xs.drop i)=some rest/\done++rest=full,
      ⟨xs.length,by simp,Nat.zero_le _,Same.refl _,[],full,.nil,hc,rfl⟩,?_⟩
     rintro i m ys H' ⟨rfl,hle,s',done,rest,rl,hr,hf⟩
     have E':=E1.mono s';have sc:Same (DL.cut A H1) H':=λb o z=>s' b o (JU z).1
     obtain⟨w1,w2,w3⟩:=W H' sc
     by_cases hlt:i<xs.length
     · refine .inr ⟨w1 i hlt,λv H2 y => ?_⟩
       have hx:xs[i]? = some xs[i]:=List.getElem?_eq_getElem hlt;obtain⟨s2,rep⟩:=w2 i _ v H2 hx y;have rep':Rep G.1 (AV av A) H2 xs[i] v:=rep _ E'.avl λb z => .inl z
       have E2:=E'.mono s2;have EB:ER ⟨G.1,λ_=>none⟩ [] H2 (AV av A) (λ_=>none) (L2.blk n σ js) H2 (YT n δ js):=E2.blk n js hjs
       have triv:∀(A':Nat->Option Addr){σ':L2.St}{H3:Hp}{δ':Env},ER ⟨G.1,λ_=>none⟩ [] H2 (AV av A) A' σ' H3 δ'->∀b,AV (AV av A) A' b ↔ AV av A b:=λA' {σ' H3 δ'} E3 b=>by
        constructor
        · rintro(z|⟨j,z⟩)
          · exact z
          · have:=E3.dom j (by rw [z];exact λz=>by cases z)
            cases this
        · exact λz => .inl z
       rw [List.drop_eq_getElem_cons hlt]at hr;unfold Yn at hr;cases hγ:γ xs[i] (YT n δ js)with
       |none=>rw [hγ]at hr;cases hr
       |some δ1=>
        rw [hγ]at hr;dsimp only at hr;refine hg _ _ _ _ H2 _ EB _ v (rep'.av λb z => .inl ((triv _ EB b).mp z)) δ1 hγ _ λA3 σ3 H3 s3 E3 => ?_
        cases hτ:τ δ1 with
        |none=>rw [hτ]at hr;cases hr
        |some c=>
         rw [hτ]at hr;refine ht _ _ A3 σ3 H3 δ1 E3 c hτ _ λH4 s4 => ?_
         have E4:=E3.mono s4;cases c with
         |false=>
          exact V7 ⟨xs.length-(i+1),by omega,rfl,hlt,(s'.trans s2).trans (s3.trans s4),done,rest,rl.same ((s2.trans s3).trans s4),hr,hf⟩
         |true=>
          dsimp only at hr;cases hε:ε δ1 with
          |none=>rw [hε]at hr;cases hr
          |some yd=>
           rw [hε]at hr;dsimp only at hr;cases hr':Yn γ τ ε (YT n δ js) (xs.drop (i+1))with
           |none=>rw [hr']at hr;cases hr
           |some rest'=>
            rw [hr']at hr;have hrr:yd::rest'=rest:=Option.some.inj hr;subst hrr;refine V8 (he _ _ A3 σ3 H4 δ1 E4 yd hε _ λvy H5 s5 r5 => ?_);have sall:Same H' H5:=((s2.trans s3).trans s4).trans s5;refine⟨?_,xs.length-(i+1),by omega,rfl,hlt,s'.trans sall,done++[yd],rest',(rl.same sall).append (.cons ((RepT.r r5).av λb z => .inl ((triv _ E4 b).mpr z)) .nil),hr',by rw [<-hf];simp⟩
            have:=congrArg List.length hf;rw [List.length_append,List.length_cons]at this;have:=rl.length;omega
     · have ei:i=xs.length:=by omega
       subst ei;rw [List.drop_length]at hr;cases hr;refine .inl ⟨w3 _ (Nat.le_refl _),λp hp=>k p ys full H' (s1.trans s') hp (by rw [<-hf,List.append_nil];exact rl) ed.symm⟩
   · rw [if_neg hz]at e;cases e
def spD(cA:Kn)(n:Nat)(m:List D->Option D):Sp:=λvs H Q _=>∃av ds d,(∀a,av a->H a≠none)/\RepL cA av H ds vs/\ds.length=n/\m ds=some d/\∀v H',Same H H'->Rep cA av H' d v->Q v H'
def Zm(n:Nat)(m:List D->Option D)(dds:List D)(α:Env->Option (List D))(δ:Env):Option D:=match α δ with
 |some ds=>if(ds++dds).length=n then m (ds++dds)else none
 |none=>none
def Ql.cq:Ql->Ql
 | .cl => .cl
 |_ => .dt
theorem ZE{n:Nat}{m:List D->Option D}{t:TA}{q:Ql}{α:Env->Option (List D)}{E0:XK}(dds:List D)(hd:dds.all ZK=true)(h:VA G ow t q α):VE G ow (Jq (spD G.1 n m) (dds.map val) E0 t) q.cq (Zm n m dds α):=λH0 av A σ H δ E d e Q k=>by
 unfold Zm at e;cases he:α δ with
 |none=>rw [he]at e;cases e
 |some ds=>
  rw [he]at e;dsimp only at e
  by_cases hz:(ds++dds).length=n
  · rw [if_pos hz]at e
    refine h H0 av A σ H δ E ds he _ λvs H1 s1 r1 => ?_
    have E1:=E.mono s1;cases q with
    |cl=>exact⟨AV av A,ds++dds,d,E1.avl,r1.cl.append (.of_vals hd),hz,e,λv H' s r=>k v H' (s1.trans s) r.t⟩
    |tp=>exact⟨av,ds++dds,d,E1.avH,r1.any.append (.of_vals hd),hz,e,λv H' s r=>k v H' (s1.trans s) r.t⟩
    |dt=>exact⟨av,ds++dds,d,E1.avH,r1.any.append (.of_vals hd),hz,e,λv H' s r=>k v H' (s1.trans s) r.t⟩
  · rw [if_neg hz]at e;cases e
def run(N:Nat)(φ:Env->Option Out)(ds:List D):Option D:=match φ (ds.map some++List.replicate (N-ds.length) none)with
 |some (.rt d)=>some d
 |some (.nx _)=>some .non
 |_=>none
theorem Zdg{N:List Str}{ds:List D}{vs:List V}{av:Addr->Prop}{H:Hp}(r:RepL cA av H ds vs){i:Nat}{d:D}(h:(ds.map some++List.replicate (N.length-ds.length) none)[i]? = some (some d)) :
 ∃v,(L2.start N vs)[i]? = some (some v)/\Rep cA av H d v:=by
 by_cases hi:i<ds.length
 · rw [List.getElem?_append_left (by simpa using hi),List.getElem?_map]at h
   cases hd:ds[i]? with
   |none=>rw [hd]at h;cases h
   |some x=>
    rw [hd]at h;cases h;obtain⟨v,hv,rv⟩:=r.get hd;refine⟨v,?_,rv⟩;unfold L2.start;have:i<vs.length:=by rw [<-r.length];exact hi
    rw [List.getElem?_append_left (by simpa using this),List.getElem?_map,hv];rfl
 · rw [List.getElem?_append_right (by simpa using hi),List.getElem?_replicate]at h
   split at h<;>cases h
theorem ZbA{N:List Str}{ds:List D}{vs:List V}{av:Addr->Prop}{H:Hp}(ha:∀a,av a->H a≠none)(r:RepL cA av H ds vs) :
 ER ⟨cA,λ_=>none⟩ [] H av (λ_=>none) (L2.start N vs) H (ds.map some++List.replicate (N.length-ds.length) none):=by
 refine⟨Same.refl H,ha,λ_ _ z=>(by cases z),λ_ _ _ z=>(by cases z),λ_ _ z=>(by cases z),λ_ z=>absurd rfl z,λ_ z=>(by cases z),?_,λ_ _ z=>(by cases z),λ_ _ z=>(by cases z),λi d e => ?_⟩
 · unfold L2.start
   rw [List.length_append,List.length_append,List.length_map,List.length_map,List.length_replicate,List.length_replicate,r.length]
 · obtain⟨v,h1,h2⟩:=Zdg r e
   refine⟨v,h1,λ_=>h2.av λb z => ?_,λ_ z=>(by cases z)⟩;rcases z with z|⟨_,z⟩
   · exact .inl z
   · cases z
section
variable{P:Program}{w:World}{K:PySem.W.Frag}{mg:Str->Option Value}{base:Heap}
end
theorem Zcx{vs:List V}{lo hi:Option Int}:VC vs lo hi=cutL vs lo hi:=by
 unfold VC cutL;have e:∀n d o,HT.sIx n d o=Yi n d o:=λn d o=>by cases o<;>rfl
 rw [e,e]
theorem RepL.cutL{av:Addr->Prop}{H:Hp}{xs:List D}{vs:List V}(l:RepL cA av H xs vs)(lo hi:Option Int):RepL cA av H (L2.cutL xs lo hi) (L2.cutL vs lo hi):=by
 unfold L2.cutL;rw [l.length];exact(l.drop _).take _
def xNoP(_:Env):Option (Option Int):=some none
def xP(ε:Env->Option D)(δ:Env):Option (Option Int):=match ε δ with
 |some (.int i)=>some (some i)
 |_=>none
def VO(G:Cn)(ow:List Nat)(to:TO)(ω:Env->Option (Option Int)):Prop:=
 ∀H0 av A σ H δ,ER G ow H0 av A σ H δ->∀x,ω δ=some x->∀Q:Option Int->Hp->Prop,(∀H',Same H H'->Q x H')->to σ H Q
theorem ZeJ:VO G ow tNoPart xNoP:=λH0 av A σ H δ E x e Q k=>by
 cases e;exact k H (Same.refl H)
theorem ZeK{te:TE}{q:Ql}{ε:Env->Option D}(h:VE G ow te q ε):VO G ow (Zfv te) (xP ε):=λH0 av A σ H δ E x e Q k=>by
 unfold xP at e;cases he:ε δ with
 |none=>rw [he]at e;cases e
 |some d=>
  rw [he]at e;cases d<;>first|(cases e;done)|skip
  cases e;exact h H0 av A σ H δ E _ he _ λv H' s r=>⟨_,r.any,k H' s⟩
def slD:D->Option Int->Option Int->Option D
 | .str a,lo,hi=>if a.length<=sizeLine then some (.str (L2.cutL a lo hi))else none
 | .lst xs,lo,hi=>some (.lst (L2.cutL xs lo hi))
 | .tup xs,lo,hi=>if Yi xs.length 0 lo=0/\Yi xs.length xs.length hi=xs.length then none else some (.tup (L2.cutL xs lo hi))
 |_,_,_=>none
def eSl(a:Env->Option D)(lo hi:Env->Option (Option Int))(δ:Env):Option D:=match a δ with
 |some x=>match lo δ with
  |some l=>match hi δ with
   |some u=>slD x l u
   |none=>none
  |none=>none
 |none=>none
theorem ZdE{a:Env->Option D}{lo hi:Env->Option (Option Int)}{δ:Env}{d:D}(h:eSl a lo hi δ=some d):∃x l u,a δ=some x/\lo δ=some l/\hi δ=some u/\slD x l u=some d:=by
 unfold eSl at h;cases ea:a δ with
 |none=>rw [ea]at h;cases h
 |some x=>
  rw [ea]at h;cases el:lo δ with
  |none=>rw [el]at h;cases h
  |some l=>
   rw [el]at h;cases eu:hi δ with
   |none=>rw [eu]at h;cases h
   |some u=>rw [eu]at h;exact⟨x,l,u,rfl,rfl,rfl,h⟩
theorem ZgL{ta:TE}{tl th:TO}{q:Ql}{a:Env->Option D}{lo hi:Env->Option (Option Int)}(hq:q = .cl\/q = .tp)(ha:VE G ow ta q a)(hl:VO G ow tl lo)(hh:VO G ow th hi):VE G ow (tSl (JI G.1.K) ta tl th) .cl (eSl a lo hi):=λH0 av A σ H δ E d e Q k=>by
 obtain⟨x,l,u,ex,el,eu,ed⟩:=ZdE e;refine ha H0 av A σ H δ E x ex _ λv H1 s1 r1=>hl H0 av A σ H1 δ (E.mono s1) l el _ λH2 s2=>hh H0 av A σ H2 δ ((E.mono s1).mono s2) u eu _ λH3 s3 => ?_
 have s13:=s2.trans s3;have E3:=(E.mono s1).mono s13
 have r3:RepT G.1 av (AV av A) H3 x v:=by
  have:=(r1.same s13).tp;rcases hq with rfl|rfl<;>exact this
 cases x<;>first|(cases ed;done)|skip
 · rename_i cs
   cases(show v=_ from r3);dsimp only [slD]at ed
   by_cases hz:cs.length<=sizeLine
   · rw [if_pos hz]at ed
     cases ed;exact .inl ⟨cs,rfl,hz,k _ H3 (s1.trans s13) rfl⟩
   · rw [if_neg hz]at ed;cases ed
 · cases ed
   obtain⟨p,vs,rfl,_,rd,ll⟩:=r3;refine .inr (.inl ⟨p,vs,rfl,rd,λp' hp => ?_⟩);rw [Zcx];exact k _ _ ((s1.trans s13).trans (ZT hp)) ⟨p',_,rfl,λz=>(E3.avl p' z hp).elim,SqL.of ZS,(ll.cutL l u).same (ZT hp)⟩
 · rename_i xs
   dsimp only [slD]at ed
   by_cases hz:Yi xs.length 0 l=0/\Yi xs.length xs.length u=xs.length
   · rw [if_pos hz]at ed;cases ed
   · rw [if_neg hz]at ed
     cases ed;obtain⟨p,vs,rfl,_,rd,ll⟩:=r3;refine .inr (.inr ⟨p,vs,rfl,SqT.of rd,?_,λp' hp => ?_⟩)
     · have e:∀n d o,HT.sIx n d o=Yi n d o:=λn d o=>by cases o<;>rfl
       rw [e,e,<-ll.length];exact hz
     · rw [Zcx]
       exact k _ _ ((s1.trans s13).trans (ZT hp)) ⟨p',_,rfl,λz=>E3.avl p' z hp,ZS,(ll.cutL l u).same (ZT hp)⟩
def JY(K:PySem.W.Frag):List V->Hp->VK->Prop:=λxs H Q=>Zii K xs H Q\/∃p vs c cv b,xs=[.ref p,c]/\(∀v,RelV c v->v=cv)/\KL K p vs/\kitOne K (.type "list") cv=some b/\Q (.bl b) H
theorem XR{X:Cx}{K:PySem.W.Frag}(hK:X.K=K:=by rfl):YD X (.builtin "isinstance") (JY K):=by
 subst hK;intro pins s σ H xs us Q I rs h;rcases h with h|⟨p,vs,c,cv,b,rfl,hc,⟨o,its,n,hk,h1,_⟩,e,q⟩
 · exact ZdB pins s σ H xs us Q I rs h
 · obtain⟨u,w',rfl,rx,rc⟩:=Zfs rs
   have ec:=hc _ rc;subst ec;cases(show u=Value.ref p from rx);exact PySem.W.kia_one PySem.W.kitx_list I.kIn ⟨o,I.kIn p o hk,h1⟩ e (λz=>nomatch z) λtk=>⟨.bl b,H,I.tok tk,rfl,q⟩
def kind:D->String
 | .non => "NoneType"
 | .bl _ => "bool"
 | .int _ => "int"
 | .str _ => "str"
 | .lst _ => "list"
 | .tup _ => "tuple"
 | .obj c _ _=>c
 | .dct _ _ => "dict"
 | .dtt _ _ => "dict"
def plainKinds:List String:=["NoneType", "bool", "int", "str", "list", "tuple"]
def UH(tab:List (String×Bool)):D->Option Bool
 | .obj c _ _=>if plainKinds.contains c then none else tab.lookup c
 | .dct _ _=>none
 | .dtt _ _=>none
 |d=>tab.lookup (kind d)
def Z8(tab:List (String×Bool))(a:Env->Option D)(δ:Env):Option D:=match a δ with
 |some d=>match UH tab d with
  |some b=>some (.bl b)
  |none=>none
 |none=>none
structure ClsI(K:PySem.W.Frag)(C:Addr):Prop where
 cl:Cls K C
 ha:PySem.W.findIn K (.ref C) "__class__" = some (some (.builtin "object.__class__"))
 hn:PySem.W.specialIn K (.builtin "object.__class__") "__get__" = some (some (.builtin "getset_descriptor.__get__"))
 htk:PySem.W.takesIn K (.builtin "object.__class__")=some true
 hm:PySem.W.mroIn K C (.type "object")=some true
structure IsiOk(K:PySem.W.Frag)(cA:Kn)(cv:Value)(tab:List (String×Bool)):Prop where
 plain:∀k∈plainKinds,∀b,tab.lookup k=some b->kitOne K (.type k) cv=some b
 own:∀(c:String)b,plainKinds.contains c=false->tab.lookup c=some b->kitOne K (.ref (cA.c c)) cv=some b/\ClsI K (cA.c c)
theorem JZ{β:Type}{c:String}{b:β}:∀{tab:List (String×β)},tab.lookup c=some b->(c,b)∈tab
 | [],h=>by simp at h
 |(c',b')::r,h=>by
  rw [List.lookup_cons]at h;cases hc:c == c' with
  |true=>
   rw [hc]at h;cases h;rw [eq_of_beq hc];exact List.mem_cons_self
  |false=>
   rw [hc]at h;exact List.mem_cons_of_mem _ (JZ h)
theorem U1{K:PySem.W.Frag}{cA:Kn}{cv:Value}{tab:List (String×Bool)}(h:∀p∈tab,if plainKinds.contains p.1=true then kitOne K (.type p.1) cv=some p.2 else kitOne K (.ref (cA.c p.1)) cv=some p.2/\ClsI K (cA.c p.1)):IsiOk K cA cv tab where
 plain:=λk hk b hl=>by
  have:=h _ (JZ hl)
  rwa [if_pos (by simpa using hk)]at this
 own:=λc b hc hl=>by
  have:=h _ (JZ hl)
  rwa [if_neg (by simpa using hc)]at this
theorem XS{ta:TE}{q:Ql}{a:Env->Option D}{c:V}{cv:Value}{tab:List (String×Bool)}(hc:∀v,RelV c v->v=cv)(I:IsiOk G.1.K G.1 cv tab)(ha:VE G ow ta q a) :
 VE G ow (tCB (JY G.1.K) (Xn ta (Xn (tC c) tNil))) .cl (Z8 tab a):=λH0 av A σ H δ E d e Q k=>by
 unfold Z8 at e;cases he:a δ with
 |none=>rw [he]at e;cases e
 |some x=>
  rw [he]at e;dsimp only at e;cases ht:UH tab x with
  |none=>rw [ht]at e;cases e
  |some b=>
   rw [ht]at e;cases e;refine ha H0 av A σ H δ E x he _ λv H1 s r => ?_
   have r':=r.any;have fin:∀t,TyOf G.1.K H1 v t->kitOne G.1.K t cv=some b->JY G.1.K [v,c] H1 Q:=λt ty e => .inl ⟨v,c,cv,t,b,rfl,hc,ty,e,k _ H1 s rfl⟩
   cases x with
   |non=>cases(show v=_ from r');exact fin _ .non (I.plain _ (by decide) b (by exact ht))
   |bl y=>cases(show v=_ from r');exact fin _ (.bl y) (I.plain _ (by decide) b (by exact ht))
   |int y=>cases(show v=_ from r');exact fin _ (.int y) (I.plain _ (by decide) b (by exact ht))
   |str y=>cases(show v=_ from r');exact fin _ (.str _) (I.plain _ (by decide) b (by exact ht))
   |lst y=>
    unfold Rep at r';obtain⟨p,vs,rfl,_,rd,_⟩:=r';rcases rd with(rd|⟨o,rd⟩)|rd
    · exact fin _ (.lst rd) (I.plain _ (by decide) b (by exact ht))
    · exact fin _ (.frz rd) (I.plain _ (by decide) b (by exact ht))
    · exact .inr ⟨p,vs,c,cv,b,rfl,hc,rd,I.plain _ (by decide) b (by exact ht),k _ H1 s rfl⟩
   |tup y=>
    unfold Rep at r';obtain⟨p,vs,rfl,_,rd,_⟩:=r';exact fin _ (.tup rd) (I.plain _ (by decide) b (by exact ht))
   |dct ks y=>cases ht
   |dtt ks y=>cases ht
   |obj c' ks y=>
    unfold Rep at r';obtain⟨p,dx,vs,rfl,_,rd,_⟩:=r';dsimp only [UH]at ht;cases hp:plainKinds.contains c' with
    |true=>rw [hp,if_pos rfl]at ht;cases ht
    |false=>
    rw [hp,if_neg Bool.false_ne_true]at ht;obtain⟨h1,h2⟩:=I.own c' b hp ht;exact fin _ (.ins rd h2.cl h2.ha h2.hn h2.htk h2.hm) h1
end
end DL
namespace L2
open PySem PySem.Spec
section
variable{X:Cx}
theorem Zau:∀{l:List (List Nat)}{us:List Value},Vals (l.map S) us->PyProof.Rows.StrsAre us (l.map tx)
 | [],us,r=>by
  rw [List.map_nil]at r;cases r;exact .nil
 |a::l,us,r=>by
  rw [List.map_cons]at r;cases r with
  |cons r1 r2=>
   obtain⟨t,rfl⟩:=r1;exact .cons _ t (Zau r2)
theorem QA{K:PySem.W.Frag}(hK:X.K=K:=by rfl):MtR X "str.join" (λx xs H Q=>∃sep p l,x=S sep/\xs=[.ref p]/\SqL K H p (l.map S)/\(l.map List.length).sum+l.length*sep.length<=sizeLine/\Q (S (Yw sep l)) H):=by
 subst hK;intro pins s σ H x xs v us Q I rx rs h;obtain⟨sep,p,l,rfl,rfl,hq,hz,q⟩:=h;obtain⟨t,rfl⟩:=rx;obtain⟨u,rfl,rp⟩:=Xm rs;cases rp;obtain⟨its,rv,pl,_⟩:=I.list hq;have hs:sizeLine=16777216:=sizeLine_eq;refine PyProof.Rows.join_list (ys:=l.map tx) pl.isList (by simpa using Zau rv) ?_ λt' k=>⟨S (Yw sep l),H,I.tok _,⟨t',?_⟩,q⟩
 · have e : ((l.map tx).map (·.length)) = l.map List.length := by
    rw [List.map_map];exact List.map_congr_left λa _=>Yh a
   rw [e,List.length_map,Yh];omega
 · have:=JC sep l
   show Value.str (Builtin.Str.glued (tx sep) (l.map tx)) t'=_;rw [StrLaws.glued_eq_join,JC]
end
end L2
namespace DL
open PySem PySem.Spec L2
section
variable{cA:Kn}{G:Cn}{ow:List Nat}
def U2(cA:Kn)(r:V->List V->Hp->VK->Prop)(f:List Nat->List D->Option D):Prop:=
 ∀(i:Addr->Prop)(H:Hp)(a:List Nat)(ds:List D)(vs:List V)(d:D),(∀a,i a->H a≠none)->VQ cA i H ds vs->f a ds=some d->∀Q:VK,(∀v H',Same H H'->Rep cA i H' d v->Q v H')->r (S a) vs H Q
def eBM(f:List Nat->List D->Option D)(a:Env->Option D)(α:Env->Option (List D))(δ:Env):Option D:=match a δ with
 |some (.str cs)=>match α δ with
  |some ds=>f cs ds
  |none=>none
 |_=>none
theorem Uf{K:PySem.W.Frag}{r:V->List V->Hp->VK->Prop}{f:List Nat->List D->Option D}{to:TE}{t:TA}{q0 q:Ql}{a:Env->Option D}{α:Env->Option (List D)}(hr:U2 G.1 r f)(ha:VE G ow to q0 a)(h:VA G ow t q α) :
 VE G ow (tBM K "str" r to t) q.it (eBM f a α):=λH0 av A σ H δ E d e Q k=>by
 unfold eBM at e;cases hx:a δ with
 |none=>rw [hx]at e;cases e
 |some x=>
  rw [hx]at e;cases x<;>first|(cases e;done)|skip
  rename_i cs;dsimp only at e;cases he:α δ with
  |none=>rw [he]at e;cases e
  |some ds=>
   rw [he]at e;refine ha H0 av A σ H δ E _ hx _ λv H1 s1 r1 => ?_
   have e1:v=S cs:=r1.any;subst e1;refine⟨rfl,h H0 av A σ H1 δ (E.mono s1) ds he _ λvs H2 s2 r2 => ?_⟩;have E2:=(E.mono s1).mono s2;have s12:=s1.trans s2;cases q with
   |cl=>exact hr _ H2 cs ds vs d E2.avl r2.il e _ λv H' s r=>k v H' (s12.trans s) r.t
   |tp=>exact hr _ H2 cs ds vs d E2.avl r2.il e _ λv H' s r=>k v H' (s12.trans s) r.t
   |dt=>exact hr _ H2 cs ds vs d E2.avH r2.il e _ λv H' s r=>k v H' (s12.trans s) r.t
theorem Zgd{i:Addr->Prop}{H:Hp}{b:List Nat}{vs:List V}(h:VQ cA i H [.str b] vs):vs=[S b]:=by
 obtain⟨v,t,rfl,hx⟩:=il1 h;rw [show v=S b from hx]
def strs? : List D->Option (List (List Nat))
 | []=>some []
 | .str a::r=>match strs? r with
  |some l=>some (a::l)
  |none=>none
 |_=>none
theorem Zcy:∀{xs:List D}{l:List (List Nat)},strs? xs=some l->xs=l.map D.str
 | [],l,h=>by cases h;rfl
 |x::xs,l,h=>by
  cases x<;>first|(cases h;done)|skip
  rename_i a;unfold strs? at h;cases hr:strs? xs with
  |none=>rw [hr]at h;cases h
  |some r=>
   rw [hr]at h;cases h;rw [List.map_cons,Zcy hr]
theorem ZbB(l:List (List Nat)):strs? (l.map D.str)=some l:=by
 induction l with
 |nil=>rfl
 |cons a l ih=>rw [List.map_cons,strs?,ih]
def joinD(sep:List Nat):List D->Option D
 | [.lst xs]=>match strs? xs with
  |some l=>if(l.map List.length).sum+l.length*sep.length<=sizeLine then some (.str (Yw sep l))else none
  |none=>none
 |_=>none
theorem QB:U2 cA (λx xs H Q=>∃sep p l,x=S sep/\xs=[.ref p]/\SqL cA.K H p (l.map S)/\(l.map List.length).sum+l.length*sep.length<=sizeLine/\Q (S (Yw sep l)) H) joinD:=λi H a ds vs d _ h e Q k=>by
 unfold joinD at e
 split at e
 · rename_i xs
   cases hs:strs? xs with
   |none=>rw [hs]at e;cases e
   |some l=>
    rw [hs]at e;dsimp only at e
    by_cases hz:(l.map List.length).sum+l.length*a.length<=sizeLine
    · rw [if_pos hz]at e
      cases e;obtain⟨v,t,rfl,p,ws,rfl,_,rd,ll⟩:=il1 h;have ex:=Zcy hs;subst ex;have ev:=ll.vals (by rw [List.all_map];exact List.all_eq_true.mpr λ_ _=>rfl);rw [List.map_map]at ev;subst ev;exact⟨a,p,l,rfl,rfl,rd,hz,k _ H (Same.refl H) rfl⟩
    · rw [if_neg hz]at e;cases e
 · cases e
end
end DL
namespace L2
open PySem PySem.Spec
structure FunX(K:PySem.W.Frag)(x qual:Str)(st:Stmt)(f:Addr)(fd:FuncData):Prop where
 ex:∃(oc:Value) (od:Option Addr) (dV kV doc pm:Value) (an:Option Addr) (cdv ct:Value) (osl:Array (Option Value)),
  fd=fnOf x qual (defArgs st) (defBody st) (defScope st) dV kV doc pm an cdv ct/\K.lookup f=some ⟨oc,od,.func fd,osl⟩/\codeIn K cdv qual=true
theorem Fun.x{K:PySem.W.Frag}{x qual:Str}{st:Stmt}{f:Addr}{fd:FuncData}(F:Fun K x qual st f fd):FunX K x qual st f fd:=by
 obtain⟨oc,od,kV,doc,pm,an,cdv,ct,osl,h⟩:=F.ex;exact⟨oc,od,.none,kV,doc,pm,an,cdv,ct,osl,h⟩
section
variable{P:Program}{w:World}{K:PySem.W.Frag}{mg:Str->Option Value}{base:Heap}
theorem FunX.ok {x qual:Str} {st:Stmt} {f:Addr} {fd:FuncData} {N ps:List Str} {k:Nat} {sp:Sp} (F:FunX K x qual st f fd) (S:FnScope N ps (defScope st)) (len:∀vs H Q E,sp vs H Q E->vs.length=ps.length)
 (hbody:∀(cdv:Value)(A:Around)(outer:List Env)(s:Shared)(H:Hp)(vs:List V)(Q:VK)(E:XK),Room k (A.deeper (PyProof.Rows.envOfC qual (defScope st) s.heap.objs.size f cdv))->sp vs H Q E ->
   ∃t,PSs (Xo CX0 P w K mg base N qual (defScope st) f cdv A outer s H E).nox (defBody st) t/\t { nx:=λ_ H'=>Q .non H',rt:=Q } (start N vs) H):FnOk P w K mg base CX0 (k+1) f fd ps sp:=by
 obtain⟨oc,od,dV,kV,doc,pm,an,cdv,ct,osl,rfl,lk,hcd⟩:=F.ex;refine Zfu lk hcd S len λA outer s H vs Q E hr hsp => ?_
 obtain⟨t,h,q⟩:=hbody cdv A outer s H vs Q E hr hsp;exact⟨t,h.nox,q⟩
end
section
variable{X:Cx}
end
structure CMeth(K:PySem.W.Frag)(C:Addr)(m:Str)(f:Addr):Prop where
 ga:PySem.W.specialIn K (.ref C) "__getattribute__" = some (some (.builtin "type.__getattribute__"))
 rd:PySem.W.readsIn K C (.type "type")=true
 fc:PySem.W.findCls K (.ref C) (.type "type") m=some (.val (.ref f))
 kp:keepIn K (.ref f)=true
section
variable{X:Cx}{CX:CXT}{k:Nat}{f C:Addr}{fd:FuncData}{ps:List Str}{sp:Sp}{dvs:List V}{ds:List Value}{E:XK}{x m:Str}{p pos apos:Pos}{e o:Expr}{es:List Expr}{ta:TE}{t:TA}
end
end L2
namespace DL
open PySem PySem.Spec L2
theorem Zad{a b:String}(h:Str.ofString a=Str.ofString b):a=b:=by
 rw [Str.ofString_eq_toList,Str.ofString_eq_toList]at h
 have h1:(a.toList.map Char.toNat)=(b.toList.map Char.toNat):=by
  have:=congrArg (λs:Str=>s.cps.toList) h;simpa using this
 have inj:∀{x y:List Char},x.map Char.toNat=y.map Char.toNat->x=y:=by
  intro x
  induction x with
  |nil=>
   intro y h;cases y with
   |nil=>rfl
   |cons _ _=>cases h
  |cons c x ih=>
   intro y h;cases y with
   |nil=>cases h
   |cons d y=>
    rw [List.map_cons,List.map_cons,List.cons.injEq]at h;have:c=d:=Char.toNat_inj.mp h.1;rw [this,ih h.2]
 exact String.toList_inj.mp (inj h1)
theorem Zae(a b:String):(Str.ofString a == Str.ofString b)=(a == b):=by
 rw [Bool.eq_iff_iff,beq_iff_eq,beq_iff_eq];exact⟨Zad,λh=>by rw [h]⟩
section
variable{cA:Kn}{G:Cn}{ow owN owB owC:List Nat}
theorem ZbC{av:Addr->Prop}{H:Hp}{f:String}:∀{ks:List String}{xs:List D}{vs:List V}{d:D},RepL cA av H xs vs->(ks.zip xs).lookup f=some d->∃v,((ks.map Str.ofString).zip vs).lookup (Str.ofString f)=some v/\Rep cA av H d v
 | [],_,_,_,_,h=>by simp at h
 |k::ks,[],_,_,_,h=>by simp at h
 |k::ks,x::xs,vs,d,l,h=>by
  obtain⟨v,r,rfl,h1,h2⟩:=l.uncons;rw [List.zip_cons_cons,List.lookup_cons]at h;rw [List.map_cons,List.zip_cons_cons,List.lookup_cons,Zae];cases hk:f == k with
  |true=>rw [hk]at h;cases h;exact⟨v,rfl,h1⟩
  |false=>rw [hk]at h;exact ZbC h2 h
theorem ZbD{f:String}:∀{ks:List String}{vs:List V},ks.contains f=false->((ks.map Str.ofString).zip vs).lookup (Str.ofString f)=none
 | [],_,_=>by simp
 |k::ks,[],_=>by simp
 |k::ks,v::vs,h=>by
  rw [List.contains_cons,Bool.or_eq_false_iff]at h;rw [List.map_cons,List.zip_cons_cons,List.lookup_cons,Zae,h.1];exact ZbD h.2
theorem Zcz{f:String}{y:V}:∀{ks:List String}{vs:List V},ks.length=vs.length->ks.contains f=false->Yt (Str.ofString f) y ((ks.map Str.ofString).zip vs)=(((ks++[f]).map Str.ofString).zip (vs++[y]))
 | [],[],_,_=>rfl
 | [],_::_,h,_=>by simp at h
 |_::_,[],h,_=>by simp at h
 |k::ks,v::vs,h,hf=>by
  rw [List.contains_cons,Bool.or_eq_false_iff]at hf
  have hne:¬Str.ofString k=Str.ofString f:=λz=>by
   have:=Zad z;have h1:=hf.1;rw [this]at h1;simp at h1
  rw [List.map_cons,List.zip_cons_cons,List.cons_append,List.cons_append,List.map_cons,List.zip_cons_cons];rw [show Yt (Str.ofString f) y ((Str.ofString k,v)::(ks.map Str.ofString).zip vs)=(if Str.ofString k=Str.ofString f then(Str.ofString k,y)::(ks.map Str.ofString).zip vs else(Str.ofString k,v)::Yt (Str.ofString f) y ((ks.map Str.ofString).zip vs))from rfl,if_neg hne];rw [Zcz (by simpa using h) hf.2]
def VW(K:PySem.W.Frag)(cA:Kn)(cls:List String)(f:String):Prop:=∀c∈cls,Cls K (cA.c c)/\NoAttr K (cA.c c) (Str.ofString f)
def Zw(cls:List String)(f:String)(a:Env->Option D)(δ:Env):Option D:=match a δ with
 |some (.obj c ks xs)=>if cls.contains c then(ks.zip xs).lookup f else none
 |_=>none
theorem YJ{K:PySem.W.Frag}{ta:TE}{q:Ql}{a:Env->Option D}{cls:List String}{f:String}(F:VW K G.1 cls f)(ha:VE G ow ta q a):VE G ow (Jo K ta (Str.ofString f)) q.it (Zw cls f a):=λH0 av A σ H δ E d e Q k=>by
 unfold Zw at e;cases he:a δ with
 |none=>rw [he]at e;cases e
 |some x=>
  rw [he]at e;cases x<;>first|(cases e;done)|skip
  rename_i c ks xs;dsimp only at e
  by_cases hc:cls.contains c=true
  · rw [if_pos hc]at e
    obtain⟨h1,h2⟩:=F c (by simpa using hc);refine ha H0 av A σ H δ E _ he _ λv H1 s r => ?_
    obtain⟨p,dx,vs,rfl,_,rd,_,l⟩:=r.tp;obtain⟨w,hw,rw'⟩:=ZbC l e;refine⟨p,_,dx,_,w,rfl,rd,h1,h2,hw,k w H1 s ?_⟩;cases q<;>exact rw'.t
  · rw [if_neg hc]at e;cases e
def YZ(i:Nat)(cls:List String)(f:String)(ε:Env->Option D)(δ:Env):Option Out:=match ε δ with
 |some d=>match Za i δ with
  |some (.obj c ks xs)=>if cls.contains c && !ks.contains f&&decide (ks.length<1000)then some (.nx (δ.set i (some (.obj c (ks++[f]) (xs++[d])))))else none
  |_=>none
 |none=>none
theorem U3{K:PySem.W.Frag}{te:TE}{ε:Env->Option D}{cls:List String}{f:String}(i:Nat)(hi:ow.contains i=true)(F:VW K G.1 cls f)(h:VE G ow te .cl ε):VS G ow ow owB owC (ZhQ K (Vz i) te (Str.ofString f)) (YZ i cls f ε):=λH0 av A σ H δ E o e De k=>by
 unfold YZ at e;cases he:ε δ with
 |none=>rw [he]at e;cases e
 |some d=>
  rw [he]at e;dsimp only at e;cases hv:Za i δ with
  |none=>rw [hv]at e;cases e
  |some x=>
   rw [hv]at e;cases x<;>first|(cases e;done)|skip
   rename_i c ks xs;dsimp only at e
   by_cases hz:(cls.contains c && !ks.contains f&&decide (ks.length<1000))=true
   · rw [if_pos hz]at e
     cases e;simp only [Bool.and_eq_true,decide_eq_true_eq,Bool.not_eq_true']at hz;obtain⟨⟨z1,z2⟩,z3⟩:=hz;obtain⟨h1,h2⟩:=F c (by simpa using z1);have hi':i∈ow:=by simpa using hi
     cases hA:A i with
     |none=>exact absurd hA (E.dom' i hi')
     |some a=>
      refine h H0 av A σ H δ E d he _ λy H1 s r => ?_
      have E1:=E.mono s;obtain⟨v,g1,_,g3⟩:=E1.var i _ (VL hv);obtain⟨rfl,dx,vs,q1,q0,q2⟩:=g3 a hA;have hl:ks.length=vs.length:=q0.trans q2.length;refine⟨_,g1,a,_,dx,_,rfl,q1,h1,h2,?_,k A σ _ (E1.put hA (VL hv) (λb o hb e=>by rw [ZF hb];exact e) (by rw [ZS];exact λz=>by cases z) ?_)⟩
      · rw [List.length_zip,List.length_map];omega
      · refine⟨dx,vs++[y],?_,by rw [List.length_append,List.length_append,q0];rfl,?_⟩
        · rw [ZS,Zcz hl z2]
        · have ex : ∀ b o, ¬ AV av A b -> H1 b = some o -> upd H1 a (.ins (G.1.c c) dx (Yt (Str.ofString f) y ((ks.map Str.ofString).zip vs))) b = some o := fun b o n e => by
           rw [ZF λz=>n (.inr ⟨i,by rw [z];exact hA⟩)];exact e
          exact(q2.append (.cons (RepT.r r) .nil)).ext ex
   · rw [if_neg hz]at e;cases e
def spI(cA:Kn)(n:Nat)(m:List D->Option D):Sp:=λvs H Q _=>∃(x:Addr) (r:List V) (av:Addr->Prop) (ds:List D) (d d':D),vs = .ref x::r/\(∀a,av a->H a≠none)/\¬av x/\Own cA (λa=>av a\/a=x) H d x/\RepL cA (λa=>av a\/a=x) H ds r/\(d::ds).length=n/\m (d::ds)=some d' /\
 ∀H',(∀b o,b≠x->H b=some o->H' b=some o)->Own cA (λa=>av a\/a=x) H' d' x->Q .non H'
theorem Own.live{av:Addr->Prop}{H:Hp}{d:D}{a:Addr}(h:Own cA av H d a):H a≠none:=by
 cases d with
 |lst xs=>obtain⟨vs,q,_⟩:=h;rw [q];exact λz=>by cases z
 |obj c ks xs=>obtain⟨dx,vs,q,_⟩:=h;rw [q];exact λz=>by cases z
 |dct ks xs=>obtain⟨vs,q,_⟩:=h;rw [q];exact λz=>by cases z
 |dtt ks xs=>obtain⟨vs,q,_⟩:=h;rw [q];exact λz=>by cases z
 |_=>exact h.elim
theorem Own.av{av av':Addr->Prop}{H:Hp}{d:D}{a:Addr}(k:∀b,av' b->av b\/H b=none)(h:Own cA av H d a):Own cA av' H d a:=by
 cases d with
 |lst xs=>obtain⟨vs,q,l⟩:=h;exact⟨vs,q,l.av k⟩
 |obj c ks xs=>obtain⟨dx,vs,q,z,l⟩:=h;exact⟨dx,vs,q,z,l.av k⟩
 |dct ks xs=>obtain⟨vs,q,z,l⟩:=h;exact⟨vs,q,z,l.av k⟩
 |dtt ks xs=>obtain⟨vs,q,z,l⟩:=h;exact⟨vs,q,z,l.av k⟩
 |_=>exact h.elim
theorem Own.rep{av:Addr->Prop}{H:Hp}{d:D}{a:Addr}(n:¬av a)(h:Own cA av H d a):Rep cA av H d (.ref a):=by
 cases d with
 |lst xs=>obtain⟨vs,q,l⟩:=h;unfold Rep;exact⟨a,vs,rfl,λz=>(n z).elim,SqL.of q,l⟩
 |obj c ks xs=>obtain⟨dx,vs,q,z,l⟩:=h;unfold Rep;exact⟨a,dx,vs,rfl,n,q,z,l⟩
 |dct ks xs=>obtain⟨vs,q,z,l⟩:=h;unfold Rep;exact⟨a,vs,rfl,n,q,z,l⟩
 |dtt ks xs=>obtain⟨vs,q,z,l⟩:=h;unfold Rep;exact⟨a,vs,rfl,n,q,z,l⟩
 |_=>exact h.elim
def XT(c:String)(n:Nat)(m:List D->Option D)(dds:List D)(α:Env->Option (List D))(δ:Env):Option D:=match α δ with
 |some ds=>if(D.obj c [] []::(ds++dds)).length=n then m (.obj c [] []::(ds++dds))else none
 |none=>none
theorem ZcA{n:Nat}{m:List D->Option D}{t:TA}{α:Env->Option (List D)}{E0:XK}{c:String}(dds:List D)(hd:dds.all ZK=true)(h:VA G ow t .cl α):VE G ow (Zft (G.1.c c) (spI G.1 n m) (dds.map val) E0 t) .cl (XT c n m dds α):=λH0 av A σ H δ E d e Q k=>by
 unfold XT at e;cases he:α δ with
 |none=>rw [he]at e;cases e
 |some ds=>
  rw [he]at e;dsimp only at e
  by_cases hz:(D.obj c [] []::(ds++dds)).length=n
  · rw [if_pos hz]at e
    refine h H0 av A σ H δ E ds he _ λvs H1 s1 r1 x dx hx hdx hne => ?_
    have E1:=E.mono s1;have s2:Same H1 (upd (upd H1 dx (.own x)) x (.ins (G.1.c c) dx [])):=(ZT hdx).trans (ZT (by rw [ZF (Ne.symm hne)];exact hx));have nx:¬AV av A x:=λz=>E1.avl x z hx
    refine⟨x,vs++dds.map val,AV av A,ds++dds,.obj c [] [],d,rfl,λa z => ?_,nx,⟨dx,[],ZS,rfl,.nil⟩,?_,hz,e,λH' hk ho=>⟨rfl,k _ H' ?_ ?_⟩⟩
    · have:=E1.avl a z
      cases q:H1 a with
      |none=>exact absurd q this
      |some o=>rw [s2 a o q];exact λz=>by cases z
    · refine RepL.same s2 ((r1.cl.append (.of_vals hd)).av λb z => ?_)
      rcases z with z|z
      · exact .inl z
      · exact .inr (by rw [z];exact hx)
    · refine s1.trans λb o e=>hk b o (λz=>by rw [z,hx]at e;cases e) (s2 b o e)
    · exact((ho.av λb z => .inl (.inl z)).rep nx).t
  · rw [if_neg hz]at e;cases e
def ZfB(i n:Nat)(m:List D->Option D)(dds:List D)(α:Env->Option (List D))(δ:Env):Option Out:=match Za i δ with
 |some d=>match α δ with
  |some ds=>if(d::(ds++dds)).length=n then(match m (d::(ds++dds))with
   |some d'=>some (.nx (δ.set i (some d')))
   |none=>none)else none
  |none=>none
 |none=>none
def runI(N:Nat)(φ:Env->Option Out)(ds:List D):Option D:=match φ (ds.map some++List.replicate (N-ds.length) none)with
 |some (.nx δ)=>Za 0 δ
 |_=>none
section
variable{P:Program}{w:World}{K:PySem.W.Frag}{mg:Str->Option Value}{base:Heap}
theorem Zik {x qual:Str} {st:Stmt} {f:Addr} {fd:FuncData} {N ps:List Str} {k:Nat} {φ:Env->Option Out} (F:FunX K x qual st f fd) (S:FnScope N ps (defScope st))
 (hbody:∀(cdv:Value)(A:Around)(outer:List PySem.Env)(s:Shared)(H:Hp)(E:XK)(a:Addr),Room k (A.deeper (PyProof.Rows.envOfC qual (defScope st) s.heap.objs.size f cdv)) ->
   ∃t,PSs (Xo CX0 P w K mg base N qual (defScope st) f cdv A outer s H E).nox (defBody st) t/\VS ⟨cA,λj=>if j=0 then some (.inl a)else none⟩ [0] [0] [] [] t φ):FnOk P w K mg base CX0 (k+1) f fd ps (spI cA ps.length (runI N.length φ)):=by
 refine F.ok S (λvs H Q E h => ?_) λcdv A outer s H vs Q E hr h => ?_
 · obtain⟨x,r,av,ds,d,d',rfl,_,_,_,l,hl,_⟩:=h
   rw [<-hl,List.length_cons,List.length_cons,l.length]
 · obtain⟨x,r,av,ds,d,d',rfl,ha,nx,ho,l,hl,hm,q⟩:=h
   obtain⟨t,ht,hv⟩:=hbody cdv A outer s H E x hr;refine⟨t,ht,?_⟩;unfold runI at hm;cases hφ:φ ((d::ds).map some++List.replicate (N.length-(d::ds).length) none)with
   |none=>rw [hφ]at hm;cases hm
   |some o=>
    rw [hφ]at hm;cases o<;>first|(cases hm;done)|skip
    rename_i δ';have hm:Za 0 δ'=some d':=hm
    have hAV:∀b,AV av (λj=>if j=0 then some x else none) b ↔ av b\/b=x:=λb=>by
     constructor
     · rintro(z|⟨j,z⟩)
       · exact .inl z
       · by_cases e:j=0
         · simp [e]at z;exact .inr z.symm
         · simp [e]at z
     · rintro(z|z)
       · exact .inl z
       · exact .inr ⟨0,by simp [z]⟩
    have E0:ER ⟨cA,λj=>if j=0 then some (.inl x)else none⟩ [0] (λb=>if b=x then none else H b) av (λj=>if j=0 then some x else none) (L2.start N (.ref x::r)) H ((d::ds).map some++List.replicate (N.length-(d::ds).length) none):=by
     refine⟨λb o e => ?_,λa z => ?_,λi a e => ?_,λi j a e1 e2 => ?_,λi a e => ?_,λi e => ?_,λi hi => ?_,?_,(λi a e=>by
      by_cases q:i=0
      · simp [q]at e;simp [q,e]
      · simp [q]at e),(λi v e=>by
      by_cases q:i=0
      · simp [q]at e
      · simp [q]at e),λi d'' e => ?_⟩
     · by_cases q:b=x
       · simp [q]at e
       · simpa [q]using e
     · have:a≠x:=λq=>nx (q▸z)
       simp [this];exact ha a z
     · by_cases q:i=0
       · simp [q]at e;simp [e]
       · simp [q]at e
     · by_cases q:i=0
       · by_cases q2:j=0
         · rw [q,q2]
         · simp [q2]at e2
       · simp [q]at e1
     · by_cases q:i=0
       · simp [q]at e;subst e;exact ho.live
       · simp [q]at e
     · by_cases q:i=0
       · simp [q]
       · simp [q]at e
     · have:i=0:=by simpa using hi
       simp [this]
     · unfold L2.start
       rw [List.length_append,List.length_append,List.length_map,List.length_map,List.length_replicate,List.length_replicate,List.length_cons,List.length_cons,l.length]
     · by_cases q:i=0
       · subst q
         have e':d=d'':=by simpa using e
         subst e'
         exact⟨.ref x,by simp [L2.start],λz=>by simp at z,λa z=>by
          simp at z;subst z;exact⟨rfl,ho.av λb z => .inl ((hAV b).mp z)⟩⟩
       · obtain⟨i,rfl⟩:∃i',i=i'+1:=⟨i-1,by omega⟩
         have e2:(ds.map some++List.replicate (N.length-(ds.length+1)) none)[i]? = some (some d''):=by simpa using e
         by_cases hi:i<ds.length
         · rw [List.getElem?_append_left (by simpa using hi),List.getElem?_map]at e2
           cases hd:ds[i]? with
           |none=>rw [hd]at e2;cases e2
           |some z=>
            rw [hd]at e2;cases e2;obtain⟨v,hv',rv⟩:=l.get hd;refine⟨v,?_,λ_=>rv.av λb z => .inl ((hAV b).mp z),λa z=>by simp at z⟩;unfold L2.start;have:i+1<(V.ref x::r).length:=by rw [List.length_cons,<-l.length];omega
            rw [List.getElem?_append_left (by simpa using this),List.getElem?_map];simp [hv']
         · rw [List.getElem?_append_right (by simpa using hi),List.getElem?_replicate]at e2
           split at e2<;>cases e2
    refine hv _ av _ _ H _ E0 _ hφ _ λA' σ' H' E' => ?_
    have hA':A' 0=some x:=E'.pin 0 x (by simp);obtain⟨v,_,_,g3⟩:=E'.var 0 d' (VL hm);obtain⟨_,ho'⟩:=g3 x hA';refine q H' (λb o hb e=>E'.same b o (by simpa [hb]using e)) (ho'.av λb z => ?_);rcases z with z|z
    · exact .inl (.inl z)
    · exact .inl (.inr ⟨0,by rw [hA',z]⟩)
theorem ZgM {x qual:Str} {st:Stmt} {f:Addr} {fd:FuncData} {N ps:List Str} {k:Nat} {φ:Env->Option Out} (F:FunX K x qual st f fd) (S:FnScope N ps (defScope st))
 (hbody:∀(cdv:Value)(A:Around)(outer:List PySem.Env)(s:Shared)(H:Hp)(E:XK),Room k (A.deeper (PyProof.Rows.envOfC qual (defScope st) s.heap.objs.size f cdv)) ->
   ∃t,PSs (Xo CX0 P w K mg base N qual (defScope st) f cdv A outer s H E).nox (defBody st) t/\∃owN,VS ⟨cA,λ_=>none⟩ [] owN [] [] t φ):FnOk P w K mg base CX0 (k+1) f fd ps (spD cA ps.length (run N.length φ)):=by
 refine F.ok S (λvs H Q E h => ?_) λcdv A outer s H vs Q E hr h => ?_
 · obtain⟨av,ds,d,_,r,hl,_⟩:=h
   rw [<-r.length,hl]
 · obtain⟨av,ds,d,ha,r,hl,hm,q⟩:=h
   obtain⟨t,ht,owN,hv⟩:=hbody cdv A outer s H E hr;refine⟨t,ht,?_⟩;unfold run at hm;cases hφ:φ (ds.map some++List.replicate (N.length-ds.length) none)with
   |none=>rw [hφ]at hm;cases hm
   |some o=>
    rw [hφ]at hm;refine hv H av _ _ H _ (ZbA ha r) o hφ _ ?_;cases o with
    |nx δ'=>cases hm;exact λA' σ' H' E'=>q .non H' E'.same rfl
    |rt d'=>cases hm;exact λv H' s' r'=>q v H' s' r'
    |bk δ'=>cases hm
    |ct δ'=>cases hm
end
abbrev MTab:=List (String×(Nat×(List D->Option D)))
structure MethOk(X:Cx)(cA:Kn)(k:Nat)(m:String)(c:String)(n:Nat)(mm:List D->Option D):Prop where
 ex:∃f fd ps,Cls X.K (cA.c c)/\Meth X.K (cA.c c) (Str.ofString m) f/\FnOk X.prog X.w X.K X.mg X.base CX0 k f fd ps (spD cA n mm)/\Binds X.K fd ps []
def MTOk(X:Cx)(cA:Kn)(k:Nat)(m:String):MTab->Prop
 | []=>True
 |(c,n,mm)::r=>MethOk X cA k m c n mm/\MTOk X cA k m r
theorem MTOk.get{X:Cx}{k:Nat}{m:String}:∀{tab:MTab}{c:String}{n:Nat}{mm:List D->Option D},MTOk X cA k m tab->tab.lookup c=some (n,mm)->MethOk X cA k m c n mm
 | [],_,_,_,_,h=>by simp at h
 |(c',n',mm')::r,c,n,mm,T,h=>by
  rw [List.lookup_cons]at h;cases hc:c == c' with
  |true=>
   rw [hc]at h;cases h;have:c=c':=eq_of_beq hc;subst this;exact T.1
  |false=>
   rw [hc]at h;exact MTOk.get T.2 h
def Zee(cA:Kn)(m:String)(tab:MTab)(ta:TE)(t:TA):TE:=λσ H Q=>ta σ H λx H1=>∃a dx fs c n mm,x = .ref a/\H1 a=some (.ins (cA.c c) dx fs)/\fs.lookup (Str.ofString m)=none/\tab.lookup c=some (n,mm)/\t σ H1 λvs H2=>spD cA n mm (x::vs) H2 Q E0
theorem QC {X:Cx} {k:Nat} {m:String} {tab:MTab} {o:Expr} {ta:TE} {pos apos:Pos} {pl:Sem Bool} (T:MTOk X cA k m tab) (hr:Room k X.A) (he:PE X o ta)
 (ht:eval (.Call (.Attribute o (Str.ofString m) apos) [] [] pos) X.env=(do
   let ov <-eval o X.env
   standAt apos.atName
   let(f,first) <-holding [ov] (getMethod ov (Str.ofString m) pl)
   callWith pos f first (backTo pos (starEach [] X.env)) (backToKw pos (keywordEach [] X.env))):=by rfl) :
 PE X (.Call (.Attribute o (Str.ofString m) apos) [] [] pos) (Zee cA m tab ta tNil):=by
 intro pins s σ H Q I h;refine PySem.W.methodCall_KW (pl:=pl) (thn (he pins s σ H _ I h) λu s1 ⟨x,H1,I1,rx,a,dx,fs,c,n,mm,ex,ea,l,tl,q⟩ => ?_) ht;subst ex;obtain rfl:u=Value.ref a:=rx;obtain⟨f,fd,ps,hc,hm,F,hb⟩:=(T.get tl).ex;refine ZbU I1 ea hc hm l ?_;exact PySem.W.callWith_K0 (first:=[.ref a]) I1.kIn hm.kp (Zd3 (us:=[.ref a]) (vs:=[.ref a]) (dvs:=[]) (ds:=[]) F hr hb .nil Zy I1 (.cons rfl .nil) (by rw [List.append_nil];exact q))
def YU(m:String)(tab:MTab)(a:Env->Option D)(α:Env->Option (List D))(δ:Env):Option D:=match a δ with
 |some (.obj c ks xs)=>if ks.contains m then none else(match tab.lookup c with
  |some (n,mm)=>match α δ with
   |some ds=>if(D.obj c ks xs::ds).length=n then mm (.obj c ks xs::ds)else none
   |none=>none
  |none=>none)
 |_=>none
theorem QD{m:String}{tab:MTab}{ta:TE}{t:TA}{a:Env->Option D}{α:Env->Option (List D)}(ha:VE G ow ta .cl a)(h:VA G ow t .cl α):VE G ow (Zee G.1 m tab ta t) .cl (YU m tab a α):=λH0 av A σ H δ E d e Q k=>by
 unfold YU at e;cases hx:a δ with
 |none=>rw [hx]at e;cases e
 |some x=>
  rw [hx]at e;cases x<;>first|(cases e;done)|skip
  rename_i c ks xs;dsimp only at e;cases hf:ks.contains m with
  |true=>rw [hf,if_pos rfl]at e;cases e
  |false=>
   rw [hf,if_neg Bool.false_ne_true]at e;cases htb:tab.lookup c with
   |none=>rw [htb]at e;cases e
   |some p=>
    obtain⟨n,mm⟩:=p;rw [htb]at e;dsimp only at e;cases he:α δ with
    |none=>rw [he]at e;cases e
    |some ds=>
     rw [he]at e;dsimp only at e
     by_cases hz:(D.obj c ks xs::ds).length=n
     · rw [if_pos hz]at e
       refine ha H0 av A σ H δ E _ hx _ λv H1 s1 r1 => ?_
       obtain⟨p,dx,vs,rfl,np,rd,zl,l⟩:=r1;refine⟨p,dx,_,c,n,mm,rfl,rd,ZbD hf,htb,h H0 av A σ H1 δ (E.mono s1) ds he _ λws H2 s2 r2 => ?_⟩;have E2:=(E.mono s1).mono s2;refine⟨AV av A,.obj c ks xs::ds,d,E2.avl,.cons ?_ r2.cl,hz,e,λv H' s r=>k v H' ((s1.trans s2).trans s) r.t⟩;unfold Rep;exact⟨p,dx,vs,rfl,np,s2 _ _ rd,zl,l.same s2⟩
     · rw [if_neg hz]at e;cases e
def isD:D->D->Option D
 | .bl a,.bl b=>some (.bl (a == b))
 |_,_=>none
end
end DL
namespace DL
open PySem PySem.Spec L2
section
variable{cA:Kn}{G:Cn}{ow:List Nat}
end
end DL
namespace DL
open PySem PySem.Spec L2
section
variable{cA:Kn}{P:Program}{w:World}{K:PySem.W.Frag}{mg:Str->Option Value}{base:Heap}
theorem Z9 {x qual:Str} {st:Stmt} {f:Addr} {fd:FuncData} {N ps:List Str} {k:Nat} {φ:Env->Option Out} {body:List Stmt} {scope:Scope} {n:Nat} {m:List D->Option D} (F:FunX K x qual st f fd) (S:FnScope N ps (defScope st)) (hS:defScope st=scope) (hB:defBody st=body)
 (hbody:∀(cdv:Value)(A:Around)(outer:List PySem.Env)(s:Shared)(H:Hp)(E:XK),Room k (A.deeper (PyProof.Rows.envOfC qual scope s.heap.objs.size f cdv)) ->
   ∃t,PSs (Xo CX0 P w K mg base N qual scope f cdv A outer s H E).nox body t/\∃owN,VS ⟨cA,λ_=>none⟩ [] owN [] [] t φ)  (hm:m=run N.length φ) (hn:ps.length=n):FnOk P w K mg base CX0 (k+1) f fd ps (spD cA n m):=by
 subst hS hB hm hn;exact ZgM F S hbody
theorem ZgN {x qual:Str} {st:Stmt} {f:Addr} {fd:FuncData} {N ps:List Str} {k:Nat} {φ:Env->Option Out} {body:List Stmt} {scope:Scope} {n:Nat} {m:List D->Option D} (F:FunX K x qual st f fd) (S:FnScope N ps (defScope st)) (hS:defScope st=scope) (hB:defBody st=body)
 (hbody:∀(cdv:Value)(A:Around)(outer:List PySem.Env)(s:Shared)(H:Hp)(E:XK)(a:Addr),Room k (A.deeper (PyProof.Rows.envOfC qual scope s.heap.objs.size f cdv)) ->
   ∃t,PSs (Xo CX0 P w K mg base N qual scope f cdv A outer s H E).nox body t/\VS ⟨cA,λj=>if j=0 then some (.inl a)else none⟩ [0] [0] [] [] t φ)  (hm:m=runI N.length φ) (hn:ps.length=n):FnOk P w K mg base CX0 (k+1) f fd ps (spI cA n m):=by
 subst hS hB hm hn;exact Zik F S hbody
end
end DL
namespace DL
open PySem PySem.Spec L2 PyProof.Rows
section
variable{X:Cx}{K:PySem.W.Frag}{cA:Kn}
end
end DL
namespace L2
open PySem PySem.Spec PyProof.Rows
section
variable{X:Cx}{scope:Scope}{tn cn:List Str}{js:List Nat}{tg iter elt:Expr}{ifs:List Expr}{pos spos pos':Pos}{wi:TI}{g:TG}{tt:TT}{te:TE}
theorem ZcB {i:Nat} {x:Str} (hN:X.N.Nodup) (hi:X.N[i]? = some x) (hx:X.env.scope.names.lookup x=some .local) (hc:X.calm=true) (S:CompSc X scope tn cn js) (hI:PI X tg iter wi)
 (hg:∀C s₂ H₂ fp,PG (Xq X scope (tn++cn) C s₂ H₂ fp) tg g) (ht:∀C s₂ H₂ fp,PTs (Xq X scope (tn++cn) C s₂ H₂ fp) ifs tt) (he:∀C s₂ H₂ fp,PE (Xq X scope (tn++cn) C s₂ H₂ fp) elt te)
 (hsw:swapsWith (.ListComp elt [⟨tg,iter,ifs,0⟩] scope pos) (some (.Name x pos')) spos.line X.env=pure true:=by rfl)
 (hs:∀x,foldedSetIterable iter X.env x=pure x:=by intro _;rfl) :
 PS X (.Assign [.Name x pos'] (.ListComp elt [⟨tg,iter,ifs,0⟩] scope pos) spos) (Va (Qr wi g tt te tn.length js) (X9 i)):=by
 intro pins s σ H D I h;rw [exec_Assign_Name_used _ _ _ _ hsw];refine wpAny_bind (wpAny_standAt (wpAny_bind ?_));show wpAny _ X.A (do let _ <-comprehension (.ListComp elt [⟨tg,iter,ifs,0⟩] scope pos) scope X.env _ (newList []) false (eval iter X.env) (some (assign (.Name x pos') X.env))) _ _ s
 refine wpAny_bind (wpAny_mono (wpAny_comprehension_free (use:=some (assign (.Name x pos') X.env)) (Q:=λ_ s'=>SP X pins D .next s') (cl:=YQ X.env.cells scope.names []) rfl hs (Zab (S.clos I.ok)) S.kind S.names
  (thn (hI pins s σ H _ I h) λv s1 h1=>thn h1 λitv s2 h2 => ?_)) (λ_ s' hq=>wpAny_pure (wpAny_pure hq)) λ_ _ e=>e)
 obtain⟨it,fp,tnx,J,H2,e,I2,T,st2,f2,W,⟨m0,w0⟩,turn⟩:=h2;subst e;refine Zat (RR:=λacc C=>compPost (model X.prog X.w) X.A X.xe (some (assign (.Name x pos') X.env)) (λ_ s'=>SP X pins D .next s') acc C) (W:=W) (m0:=m0) hc S hg ht he I2 T st2 f2 w0 λi' m ys H w => ?_
 rcases turn i' m ys H w with⟨stop,qn⟩|r
 · refine .inl ⟨stop,λC D' s its n σ' hC hD hDC hv hz I' => ?_⟩
   obtain⟨m',hn,_⟩:=id I'.loc;have pd:=I'.pin (D',{ cls := .type "list",data := .seq its.toArray n }) (List.mem_append_right _ List.mem_cons_self);have hCf:H C=none:=I'.free;have I1:Inv X pins σ (upd H D' (.lst ys)) { s with heap:=s.heap }:=Zbu S I2 hC hD hDC f2 I' hv hz (Heap.SameBut.refl _ _);show wpAny _ X.A (assign (.Name x pos') X.env (.ref D')) _ _ _;have hlC:X.env.locals≠C:=λz=>absurd (z▸I2.lt) (Nat.not_lt.mpr hC)
   have hcC:∀y c,X.env.cells.lookup y=some c->c≠C:=λy c e z=>by
    obtain⟨v',o',q,_⟩:=I2.cell y c e;exact absurd (Heap.lt_size q) (Nat.not_lt.mpr (z▸hC))
   refine wpAny_assign_Name (ZaM I1 hN hi (.inl hx) (v:=.ref D') rfl (λs3 I3 ⟨a,hsb,ha⟩ => ?_) (.inr hx))
   have hCa:C≠a:=by
    rcases ha with rfl|ha
    · exact Ne.symm hlC
    · exact Ne.symm (hcC _ _ ha)
   refine⟨m',hn.sameBut hsb hCa,λh' hs' => ?_⟩;have hCn:upd H D' (.lst ys) C=none:=by rw [ZF (Ne.symm hDC)];exact hCf
   have I4:Inv X pins (σ.set i (some (.ref D'))) (upd H D' (.lst ys)) { s3 with heap:=h',toks:=s3.toks }:=I3.turned (it:=C) (λb o hb e=>(hs'.2 b hb).trans e) hCn (Ne.symm hlC) (.inr (Nat.le_trans (Nat.le_trans I2.ok.above (Nat.le_of_lt I2.lt)) hC)) (λy c e=>hcC y c e) λp hp z=>by
    have:=(I2.pin p hp).1;exact absurd (Heap.lt_size this) (Nat.not_lt.mpr (z▸hC))
   exact⟨_,_,I4,qn D' pd.2.1⟩
 · exact .inr r
end
end L2
namespace L2
open PySem PySem.Spec PyProof.Rows Builtin Builtin.Str
theorem Zb5 {P:Program} {w:World} {A:Around} {E:Value->Shared->Prop} {s:Shared} {x y:Str} {tx' ty:Tok} {R:Value->Shared->Prop} (hy:(y.length == 0)=false) (hx:x.length+2<=sizeLine)
 (q:∀l k,l.map (·.1)=Txt.split x y->R (.ref s.heap.objs.size) { s with toks:=k,heap:=s.heap.push { cls := .type "list",data := .seq (strValues l).toArray } }) :
 wpAny (model P w) A (call (.builtin "str.split") [.str x tx',.str y ty]) R E s:=by
 have hp:(partsBetween x (occurrences x y 0 x.length (x.length+1)) y.length).length<=sizeLine:=by
  have b:=StrLaws.occ_length_le x y 0 x.length (x.length+1);rw [length_partsBetween];omega
 by_cases c1:(decide (x.length<y.length)||decide (strKind x<strKind y))=true
 · refine call_meets F.slot_str_split (typeIs_str _ _ _) F.entry_str_split (F.args_str_split_2 _ _) (meets_str_split_cannot_occur x y tx' ty c1) ?_
   exact q [(x,tx')] s.toks (if_pos c1).symm
 · have c1':=Bool.eq_false_iff.mpr c1
   by_cases c2:(occurrences x y 0 x.length (x.length+1)).isEmpty=true
   · refine call_meets F.slot_str_split (typeIs_str _ _ _) F.entry_str_split (F.args_str_split_2 _ _) (meets_str_split_not_found x y tx' ty c1' hy c2) ?_
     exact q [(x,tx')] s.toks ((if_neg c1).trans (if_pos c2)).symm
   · have c2':=Bool.eq_false_iff.mpr c2
     refine call_meets F.slot_str_split (typeIs_str _ _ _) F.entry_str_split (F.args_str_split_2 _ _) (meets_str_split_sep x y tx' ty c1' hy c2' (by omega) hp) ?_;show wants R E _ { s with toks:=_,heap:=s.heap.push { cls := .type "list",data := .seq (strsFrom s.toks (partsBetween x (occurrences x y 0 x.length (x.length+1)) y.length)).toArray } };rw [strsFrom_eq];refine q (numbered s.toks _) _ ((numbered_texts _ _).trans ?_)
     exact((if_neg c1).trans (if_neg c2)).symm
theorem ZaX:∀{l:List (Str×Tok)}{ps:List (List Nat)},l.map (·.1)=ps.map tx->Vals (ps.map S) (strValues l)
 | [],[],_ => .nil
 | [],_::_,h=>by cases h
 |_::_,[],h=>by cases h
 |(a,t)::l,p::ps,h=>by
  rw [List.map_cons,List.map_cons,List.cons.injEq]at h;obtain⟨h1,h2⟩:=h;have h1:a=tx p:=h1;subst h1;exact .cons ⟨t,rfl⟩ (ZaX h2)
section
variable{X:Cx}
theorem ZbE:MtR X "str.split" (λx xs H Q=>∃(a:List Nat) (c:Nat),x=S a/\xs=[S [c]]/\a.length+2<=sizeLine/\(Z2 c a).length<=sizeLine/\∀p,H p=none->Q (.ref p) (upd H p (.lst ((Z2 c a).map S)))):=by
 intro pins s σ H x xs v us Q I rx rs h;obtain⟨a,c,rfl,rfl,hz,hz2,q⟩:=h;obtain⟨t,rfl⟩:=rx;obtain⟨u,rfl,t',rfl⟩:=Xm rs;refine Zb5 (y:=tx [c]) (by rfl) (show(tx a).length+2<=sizeLine by rw [Yh];exact hz) λl k e => ?_
 rw [Zdz]at e;have hv:=ZaX e;have hfr:=I.fresh;refine⟨.ref s.heap.objs.size,_,I.laid (λb u e=>Heap.get?_push_of_some _ e) (Nat.le_refl _) ?_,rfl,q _ hfr⟩;exact⟨by simpa using hz2,strValues l,0,hv,Heap.get?_push_size _ rfl⟩
end
theorem Zav(c:Nat):∀a:List Nat,(Z2 c a).length<=a.length+1
 | []=>by simp [Z2]
 |x::a=>by
  have ih:=Zav c a;unfold Z2
  split
  · simp;omega
  · split
    · simp
    · rename_i p ps e
      rw [e]at ih;simp at ih ⊢;omega
end L2
namespace DL
open PySem PySem.Spec L2
variable{cA:Kn}
def splitD(a:List Nat):List D->Option D
 | [.str [c]]=>if a.length+2<=sizeLine then some (.lst ((Z2 c a).map D.str))else none
 |_=>none
theorem Zdh{av:Addr->Prop}{H:Hp}(l:List (List Nat)):RepL cA av H (l.map D.str) (l.map S):=by
 have:=RepL.of_vals (cA:=cA) (av:=av) (H:=H) (xs:=l.map D.str) (by rw [List.all_map];exact List.all_eq_true.mpr λ_ _=>rfl);rw [List.map_map]at this;exact this
theorem ZbF:U2 cA (λx xs H Q=>∃(a:List Nat) (c:Nat),x=S a/\xs=[S [c]]/\a.length+2<=sizeLine/\(Z2 c a).length<=sizeLine/\∀p,H p=none->Q (.ref p) (upd H p (.lst ((Z2 c a).map S)))) splitD:=λi H a ds vs d hi h e Q k=>by
 unfold splitD at e
 split at e
 · rename_i c
   by_cases hz:a.length+2<=sizeLine
   · rw [if_pos hz]at e
     cases e;have hl:=Zav c a;refine⟨a,c,rfl,Zgd h,hz,by omega,λp hp=>k _ _ (ZT hp) ⟨p,_,rfl,λz=>(hi p z hp).elim,SqL.of ZS,Zdh _⟩⟩
   · rw [if_neg hz]at e;cases e
 · cases e
end DL
namespace PySem
open Builtin SmallTypes
open AutoSeq1 (wpAny_loadPart')
end PySem
namespace PySem
open Sem (wp)
end PySem
namespace PySem
open Sem (wp)
section
variable{P:Program}{w:World}{A:Around}{E:Value->Shared->Prop}{s:Shared}
end
end PySem
namespace L2
open PySem PySem.Spec PyProof.Rows
end L2
namespace L2
open PySem PySem.Spec PyProof.Rows
section
variable{X:Cx}{elts:List Expr}{x1:Nat}{tpos:Pos}
end
end L2
namespace DL
open PySem PySem.Spec L2
section
variable{cA:Kn}{G:Cn}{ow:List Nat}
end
end DL
namespace PySem
open Builtin SmallTypes
open AutoSeq1 (wpAny_loadPart')
end PySem
namespace PySem
section
variable{P:Program}{w:World}{A:Around}{E:Value->Shared->Prop}{s:Shared}
end
end PySem
namespace L2
open PySem PySem.Spec PyProof.Rows
section
variable{X:Cx}{elts:List Expr}{x1:Nat}{tpos:Pos}
end
end L2
namespace DL
open PySem PySem.Spec L2
section
variable{cA:Kn}{G:Cn}{ow:List Nat}
end
end DL
namespace DL
open PySem PySem.Spec L2 PyProof.Rows
def Wd(i:Int):Prop:=i.natAbs<2 ^ 8000
instance (i:Int):Decidable (Wd i):=by unfold Wd;infer_instance
def CMulW(i j:Int):Prop:=(Wd i/\Wd j)\/CMul i j
instance (i j:Int):Decidable (CMulW i j):=by unfold CMulW;infer_instance
def UI(_ j:Int):Prop:=j≠0/\Wd j
instance (i j:Int):Decidable (UI i j):=by unfold UI;infer_instance
instance (i j:Int):Decidable (ZhP i j):=by unfold ZhP;infer_instance
theorem Zef{i:Int}(h:Wd i)(h0:i≠0):i.natAbs.log2<8000:=(Nat.log2_lt (by omega)).mpr h
theorem CMulW.ok{i j:Int}(h:CMulW i j):IntMulOk i j:=by
 rcases h with⟨h1,h2⟩|h
 · have bits : ∀ {a : Int}, Wd a -> Builtin.Int.intBits a <= 2 ^ 20 := fun {a} ha => by
    unfold Builtin.Int.intBits
    by_cases h0:a=0
    · subst h0;decide
    · have:=Zef ha h0
      have e:(2:Nat) ^ 20=1048576:=by decide
      rw [e]
      split<;>omega
   exact .of_bits (bits h1) (bits h2)
 · exact h.ok
section
variable{X:Cx}{cA:Kn}
theorem op_mulW:OpR X (binaryOp .Mult) (rI CMulW λi j => .int (i*j)):=opI λ_ _ _ _ _ _ _ hc q=>mul_int q hc.ok
theorem QE:OpR X (binaryOp .FloorDiv) (rI UI λi j => .int (i.fdiv j)):=opI λ_ _ _ _ _ _ _ hc q=>floordiv_int hc.1 q (.inl (PyProof.noPylong_of_log2 (Nat.lt_trans (Zef hc.2 hc.1) (by decide))))
def fdivW:D->D->Option D
 | .int i,.int j=>if UI i j then some (.int (i.fdiv j))else none
 |_,_=>none
def modW:D->D->Option D
 | .int i,.int j=>if j≠0 then some (.int (i.fmod j))else none
 |_,_=>none
theorem ZfC{C:Int->Int->Prop} [∀i j,Decidable (C i j)]{g:Int->Int->Int}{f:D->D->Option D}(hf:∀x y d,f x y=some d->∃i j,x = .int i/\y = .int j/\C i j/\d = .int (g i j)):Xa cA (rI C λi j => .int (g i j)) f:=λt t' i H x y vx vy d _ hx hy e Q k=>by
 obtain⟨a,b,rfl,rfl,hc,rfl⟩:=hf x y d e;cases(show vx=_ from hx);cases(show vy=_ from hy);exact⟨_,_,rfl,rfl,hc,k _ H (Same.refl H) rfl⟩
theorem QF:Xa cA (rI UI λi j => .int (i.fdiv j)) fdivW:=ZfC λx y d e=>by
 cases x<;>cases y<;>first|(cases e;done)|skip
 rename_i a b;dsimp only [fdivW]at e
 by_cases hz:UI a b
 · rw [if_pos hz]at e;cases e;exact⟨_,_,rfl,rfl,hz,rfl⟩
 · rw [if_neg hz]at e;cases e
theorem Ve:Xa cA (rI (λ_ j=>j≠0) λi j => .int (i.fmod j)) modW:=ZfC λx y d e=>by
 cases x<;>cases y<;>first|(cases e;done)|skip
 rename_i a b;dsimp only [modW]at e
 by_cases hz:b≠0
 · rw [if_pos hz]at e;cases e;exact⟨_,_,rfl,rfl,hz,rfl⟩
 · rw [if_neg hz]at e;cases e
end
end DL
namespace L2
open PySem PySem.Spec PySem.W PyProof.Rows
def bmV:List Value:=[.type "ValueError",.type "Exception",.type "BaseException",.type "object"]
section
variable{X:Cx}{E:XK}{C:Addr}{x:Str}{p cpos pos:Pos}{e:Expr}{es:List Expr}{t:TA}
end
def CX1(P:Program)(w:World):CXT:=λouter H s E ev s'=>∃(ea:Addr) (cls a0:Value) (B:Heap) (H':Hp),ev = .ref ea/\s'.os=s.os/\AllBare s'.gens/\Heap.FlyingW B outer ea cls a0 s'.heap /\
 (∀b o,s.heap.get? b=some o->H b=none->b∉frs outer->B.get? b=some o)/\HOk P w H' B/\Same H H'/\(∀b o,s.heap.get? b=some o->H b=none->H' b=none)/\(∀b o,s.heap.get? b=some o->b∈frs outer->∃sl,s'.heap.get? b=some { o with slots:=sl })/\E cls none H'
section
variable{P:Program}{w:World}{K:PySem.W.Frag}{mg:Str->Option Value}{base:Heap}{N:List Str}{qual:Str}{scope:Scope}{f:Addr}{cd:Value}{A:Around}{outer:List Env}{s:Shared}{H:Hp}{E:XK}
end
end L2
namespace L2
open PySem PySem.Spec PySem.W PyProof.Rows PySem.Calls PySem.Builtin PySem.Builtin.ObjectAttr PySem.Builtin.Getset_descriptor
def ZgO(e:Addr)(C:Value)(hp:Heap):Prop:=∃o:Obj,hp.get? e=some o/\o.cls=C
structure ExCls(K:PySem.W.Frag)(C:Addr):Prop where
 ex:excIn K C bmV "ValueError.__new__" = true
 ga:findIn K (.ref C) "__getattribute__" = some (some (.builtin "BaseException.__getattribute__"))
 mb:mroIn K C (.type "BaseException")=some true
 gt:findIn K (.ref C) "__getattr__" = some none
 ca:findIn K (.ref C) "__class__" = some (some (.builtin "object.__class__"))
 cg:specialIn K (.builtin "object.__class__") "__get__" = some (some (.builtin "getset_descriptor.__get__"))
 ct:takesIn K (.builtin "object.__class__")=some true
 mo:mroIn K C (.type "object")=some true
 cl:(clsIn K C).isSome=true
section
variable{P:Program}{w:World}{A:Around}{E:Value->Shared->Prop}{s:Shared}{K:PySem.W.Frag}{e C:Addr}
end
end L2
namespace L2
open PySem PySem.Spec PySem.W PyProof.Rows
theorem ObjOk.there{P:Program}{w:World}{H:Hp}{hp:Heap}{a:Addr}{o:HO}(x:ObjOk P w H hp a o):∃u,hp.get? a=some u:=by
 cases o with
 |lst xs=>obtain⟨_,_,_,_,e⟩:=x;exact⟨_,e⟩
 |tup xs=>obtain⟨_,_,_,ob,e,_⟩:=x;exact⟨_,e⟩
 |dK kvs=>obtain⟨_,_,_,_,o,_,_,e,_⟩:=x;exact⟨_,e⟩
 |dT kvs=>obtain⟨_,_,_,_,o,_,_,e,_⟩:=x;exact⟨_,e⟩
 |set S n=>obtain⟨o,_,_,_,e,_⟩:=x;exact⟨_,e⟩
 |ins C dx fs=>obtain⟨_,_,_,e,_⟩:=x;exact⟨_,e⟩
 |own y=>exact x
 |xd fs=>obtain⟨_,⟨_,_,_,e,_⟩,_⟩:=x;exact⟨_,e⟩
 |rng lo hi=>obtain⟨_,_,_,e⟩:=x;exact⟨_,e⟩
 |frz ob u=>obtain⟨e,_⟩:=x;exact⟨_,e⟩
 |tbl ps=>exact⟨_,x⟩
 |met f y=>exact⟨_,x⟩
 |ext φ=>exact x.2.1
section
variable{X:Cx}{pins:List (Addr×Obj)}{σ:St}{H H':Hp}{s s':Shared}{B hp:Heap}{ea:Addr}{C:Value}
end
section
variable{X:Cx}{E:XK}
end
end L2
namespace L2
open PySem PySem.Spec PySem.W PyProof.Rows
section
variable{X:Cx}{G:Addr}{g n:Str}{i:Nat}{body suite:List Stmt}{b₀:Stmt}{gp hpos pos:Pos}{tb:XK->TS}{ts:Addr->Addr->TS}
end
end L2
namespace DL
open PySem PySem.Spec L2
def spX(cA:Kn)(n:Nat)(m:List D->Option D)(x:List D->Option String):Sp:=λvs H Q E=>spD cA n m vs H Q E \/
 ∃(av:Addr->Prop) (ds:List D) (c:String),(∀a,av a->H a≠none)/\RepL cA av H ds vs/\ds.length=n/\x ds=some c/\∀H',Same H H'->E (.ref (cA.c c)) none H'
def VX(G:Cn)(ow:List Nat)(E:XK)(ts:TS)(χ:Env->Option String):Prop:=
 ∀H0 av A σ H δ,ER G ow H0 av A σ H δ->∀c,χ δ=some c->(∀H',Same H0 H'->E (.ref (G.1.c c)) none H')->∀De:Ends,ts De σ H
section
variable{cA:Kn}{G:Cn}{ow ow1 owB owC owN:List Nat}{E:XK}
end
section
variable{P:Program}{w:World}{K:PySem.W.Frag}{mg:Str->Option Value}{base:Heap}{cA:Kn}
end
end DL
namespace DL
open PySem PySem.Spec L2
def Zil(K:PySem.W.Frag)(cA:Kn)(v:V)(tab:List (String×Bool)):Prop:=∀c b,tab.lookup c=some b->∃cv,(∀u,RelV v u->u=cv)/\kitOne K (.ref (cA.c c)) cv=some b
inductive IsiEs(K:PySem.W.Frag)(cA:Kn):List V->List (List (String×Bool))->Prop where
 |nil:IsiEs K cA [] []
 |cons {v:V} {t:List (String×Bool)} {vs:List V} {ts:List (List (String×Bool))}:Zil K cA v t->IsiEs K cA vs ts->IsiEs K cA (v::vs) (t::ts)
section
variable{cA:Kn}{G:Cn}{ow owB owC:List Nat}
theorem ER.none{H0 H:Hp}{av:Addr->Prop}{A:Nat->Option Addr}{σ:L2.St}{δ:Env}{i:Nat}{x:Option V}(R:ER G ow H0 av A σ H δ)(hi:ow.contains i=false)(hn:G.2 i=Option.none):ER G ow H0 av A (σ.set i x) H (δ.set i Option.none):=
 ⟨R.same,R.avd,R.fr,R.inj,R.live,R.dom,R.dom',by rw [List.length_set,List.length_set];exact R.len,R.pin,(λj v' e=>by
   have q:j≠i:=λz=>by rw [z,hn]at e;cases e
   rw [List.getElem?_set_ne (Ne.symm q)];exact R.kept j v' e),λj d e=>by
   have hj:j≠i:=by
    intro z;subst z
    by_cases hl:j<δ.length
    · rw [List.getElem?_set_self hl]at e;cases e
    · rw [List.getElem?_eq_none (by rw [List.length_set];omega)]at e;cases e
   rw [List.getElem?_set_ne (Ne.symm hj)]at e;obtain⟨v,h1,h2⟩:=R.var j d e;exact⟨v,by rw [List.getElem?_set_ne (Ne.symm hj)];exact h1,h2⟩⟩
end
end DL
namespace L2
open PySem PySem.Spec PyProof.Rows
section
variable{X:Cx}
def ZfD(K:PySem.W.Frag):R2:=λx y H Q=>∃l b xs zs,x = .ref l/\y = .ref b/\SqL K H l xs/\SqL K H b zs/\xs.length+zs.length<=sizeLine/\∀p,H p=none->Q (.ref p) (upd H p (.lst (xs++zs)))
theorem ZeL:OpR X (binaryOp .Add) (ZfD X.K):=by
 intro pins s σ H x y v u Q I rx ry h;obtain⟨l,b,xs,zs,rfl,rfl,hH,hB,hz,q⟩:=h;cases rx;cases ry;obtain⟨its,r,pl,_⟩:=I.list hH;obtain⟨its2,r2,pl2,_⟩:=I.list hB;obtain⟨⟨c1,d1,da1,sl1⟩,n1,g1,e1,e2,e3⟩:=pl;obtain⟨⟨c2,d2,da2,sl2⟩,n2,g2,f1,f2,f3⟩:=pl2;dsimp only at e1 e2 e3 f1 f2 f3;subst e1 e2 e3 f1 f2 f3;have hl:=r.length;have hl2:=r2.length;refine concat_meets ⟨_,g1,rfl⟩ ⟨_,g2,rfl⟩ noFill_list_add seq_list_add PySem.F.slot_list_add PySem.F.entry_list_add (PySem.F.args_list_add_2 _ _) (list_addW l b its.toArray its2.toArray n1 n2 none none sl1 sl2 (by rw [List.size_toArray,List.size_toArray];omega)) ⟨g1,g2,?_⟩
 have ea:its.toArray++its2.toArray=(its++its2).toArray:=by simp
 rw [ea];exact⟨.ref _,_,I.lnew (t':=s.toks) (r.append r2) (by rw [List.length_append];omega),rfl,q _ I.fresh⟩
def ZfE(K:PySem.W.Frag):R2:=λx y H Q=>∃l k xs,x = .ref l/\y = .int k/\SqL K H l xs /\ -(2 ^ 63)<=k/\k<2 ^ 63/\xs.length*k.toNat<=sizeLine/\∀p,H p=none->Q (.ref p) (upd H p (.lst (List.replicate k.toNat xs).flatten))
theorem ZeM:OpR X (binaryOp .Mult) (ZfE X.K):=by
 intro pins s σ H x y v u Q I rx ry h;obtain⟨l,k,xs,rfl,rfl,hH,h1,h2,hz,q⟩:=h;cases rx;obtain⟨t,rfl⟩:=ry;obtain⟨its,r,pl,_⟩:=I.list hH;obtain⟨⟨c1,d1,da1,sl1⟩,n1,g1,e1,e2,e3⟩:=pl;dsimp only at e1 e2 e3;subst e1 e2 e3;have hl:=r.length;have hlen:its.toArray.size*k.toNat<=sizeLine:=by rw [List.size_toArray,<-hl];exact hz
 have hcap:¬its.toArray.size*k.toNat>(2 ^ 63-1) / 8:=by
  have:(sizeLine:Nat)<=(2 ^ 63-1) / 8:=by decide
  omega
 have hfit:¬(!Builtin.List.listFitsIndex k)=true:=by
  rw [fitsIndex_both h1 h2];exact Bool.false_ne_true
 have hlong:¬Builtin.List.listTooLong (its.toArray.size*k.toNat)=true:=by
  rw [Zbq hlen];exact Bool.false_ne_true
 have hnew:List.foldl (λx1 x2=>x1++x2) #[] (List.replicate (if its.toArray.isEmpty=true then 0 else k.toNat) its.toArray)=(List.replicate k.toNat its).flatten.toArray:=by
  have f0:∀m:Nat,List.foldl (λx1 x2=>x1++x2) #[] (List.replicate m its.toArray)=(List.replicate m its).flatten.toArray:=λm=>by
   have:=ZaS its m [];rw [List.nil_append]at this;exact this
  rw [f0];cases its with
  |nil=>simp
  |cons a r'=>rw [if_neg (by simp)]
 refine wpAny_binaryOp_repeat_ref (T:="list") (U:="int") (by decide) ⟨_,g1,rfl⟩ (λs'=>typeIs_int s' k t) noFill_list_mul F.fills_int_mul F.slot_int_rmul repeat_list F.slot_int_index.lookup
  (call_meets F.slot_int_rmul (typeIs_int s k t) F.entry_int_rmul (F.args_int_rmul_2 _ _) (lm_int_rmul_list_any k t l its.toArray n1 none sl1)
    ⟨g1,rfl,⟨_,g1,rfl⟩,call_meets F.slot_list_mul ⟨_,g1,rfl⟩ F.entry_list_mul (F.args_list_mul_2 _ _) (lm_list_mul_any l its.toArray n1 none sl1 k t hfit hcap hlong) ⟨g1,?_⟩⟩)
 rw [hnew];exact⟨.ref _,_,I.lnew (t':=s.toks) (r.rep k.toNat) (by rw [ZeC,Nat.mul_comm];exact hz),rfl,q _ I.fresh⟩
def U4(K:PySem.W.Frag):R2:=λx y H Q=>rI0 (λi j => .int (i+j)) x y H Q\/rAddS x y H Q\/ZfD K x y H Q
theorem ZeN:OpR X (binaryOp .Add) (U4 X.K):=op_add.or (op_addS.or ZeL)
theorem Yb{K:PySem.W.Frag}(hK:X.K=K:=by rfl):OpR X (binaryOp .Add) (U4 K):=hK▸ZeN
def J0(K:PySem.W.Frag):R2:=λx y H Q=>rI DL.CMulW (λi j => .int (i*j)) x y H Q\/DL.rMulS x y H Q\/ZfE K x y H Q
theorem ZeO:OpR X (binaryOp .Mult) (J0 X.K):=DL.op_mulW.or (DL.op_mulS.or ZeM)
theorem Zeg{K:PySem.W.Frag}(hK:X.K=K:=by rfl):OpR X (binaryOp .Mult) (J0 K):=hK▸ZeO
end
end L2
namespace DL
open PySem PySem.Spec L2
section
variable{cA:Kn}{G:Cn}{ow owB owC:List Nat}
theorem ZcC{i:Addr->Prop}{H:Hp}{p:Addr}{xs:List D}{vs:List V}(hi:∀a,i a->H a≠none)(hp:H p=none)(l:RepL cA i H xs vs):Rep cA i (upd H p (.lst vs)) (.lst xs) (.ref p):=by
 unfold Rep;exact⟨p,vs,rfl,λz=>(hi p z hp).elim,SqL.of ZS,l.same (ZT hp)⟩
def addX:D->D->Option D
 | .lst a,.lst b=>if a.length+b.length<=sizeLine then some (.lst (a++b))else none
 |x,y=>addD x y
theorem Yo:Xa cA (U4 cA.K) addX:=λt t' i H x y vx vy d hi hx hy e Q k=>by
 have old:addD x y=some d->U4 cA.K vx vy H Q:=λe=>by
  rcases(Zga (cA:=cA) t t' i H x y vx vy d hi hx hy e Q k)with h|h|h
  · exact .inl h
  · exact .inr (.inl h)
  · obtain⟨l,b,xs,zs,e1,e2,h1,h2,h3,h4⟩:=h
    exact .inr (.inr ⟨l,b,xs,zs,e1,e2,SqL.of h1,SqL.of h2,h3,h4⟩)
 cases x with
 |lst a=>
  cases y with
  |lst b=>
   dsimp only [addX]at e
   by_cases hz:a.length+b.length<=sizeLine
   · rw [if_pos hz]at e
     cases e;obtain⟨a1,vs1,rfl,_,r1,l1⟩:=hx;obtain⟨a2,vs2,rfl,_,r2,l2⟩:=hy;exact .inr (.inr ⟨a1,a2,vs1,vs2,rfl,rfl,r1,r2,by rw [<-l1.length,<-l2.length];exact hz,λp hp=>k _ _ (ZT hp) (ZcC hi hp (l1.append l2))⟩)
   · rw [if_neg hz]at e;cases e
  |_=>exact old e
 |_=>exact old e
theorem RepL.rep{av:Addr->Prop}{H:Hp}{xs:List D}{vs:List V}(l:RepL cA av H xs vs):∀n:Nat,RepL cA av H (List.replicate n xs).flatten (List.replicate n vs).flatten
 |0 => .nil
 |n+1=>by
  rw [List.replicate_succ,List.replicate_succ,List.flatten_cons,List.flatten_cons];exact l.append (RepL.rep l n)
def mulX:D->D->Option D
 | .int i,.int j=>if CMulW i j then some (.int (i*j))else none
 | .str a,.int n=>if n<2 ^ 63 /\ -(2 ^ 63)<=n/\a.length*n.toNat<=sizeLine then some (.str (VM a n))else none
 | .lst a,.int n=>if n<2 ^ 63 /\ -(2 ^ 63)<=n/\a.length*n.toNat<=sizeLine then some (.lst (List.replicate n.toNat a).flatten)else none
 |_,_=>none
theorem ZcD:Xa cA (J0 cA.K) mulX:=λt t' i H x y vx vy d hi hx hy e Q k=>by
 cases x<;>cases y<;>first|(cases e;done)|skip
 · cases(show vx=_ from hx);cases(show vy=_ from hy)
   rename_i a b;dsimp only [mulX]at e
   by_cases hz:CMulW a b
   · rw [if_pos hz]at e
     cases e;exact .inl ⟨_,_,rfl,rfl,hz,k _ H (Same.refl H) rfl⟩
   · rw [if_neg hz]at e;cases e
 · cases(show vx=_ from hx);cases(show vy=_ from hy)
   rename_i a n;dsimp only [mulX]at e
   by_cases hz:n<2 ^ 63 /\ -(2 ^ 63)<=n/\a.length*n.toNat<=sizeLine
   · rw [if_pos hz]at e
     cases e;exact .inr (.inl ⟨_,_,rfl,rfl,hz,k _ H (Same.refl H) rfl⟩)
   · rw [if_neg hz]at e;cases e
 · rename_i a n
   cases(show vy=_ from hy);dsimp only [mulX]at e
   by_cases hz:n<2 ^ 63 /\ -(2 ^ 63)<=n/\a.length*n.toNat<=sizeLine
   · rw [if_pos hz]at e
     cases e;obtain⟨a1,vs1,rfl,_,r1,l1⟩:=hx;exact .inr (.inr ⟨a1,n,vs1,rfl,rfl,r1,hz.2.1,hz.1,by rw [<-l1.length];exact hz.2.2,λp hp=>k _ _ (ZT hp) (ZcC hi hp (l1.rep n.toNat))⟩)
   · rw [if_neg hz]at e;cases e
end
end DL
namespace L2
open PySem PySem.W
end L2
namespace DL
open L2
theorem VX.frz{G:Cn}{ow ow1:List Nat}{E:XK}{t:TS}{χ:Env->Option String}(i:Nat)(h:VX G ow1 E t χ)(hn:G.2 i=none)(h1:sub ow1 ow=true)(h2:ow1.contains i=false)(h3:sub ow (i::ow1)=true):VX G ow E t χ:=λH0 av A σ H δ R c e k De=>
 h H0 av _ σ H δ (R.freeze i (JV h1 h2 h3) hn) c e k De
end DL
namespace L2
open PySem
end L2
namespace L2
open PySem
theorem CompSc.mk3{X:Cx}{scope:Scope}{tn:List Str}(hk:scope.kind = .function)(h:Qq [] [] scope.names [] []=true):CompSc X scope tn [] []:=by
 refine CompSc.mk' (osc:=X.env.scope) (oN:=X.N) hk rfl rfl ?_;unfold Qq at h ⊢;simp only [Bool.and_eq_true,List.all_eq_true]at h ⊢;obtain⟨⟨⟨⟨h1,h2⟩,h3⟩,h4⟩,h5⟩:=h;refine⟨⟨⟨⟨h1,h2⟩,λy hy => ?_⟩,λy hy => ?_⟩,h5⟩
 · have:=h3 y hy
   simp only [List.lookup_nil]at this;cases hb:(y.2 == NameKind.free)with
   |false=>rfl
   |true=>rw [hb]at this;simp at this
 · cases hy
end L2
namespace L2
open PySem PySem.Spec PySem.W PyProof.Rows
section
variable{X:Cx}{e:Expr}{te:TE}{pos:Pos}
def ZfF(te:TE):TE:=λσ H Q=>te σ H λv H1=>(∃cs,v=S cs/\cs.length<=sizeLine/\Q (S cs) H1)\/∃n:Nat,v = .int n/\n<10 ^ 10/\Q (S (Zf n)) H1
theorem J4(he:PE X e te):PE X (.FormattedValue e (-1) none pos) (ZfF te):=by
 intro pins s σ H Q I h;refine wpAny_FormattedValue_plain (thn (he pins s σ H _ I h) λu s1 ⟨v,H1,I1,r,q⟩ => ?_);rcases q with⟨cs,ev,hl,q⟩|⟨n,ev,hn,q⟩
 · subst ev
   obtain⟨t,rfl⟩:=r;have hz:(tx cs).length<=sizeLine:=by simpa [Str.length]using hl
   exact wpAny_formatField_str ⟨S cs,H1,I1,⟨_,rfl⟩,q⟩ ⟨S cs,H1,I1.tok _,⟨_,rfl⟩,q⟩ hz
 · subst ev
   obtain⟨t,rfl⟩:=r;refine formatField_int_small ?_ ?_
   · have h1 : n.log2 < 40 := by
      by_cases h0:n=0
      · subst h0;decide
      · exact(Nat.log2_lt h0).mpr (Nat.lt_trans hn (by decide))
     show(n:Int).natAbs.log2<1920;rw [Int.natAbs_natCast];omega
   · refine⟨S (Zf n),H1,I1.tok _,⟨s1.toks+1,?_⟩,q⟩
     rw [Zd7]
inductive PJ(X:Cx):List Expr->List TE->Prop where
 |nil:PJ X [] []
 |cons {e:Expr} {es:List Expr} {t:TE} {ts:List TE}:PE X e t->PJ X es ts->PJ X (e::es) (t::ts)
def tJs:List TE->List Nat->L2.St->Hp->(List Nat->Hp->Prop)->Prop
 | [],acc,_,H,Q=>Q acc H
 |t::r,acc,σ,H,Q=>t σ H λv H1=>∃cs,v=S cs/\(acc++cs).length<=sizeLine/\tJs r (acc++cs) σ H1 Q
theorem ZbG{pins:List (Addr×Obj)}{σ:L2.St}{Q:List Nat->Hp->Prop}:∀{es:List Expr}{ts:List TE}{acc:List Nat}{H:Hp}{s:Shared},PJ X es ts->Inv X pins σ H s->acc.length<=sizeLine->tJs ts acc σ H Q ->
 Joins (model X.prog X.w) X.A X.xe (evalEach es X.env) (tx acc) (λout s1=>∃cs H',out=tx cs/\Inv X pins σ H' s1/\cs.length<=sizeLine/\Q cs H') s
 |_,_,acc,H,s,.nil,I,hl,q=>⟨acc,H,rfl,I,hl,q⟩
 |_,_,acc,H,s,.cons he hr,I,hl,q=>by
  show wpAny (model X.prog X.w) X.A _ _ X.xe s;refine thn (he pins s σ H _ I q) λu s1 ⟨v,H1,I1,r,cs,ev,hz,q1⟩ => ?_
  subst ev;obtain⟨t,rfl⟩:=r
  have ea:tx acc++tx cs=tx (acc++cs):=by
   show(⟨acc.toArray++cs.toArray⟩:Str)=⟨(acc++cs).toArray⟩
   simp
  refine⟨_,_,rfl,?_,?_⟩
  · rw [ea];simpa [Str.length]using hz
  · rw [ea];exact ZbG hr I1 hz q1
theorem Zaw{P Q:Str->Shared->Prop}(k:∀x s,P x s->Q x s):∀{parts:List (Sem Value)}{acc:Str}{s:Shared},Joins (model X.prog X.w) X.A X.xe parts acc P s->Joins (model X.prog X.w) X.A X.xe parts acc Q s
 | [],acc,s,h=>k _ _ h
 |x::r,acc,s,h=>thn h λv s1 ⟨y,t,e,hz,q⟩=>⟨y,t,e,hz,Zaw k q⟩
def ZfG(ts:List TE):TE:=λσ H Q=>tJs ts [] σ H λcs H1=>Q (S cs) H1
theorem ZcE{e1 e2:Expr}{es:List Expr}{ts:List TE}(h:PJ X (e1::e2::es) ts):PE X (.JoinedStr (e1::e2::es) pos) (ZfG ts):=by
 intro pins s σ H Q I q;refine wpAny_JoinedStr (Zaw (λx s1 ⟨cs,H1,ex,I1,hl,q1⟩ => ?_) (ZbG (acc:=[]) h I (Nat.zero_le _) q));subst ex;exact⟨by simpa [Str.length]using hl,S cs,H1,I1.tok _,⟨_,rfl⟩,q1⟩
end
end L2
namespace DL
open PySem PySem.Spec L2
def Y3:D->Option D
 | .str cs=>if cs.length<=sizeLine then some (.str cs)else none
 | .int n=>if 0<=n/\n<10 ^ 10 then some (.str (Zf n.toNat))else none
 |_=>none
def Xf(f:D->Option D)(a:Env->Option D)(δ:Env):Option D:=match a δ with
 |some d=>f d
 |none=>none
section
variable{G:Cn}{ow:List Nat}
theorem J5{te:TE}{a:Env->Option D}(h:VE G ow te .cl a):VE G ow (ZfF te) .cl (Xf Y3 a):=λH0 av A σ H δ E d e Q k=>by
 unfold Xf at e;cases hx:a δ with
 |none=>rw [hx]at e;cases e
 |some x=>
  rw [hx]at e;dsimp only at e;unfold Y3 at e
  split at e
  · rename_i cs
    by_cases hz:cs.length<=sizeLine
    · rw [if_pos hz]at e
      cases e;exact h H0 av A σ H δ E _ hx _ λv H1 s1 r1 => .inl ⟨cs,r1,hz,k _ H1 s1 rfl⟩
    · rw [if_neg hz]at e;cases e
  · rename_i n
    by_cases hz:0<=n/\n<10 ^ 10
    · rw [if_pos hz]at e
      cases e;refine h H0 av A σ H δ E _ hx _ λv H1 s1 r1 => .inr ⟨n.toNat,?_,by omega,k _ H1 s1 rfl⟩
      rw [Int.toNat_of_nonneg hz.1];exact r1
    · rw [if_neg hz]at e;cases e
  · cases e
inductive VJ(G:Cn)(ow:List Nat):List TE->List (Env->Option D)->Prop where
 |nil:VJ G ow [] []
 |cons {t:TE} {a:Env->Option D} {ts:List TE} {as:List (Env->Option D)}:VE G ow t .cl a->VJ G ow ts as->VJ G ow (t::ts) (a::as)
def xJs:List (Env->Option D)->List Nat->Env->Option (List Nat)
 | [],acc,_=>some acc
 |a::r,acc,δ=>match a δ with
  |some (.str cs)=>if(acc++cs).length<=sizeLine then xJs r (acc++cs) δ else none
  |_=>none
theorem vjs{H0:Hp}{av:Addr->Prop}{A:Nat->Option Addr}{σ:L2.St}{δ:Env}:∀{ts:List TE}{as:List (Env->Option D)},VJ G ow ts as->∀{acc cs:List Nat}{H:Hp},ER G ow H0 av A σ H δ->xJs as acc δ=some cs->∀Q:List Nat->Hp->Prop,(∀H',Same H H'->Q cs H')->tJs ts acc σ H Q
 |_,_,.nil,acc,cs,H,E,e,Q,k=>by cases e;exact k H (Same.refl H)
 |_,_,.cons h hr,acc,cs,H,E,e,Q,k=>by
  rename_i t a ts as;unfold xJs at e;cases hx:a δ with
  |none=>rw [hx]at e;cases e
  |some x=>
   rw [hx]at e;cases x<;>first|(cases e;done)|skip
   rename_i c1;dsimp only at e
   by_cases hz:(acc++c1).length<=sizeLine
   · rw [if_pos hz]at e
     exact h H0 av A σ H δ E _ hx _ λv H1 s1 r1=>⟨c1,r1,hz,vjs hr (E.mono s1) e _ λH' s=>k H' (s1.trans s)⟩
   · rw [if_neg hz]at e;cases e
def Vf(as:List (Env->Option D))(δ:Env):Option D:=match xJs as [] δ with
 |some cs=>some (.str cs)
 |none=>none
theorem ZcF{ts:List TE}{as:List (Env->Option D)}(h:VJ G ow ts as):VE G ow (ZfG ts) .cl (Vf as):=λH0 av A σ H δ E d e Q k=>by
 unfold Vf at e;cases hx:xJs as [] δ with
 |none=>rw [hx]at e;cases e
 |some cs=>
  rw [hx]at e;cases e;exact vjs h E hx _ λH' s=>k _ H' s rfl
end
end DL
namespace L2
open PySem PySem.Spec PySem.W PyProof.Rows
section
variable{X:Cx}{E:XK}
end
end L2
namespace DL
open PySem PySem.Spec L2
abbrev XTab:=List (String×(Nat×(List D->Option D)×(List D->Option String)))
structure MethOkX(X:Cx)(cA:Kn)(k:Nat)(m:String)(c:String)(n:Nat)(mm:List D->Option D)(xm:List D->Option String):Prop where
 ex:∃f fd ps,Cls X.K (cA.c c)/\Meth X.K (cA.c c) (Str.ofString m) f/\FnOk X.prog X.w X.K X.mg X.base (CX1 X.prog X.w) k f fd ps (spX cA n mm xm)/\Binds X.K fd ps []
def MTOkX(X:Cx)(cA:Kn)(k:Nat)(m:String):XTab->Prop
 | []=>True
 |(c,n,mm,xm)::r=>MethOkX X cA k m c n mm xm/\MTOkX X cA k m r
theorem MTOkX.get{X:Cx}{cA:Kn}{k:Nat}{m:String}:∀{tab:XTab}{c:String}{n:Nat}{mm:List D->Option D}{xm:List D->Option String},MTOkX X cA k m tab->tab.lookup c=some (n,mm,xm)->MethOkX X cA k m c n mm xm
 | [],_,_,_,_,_,h=>by simp at h
 |(c',n',mm',xm')::r,c,n,mm,xm,T,h=>by
  rw [List.lookup_cons]at h;cases hc:c == c' with
  |true=>
   rw [hc]at h;cases h;have:c=c':=eq_of_beq hc;subst this;exact T.1
  |false=>
   rw [hc]at h;exact MTOkX.get T.2 h
section
variable{X:Cx}{cA:Kn}{k:Nat}{m:String}{tab:XTab}{o e:Expr}{es:List Expr}{ta:TE}{t:TA}{pos apos:Pos}{pl:Sem Bool}{E:XK}
end
section
variable{cA:Kn}{G:Cn}{ow ow1 owB owC owN:List Nat}{E:XK}
end
end DL
namespace L2
open PySem PySem.Spec PySem.W PyProof.Rows
theorem Zax:∀(cs:List Nat)(its:List Value),its.length=cs.length->(∀(j:Nat)(v:Value),its[j]? = some v->∃(c:Nat) (u:Tok),cs[j]? = some c/\v=Value.str ⟨#[c]⟩ u)->Vals (cs.map λc=>S [c]) its
 | [],[],_,_ => .nil
 |c::cs,[],h,_=>by simp at h
 | [],v::its,h,_=>by simp at h
 |c::cs,v::its,h,k=>by
  refine .cons ?_ (Zax cs its (by simpa using h) λj v hj=>by simpa using k (j+1) v (by simpa using hj));obtain⟨c',u,e1,e2⟩:=k 0 v rfl;cases e1;exact⟨u,e2⟩
def ZfH(K:PySem.W.Frag):List V->Hp->VK->Prop:=λxs H Q=>Zf8 K xs H Q\/∃cs,xs=[S cs]/\cs.length<=sizeLine/\∀l,H l=none->Q (.ref l) (upd H l (.lst (cs.map λc=>S [c])))
theorem J6{X:Cx}{K:PySem.W.Frag}(hc:X.calm=true:=by rfl)(hK:X.K=K:=by rfl):YD X (.type "list") (ZfH K):=by
 subst hK;intro pins s σ H xs us Q I r h;rcases h with h|⟨cs,rfl,hz,q⟩
 · exact Za9 pins s σ H xs us Q I r h
 · obtain⟨u,rfl,rx⟩:=Xm r
   obtain⟨t,rfl⟩:=rx;refine call_list_str (I.ok.hd hc) (tx cs) t (λh' tk acc' c' kp e hi => ?_) (by simpa using hz)
   have hv:Vals (cs.map λc=>S [c]) acc'.toList:=Zax cs _ (by simpa using hi.1) λj v hj=>by
    obtain⟨c,u,e1,e2⟩:=hi.2 j v (by simpa using hj);exact⟨c,u,by simpa using e1,e2⟩
   exact⟨.ref s.heap.objs.size,_,I.laid (t':=tk) kp (Nat.le_refl _) (show ObjOk X.prog X.w _ h' _ (.lst _)from⟨by rw [List.length_map];exact hz,acc'.toList,c',hv,e⟩),rfl,q _ (I.hok.fresh (Nat.le_refl _))⟩
end L2
namespace DL
open PySem PySem.Spec L2
def XF:List D->Option D
 | [.str cs]=>if cs.length<=sizeLine then some (.lst (cs.map λc => .str [c]))else none
 |ds=>Zfy ds
section
variable{G:Cn}{ow:List Nat}
theorem Zay{cA:Kn}{av:Addr->Prop}{H:Hp}:∀cs:List Nat,RepL cA av H (cs.map λc=>D.str [c]) (cs.map λc=>S [c])
 | [] => .nil
 |c::cs => .cons rfl (Zay cs)
theorem J7{t:TA}{q:Ql}{α:Env->Option (List D)}(hq:q = .cl\/q = .tp)(h:VA G ow t q α):VF G ow (tCB (ZfH G.1.K) t) (eCB XF α):=λH0 av A σ H δ E d e Q k=>by
 unfold eCB at e;cases he:α δ with
 |none=>rw [he]at e;cases e
 |some ds=>
  rw [he]at e;replace e:XF ds=some d:=e;unfold XF at e
  split at e
  · rename_i cs
    by_cases hz:cs.length<=sizeLine
    · rw [if_pos hz]at e
      cases e;refine h H0 av A σ H δ E _ he _ λvs H1 s1 r1 => ?_
      have il:VQ G.1 (AV av A) H1 [.str cs] vs:=by
       rcases hq with rfl|rfl<;>exact r1.il
      obtain⟨v,t,rfl,hx⟩:=il1 il;cases(show v=_ from hx);exact .inr ⟨cs,rfl,hz,λp hp=>k p _ _ H1 s1 hp (Zay cs) rfl⟩
    · rw [if_neg hz]at e;cases e
  · exact h H0 av A σ H δ E _ he _ fun vs H1 s1 r1 => by
     have il:VQ G.1 (AV av A) H1 ds vs:=by
      rcases hq with rfl|rfl<;>exact r1.il
     refine .inl ?_;unfold Zfy at e
     split at e
     · rename_i xs
       cases e;obtain⟨v,t,rfl,a,ws,rfl,_,rd,l⟩:=il1 il;exact⟨a,ws,rfl,.inl rd,λp hp=>k p ws _ H1 s1 hp l rfl⟩
     · rename_i xs
       cases e;obtain⟨v,t,rfl,a,ws,rfl,_,rd,l⟩:=il1 il;exact⟨a,ws,rfl,.inr (SqT.of rd),λp hp=>k p ws _ H1 s1 hp l rfl⟩
     · cases e
end
end DL
namespace L2
open PySem PySem.Spec PySem.W PyProof.Rows
structure RoomE(k:Nat)(A:Around):Prop where
 dp:A.depth+3*k+5<recursionLimit
 un:A.units+16*k+200<cLine
structure FnOkE(P:Program)(w:World)(K:PySem.W.Frag)(mg:Str->Option Value)(base:Heap)(k:Nat)(f:Addr)(fd:FuncData)(ps:List Str)(sp:List V->Hp->VK->Prop):Prop where
 len:∀vs H Q,sp vs H Q->vs.length=ps.length
 run:∀(A:Around)(outer:List PySem.Env)(s:Shared)(H:Hp)(args:Args)(us:List Value)(vs:List V)(Q:VK),RoomE k A->Env0 P w K mg base A outer s H->BindsTo s fd args (ps.zip us)->Vals vs us->sp vs H Q ->
  codeAny (model P w) A (.call (.ref f) args) (CR CX0 outer P w H s Q E0) s
end L2
namespace DL
open PySem PySem.Spec L2
def Zge(K:PySem.W.Frag)(cA:Kn)(i:Nat)(mk:Addr->Addr->TE)(tab:List (String×Bool)):Prop:=∀(c:String)(b:Bool)(ea:Addr)(σ:L2.St)(H:Hp)(Q:VK),ExCls K (cA.c c)->tab.lookup c=some b->σ[i]? = some (some (.ref ea))->H ea=some (.ext (ZgO ea (.ref (cA.c c))))->(∀H',Same H H'->Q (.bl b) H')->mk (cA.c c) ea σ H Q
inductive Items(K:PySem.W.Frag)(cA:Kn)(i:Nat):List (Addr->Addr->TE)->List (List (String×Bool))->Prop where
 |nil:Items K cA i [] []
 |cons {m:Addr->Addr->TE} {t:List (String×Bool)} {ms:List (Addr->Addr->TE)} {ts:List (List (String×Bool))}:Zge K cA i m t->Items K cA i ms ts->Items K cA i (m::ms) (t::ts)
section
variable{cA:Kn}{G:Cn}{ow owB owC:List Nat}
end
end DL
namespace L2
open PySem PySem.Spec PyProof.Rows
section
variable{X:Cx}{elts:List Expr}{x1:Nat}{tpos:Pos}
end
end L2
namespace DL
open PySem PySem.Spec L2
def Y4:List D->List D->List D
 |x::xs,y::ys => .tup [x,y]::Y4 xs ys
 |_,_=>[]
theorem QG:∀xs ys:List D,(Y4 xs ys).length=min xs.length ys.length
 | [],_=>by simp [Y4]
 |_::_,[]=>by simp [Y4]
 |x::xs,y::ys=>by rw [Y4,List.length_cons,List.length_cons,List.length_cons,QG xs ys];omega
theorem ZbH:∀(xs ys:List D)(i:Nat)(x y:D),xs[i]? = some x->ys[i]? = some y->(Y4 xs ys)[i]? = some (.tup [x,y])
 | [],_,i,x,y,h,_=>by simp at h
 |_::_,[],i,x,y,_,h=>by simp at h
 |x0::xs,y0::ys,0,x,y,h1,h2=>by simp at h1 h2;rw [h1,h2];rfl
 |x0::xs,y0::ys,i+1,x,y,h1,h2=>by
  rw [Y4,List.getElem?_cons_succ];exact ZbH xs ys i x y (by simpa using h1) (by simpa using h2)
section
variable{cA:Kn}{G:Cn}{ow:List Nat}
end
end DL
namespace DL
open PySem PySem.Spec L2
def mat(rows:List (List D)):D := .lst (rows.map D.lst)
structure Mx(H:Hp)(a:Addr)(bs:List Addr)(rows:List (List D)):Prop where
 top:H a=some (.lst (bs.map V.ref))
 len:bs.length=rows.length
 nd:bs.Nodup
 na:a∉bs
 row:∀(k:Nat)(b:Addr)(r:List D),bs[k]? = some b->rows[k]? = some r->H b=some (.lst (r.map val))
 sc:∀r∈rows,r.all ZK=true
section
variable{H H':Hp}{a:Addr}{bs:List Addr}{rows:List (List D)}
theorem Mx.mem(M:Mx H a bs rows){b:Addr}(h:b∈bs):∃r∈rows,H b=some (.lst (r.map val)):=by
 obtain⟨k,hk,e⟩:=List.mem_iff_getElem.mp h;have hk2:k<rows.length:=by rw [<-M.len];exact hk
 exact⟨rows[k],List.getElem_mem hk2,M.row k b _ (by rw [List.getElem?_eq_getElem hk,e]) (List.getElem?_eq_getElem hk2)⟩
theorem Mx.there(M:Mx H a bs rows){x:Addr}(h:x∈a::bs):∃vs,H x=some (.lst vs):=by
 rcases List.mem_cons.mp h with rfl|h
 · exact⟨_,M.top⟩
 · obtain⟨r,_,e⟩:=M.mem h
   exact⟨_,e⟩
theorem Mx.mono(M:Mx H a bs rows)(k:Same H H'):Mx H' a bs rows:=⟨k _ _ M.top,M.len,M.nd,M.na,λn b r h1 h2=>k _ _ (M.row n b r h1 h2),M.sc⟩
theorem Mx.rep{cA:Kn}{av:Addr->Prop}(M:Mx H a bs rows)(hn:∀x∈a::bs,¬av x):Rep cA av H (mat rows) (.ref a):=by
 have go:∀(bs:List Addr)(rows:List (List D)),bs.length=rows.length->(∀x∈bs,¬av x)->(∀(k:Nat)(b:Addr)(r:List D),bs[k]? = some b->rows[k]? = some r->H b=some (.lst (r.map val)))->(∀r∈rows,r.all ZK=true)->RepL cA av H (rows.map D.lst) (bs.map V.ref):=by
  intro bs
  induction bs with
  |nil=>
   intro rows hl _ _ _;cases rows with
   |nil=>exact .nil
   |cons _ _=>simp at hl
  |cons b bs ih=>
   intro rows hl hn hr hs;cases rows with
   |nil=>simp at hl
   |cons r rows=>
    refine .cons ?_ (ih rows (by simpa using hl) (λx hx=>hn x (List.mem_cons_of_mem _ hx)) (λk b r h1 h2=>hr (k+1) b r (by simpa using h1) (by simpa using h2)) λr hr=>hs r (List.mem_cons_of_mem _ hr));unfold Rep;exact⟨b,r.map val,rfl,λz=>(hn b List.mem_cons_self z).elim,SqL.of (hr 0 b r rfl rfl),.of_vals (hs r List.mem_cons_self)⟩
 unfold mat Rep;exact⟨a,bs.map V.ref,rfl,λz=>(hn a List.mem_cons_self z).elim,SqL.of M.top,go bs rows M.len (λx hx=>hn x (List.mem_cons_of_mem _ hx)) M.row M.sc⟩
end
open Classical in
noncomputable def ovl(H0 H:Hp)(F:List Addr):Hp:=λx=>if x∈F then H x else H0 x
theorem Zeh{H0 H:Hp}{F:List Addr}{x:Addr}(h:x∈F):ovl H0 H F x=H x:=if_pos h
theorem ZcG{H0 H:Hp}{F:List Addr}{x:Addr}(h:x∉F):ovl H0 H F x=H0 x:=if_neg h
abbrev Cn.keep(G:Cn)(i:Nat)(v:V):Cn:=⟨G.1,λj=>if j=i then some (.inr v)else G.2 j⟩
abbrev avF(av:Addr->Prop)(F:List Addr):Addr->Prop:=λx=>av x\/x∈F
def PinOk(G:Cn)(i:Nat)(σ:L2.St):Prop:=∀z,G.2 i=some z->∃v,z = .inr v/\σ[i]? = some (some v)
theorem PinOk.none{G:Cn}{i:Nat}{σ:L2.St}(h:G.2 i=Option.none):PinOk G i σ:=λz e=>by rw [h]at e;cases e
theorem PinOk.set{G:Cn}{i k:Nat}{σ:L2.St}{x:Option V}(h:PinOk G i σ)(hk:k≠i):PinOk G i (σ.set k x):=λz e=>by
 obtain⟨v,h1,h2⟩:=h z e;exact⟨v,h1,by rw [List.getElem?_set_ne hk];exact h2⟩
structure MR(G:Cn)(ow:List Nat)(i:Nat)(H0:Hp)(av:Addr->Prop)(A:Nat->Option Addr)(σ:L2.St)(H:Hp)(δ:Env):Prop where
 ni:i∉ow
 nn:PinOk G i σ
 avd:∀x,av x->H0 x≠none
 ex:∃a bs rows,δ[i]? = some (some (mat rows))/\Mx H a bs rows/\(∀x∈a::bs,H0 x=none)/\ER (G.keep i (.ref a)) ow (ovl H0 H (a::bs)) (avF av (a::bs)) A σ H (δ.set i none)
section
variable{cA:Kn}{G:Cn}{ow owN owB owC ow1:List Nat}{i:Nat}{H0 H H':Hp}{av:Addr->Prop}{A:Nat->Option Addr}{σ:L2.St}{δ:Env}
theorem ZcH{j:Nat}{v:V}(h:j≠i):(G.keep i v).2 j=G.2 j:=if_neg h
theorem ZdF{a:Addr}{bs:List Addr}{rows:List (List D)}(M:Mx H a bs rows)(k:Same H H'):ovl H0 H' (a::bs)=ovl H0 H (a::bs):=by
 funext x
 by_cases h:x∈a::bs
 · rw [Zeh h,Zeh h]
   obtain⟨vs,q⟩:=M.there h;rw [q,k _ _ q]
 · rw [ZcG h,ZcG h]
theorem MR.set{k:Nat}{d:D}(R:MR G ow i H0 av A σ H δ)(hs:ZK d=true)(hk:k≠i)(hw:∀j,j∈owN ↔ j∈ow/\j≠k)(hn:G.2 k=none):MR G owN i H0 av (λj=>if j=k then none else A j) (σ.set k (some (val d))) H (δ.set k (some d)):=by
 obtain⟨a,bs,rows,hd,M,h0,E⟩:=R.ex;refine⟨λz=>R.ni ((hw i).mp z).1,R.nn.set hk,R.avd,a,bs,rows,by rw [List.getElem?_set_ne hk];exact hd,M,h0,?_⟩;rw [List.set_comm _ _ hk];exact E.set (.of_val hs) hw (by rw [ZcH hk];exact hn)
end
end DL
namespace DL
open PySem PySem.Spec L2
section
variable{cA:Kn}{G:Cn}{ow owN owB owC ow1:List Nat}{i:Nat}
end
end DL
namespace DL
open PySem PySem.Spec L2
section
variable{H:Hp}{a b:Addr}{bs:List Addr}{rows:List (List D)}{j:Nat}{r r':List D}
theorem Mx.at(M:Mx H a bs rows)(hr:rows[j]? = some r):∃b,bs[j]? = some b/\H b=some (.lst (r.map val)):=by
 have hjl:j<bs.length:=by rw [M.len];exact(List.getElem?_eq_some_iff.mp hr).1
 exact⟨bs[j],List.getElem?_eq_getElem hjl,M.row j _ r (List.getElem?_eq_getElem hjl) hr⟩
end
section
variable{cA:Kn}{G:Cn}{ow owN owB owC ow1:List Nat}{i:Nat}
end
end DL
namespace DL
open PySem PySem.Spec L2
def VFM(G:Cn)(ow:List Nat)(te:TE)(ε:Env->Option D):Prop:=
 ∀H0 av A σ H δ,ER G ow H0 av A σ H δ->∀d,ε δ=some d->∀Q:VK,(∀a bs rows H',Same H H'->(∀x∈a::bs,H x=none)->Mx H' a bs rows->d=mat rows->Q (.ref a) H')->te σ H Q
section
variable{cA:Kn}{G:Cn}{ow owN owB owC ow1:List Nat}{i:Nat}
def U5(N:Nat)(φ:Env->Option Out)(ds:List D):Option D:=match φ (ds.map some++List.replicate (N-ds.length) none)with
 |some (.rt d)=>some d
 |_=>none
theorem VFM.cl{te:TE}{ε:Env->Option D}(h:VFM G ow te ε):VE G ow te .cl ε:=λH0 av A σ H δ E d e Q k=>
 h H0 av A σ H δ E d e Q λa bs rows H' s hf M hd=>by
  subst hd;exact k _ H' s (M.rep λx hx z=>E.avl x z (hf x hx)).t
end
section
variable{P:Program}{w:World}{K:PySem.W.Frag}{mg:Str->Option Value}{base:Heap}{cA:Kn}
end
end DL
namespace DL
open PySem PySem.Spec L2
section
variable{cA:Kn}{G:Cn}{ow:List Nat}
structure RowsAt(H0 H:Hp)(bs:List Addr)(rows:List (List D)):Prop where
 len:bs.length=rows.length
 nd:bs.Nodup
 row:∀(k:Nat)(b:Addr)(r:List D),bs[k]? = some b->rows[k]? = some r->H b=some (.lst (r.map val))
 fr:∀b∈bs,H0 b=none
 sc:∀r∈rows,r.all ZK=true
theorem RowsAt.same{H0 H H':Hp}{bs:List Addr}{rows:List (List D)}(R:RowsAt H0 H bs rows)(s:Same H H'):RowsAt H0 H' bs rows:=⟨R.len,R.nd,λk b r h1 h2=>s _ _ (R.row k b r h1 h2),R.fr,R.sc⟩
end
end DL
namespace DL
open PySem PySem.Spec L2
def FL(cA:Kn)(H0:Hp)(av:Addr->Prop)(De:Ends)(d:D):Prop:=∀p vs xs H',Same H0 H'->H0 p=none->H' p=some (.lst vs)->RepL cA (λx=>av x\/x=p) H' xs vs->d = .lst xs->De.rt (.ref p) H'
def VSL(G:Cn)(ow:List Nat)(ts:TS)(φ:Env->Option Out):Prop:=∀H0 av A σ H δ,ER G ow H0 av A σ H δ->∀d,φ δ=some (.rt d)->∀De:Ends,FL G.1 H0 av De d->ts De σ H
section
variable{cA:Kn}{G:Cn}{ow owN owB owC ow1:List Nat}{i:Nat}
theorem ZdG{te:TE}{ε:Env->Option D}(h:VF G ow te ε):VSL G ow (Jf te) (Zq ε):=λH0 av A σ H δ E d e De k=>by
 unfold Zq at e;cases he:ε δ with
 |none=>rw [he]at e;cases e
 |some d'=>
  rw [he]at e;cases e;refine h H0 av A σ H δ E _ he _ λp vs xs H1 s hp l hd => ?_
  refine k p vs xs _ ((E.same.trans s).trans (ZT hp)) (E.same.free (s.free hp)) ZS (((l.av λb z => ?_)).same (ZT hp)) hd;rcases z with z|z
  · exact .inl (.inl z)
  · rw [z];exact .inr hp
def spL(cA:Kn)(n:Nat)(m:List D->Option D):Sp:=λvs H Q _=>∃av ds d,(∀a,av a->H a≠none)/\RepL cA av H ds vs/\ds.length=n/\m ds=some d/\∀p vs xs H',Same H H'->H p=none->H' p=some (.lst vs)->RepL cA (λx=>av x\/x=p) H' xs vs->d = .lst xs->Q (.ref p) H'
open Classical in
theorem ZdH{n:Nat}{m:List D->Option D}{t:TA}{α:Env->Option (List D)}{E0:XK}(dds:List D)(hd:dds.all ZK=true)(h:VA G ow t .cl α):VF G ow (Jq (spL G.1 n m) (dds.map val) E0 t) (Zm n m dds α):=λH0 av A σ H δ E d e Q k=>by
 unfold Zm at e;cases he:α δ with
 |none=>rw [he]at e;cases e
 |some ds=>
  rw [he]at e;dsimp only at e
  by_cases hz:(ds++dds).length=n
  · rw [if_pos hz]at e
    refine h H0 av A σ H δ E ds he _ λvs H1 s1 r1 => ?_
    have E1:=E.mono s1;refine⟨AV av A,ds++dds,d,E1.avl,r1.cl.append (.of_vals hd),hz,e,λp ws xs H' s hp hH' l hd => ?_⟩
    have eu:upd (λx=>if x=p then none else H' x) p (.lst ws)=H':=by
     funext x
     by_cases hx:x=p
     · subst hx;rw [ZS,hH']
     · rw [ZF hx,if_neg hx]
    have:=k p ws xs (λx=>if x=p then none else H' x) (λb o q => ?_) (if_pos rfl) ((l.ext λb o n q => ?_).av λb z => .inl (.inl z)) hd
    · rw [eu]at this
      exact this
    · have hb:b≠p:=λz=>by rw [z]at q;rw [s1.free hp]at q;cases q
      show(if b=p then none else H' b)=some o;rw [if_neg hb];exact s b o (s1 b o q)
    · have hb:b≠p:=λz=>n (.inr z)
      show(if b=p then none else H' b)=some o;rw [if_neg hb];exact q
  · rw [if_neg hz]at e;cases e
end
section
variable{P:Program}{w:World}{K:PySem.W.Frag}{mg:Str->Option Value}{base:Heap}{cA:Kn}
theorem ZgP {x qual:Str} {st:Stmt} {f:Addr} {fd:FuncData} {N ps:List Str} {k:Nat} {φ:Env->Option Out} {body:List Stmt} {scope:Scope} {n:Nat} {m:List D->Option D} (F:FunX K x qual st f fd) (S:FnScope N ps (defScope st)) (hS:defScope st=scope) (hB:defBody st=body)
 (hbody:∀(cdv:Value)(A:Around)(outer:List PySem.Env)(s:Shared)(H:Hp)(E:XK),Room k (A.deeper (PyProof.Rows.envOfC qual scope s.heap.objs.size f cdv)) ->
   ∃t,PSs (Xo CX0 P w K mg base N qual scope f cdv A outer s H E).nox body t/\VSL ⟨cA,λ_=>none⟩ [] t φ) (hm:m=U5 N.length φ) (hn:ps.length=n):FnOk P w K mg base CX0 (k+1) f fd ps (spL cA n m):=by
 subst hS hB hm hn;refine F.ok S (λvs H Q E h => ?_) λcdv A outer s H vs Q E hr h => ?_
 · obtain⟨av,ds,d,_,r,hl,_⟩:=h
   rw [<-r.length,hl]
 · obtain⟨av,ds,d,ha,r,hl,hm,q⟩:=h
   obtain⟨t,ht,hv⟩:=hbody cdv A outer s H E hr;refine⟨t,ht,?_⟩;unfold U5 at hm
   split at hm
   · rename_i d' hφ
     cases hm;exact hv H av _ _ H _ (ZbA ha r) _ hφ _ λp vs xs H' s' h0 hp l hd=>q p vs xs H' s' h0 hp l hd
   · cases hm
end
end DL
namespace L2
open PySem PySem.Spec PySem.W PyProof.Rows
theorem ZgQ {X:Cx} {K:PySem.W.Frag} {o:Expr} {to:TE} {name:Str} {apos cpos:Pos} {T id:String} {r:V->List V->Hp->VK->Prop} (pa:PlainAttrs T) (slot:Slot T name id) (hty:typeOf (.builtin id)=pure (.type "method_descriptor")) (hm:MtR X id r) (ho:PE X o to)
 (hbase:attributeBase o name X.env (eval o X.env)=eval o X.env:=by rfl) (hline:(apos.endLine == cpos.line)=true:=by rfl) (hK:X.K=K:=by rfl):PE X (.Call (.Attribute o name apos) [] [] cpos) (Ju K T r to):=hK▸Zf5 pa slot hty hm ho hbase hline
end L2
namespace DL
open PySem PySem.Spec L2
section
variable{cA:Kn}{G:Cn}{ow owN owB owC ow1:List Nat}{i:Nat}
theorem MR.own{H0 H:Hp}{av:Addr->Prop}{A:Nat->Option Addr}{σ:L2.St}{δ:Env}{k:Nat}{xs:List D}{p:Addr}(R:MR G ow i H0 av A σ H δ)(hs:xs.all ZK=true)(hp:H p=none)(hk:k≠i)(hw:∀j,j∈ow1 ↔ j∈ow\/j=k)(hn:G.2 k=none):MR G ow1 i H0 av (λj=>if j=k then some p else A j) (σ.set k (some (.ref p))) (upd H p (.lst (xs.map val))) (δ.set k (some (.lst xs))):=by
 obtain⟨a,bs,rows,hd,M,h0,E⟩:=R.ex;refine⟨λz=>((hw i).mp z).elim R.ni λz=>hk z.symm,R.nn.set hk,R.avd,a,bs,rows,by rw [List.getElem?_set_ne hk];exact hd,M.mono (ZT hp),h0,?_⟩;rw [List.set_comm _ _ hk,ZdF M (ZT hp)];exact E.own hp (.of_vals hs) hw (by rw [ZcH hk];exact hn)
end
end DL
namespace DL
open PySem PySem.Spec L2
section
variable{cA:Kn}{av:Addr->Prop}{H:Hp}
end
section
variable{G:Cn}{ow owN owB owC ow1:List Nat}{H0 H:Hp}{av:Addr->Prop}{A:Nat->Option Addr}{σ:L2.St}{δ:Env}
end
end DL
namespace L2
open PySem
end L2
namespace DL
open PySem PySem.Spec L2
section
variable{G:Cn}{ow owN owB owC ow1:List Nat}
def Ug(i:Nat)(ε:Env->Option D)(δ:Env):Option Out:=match Za i δ,ε δ with
 |some (.lst xs),some (.lst ys)=>if xs.length+ys.length<=sizeLine then some (.nx (δ.set i (some (.lst (xs++ys)))))else none
 |_,_=>none
theorem Zgf{te:TE}{ε:Env->Option D}(i:Nat)(hi:ow.contains i=true)(h:VF G ow te ε):VS G ow ow owB owC (Je (tBM G.1.K "list" rExtend (Vz i) (Xn te tNil))) (Ug i ε):=λH0 av A σ H δ E o e De k=>by
 unfold Ug at e
 split at e
 · rename_i xs ys hv he
   by_cases hz:xs.length+ys.length<=sizeLine
   · rw [if_pos hz]at e
     cases e;have hi':i∈ow:=by simpa using hi
     cases hA:A i with
     |none=>exact absurd hA (E.dom' i hi')
     |some a=>
      obtain⟨v,g1,_,g3⟩:=E.var i _ (VL hv);obtain⟨rfl,ws,q1,q2⟩:=g3 a hA;refine⟨_,g1,.inl ⟨rfl,ws,SqL.of q1⟩,h H0 av A σ H δ E _ he _ λp vs zs H1 s1 hp l hd => ?_⟩;cases hd;have s2:Same H1 (upd H1 p (.lst vs)):=ZT hp;have E2:=(E.mono s1).mono s2;have q1':=s2 _ _ (s1 _ _ q1);have l2:=(q2.same s1).same s2;refine⟨a,p,ws,vs,rfl,rfl,q1',ZS,by rw [<-q2.length,<-l.length];exact hz,k A σ _ (E2.put hA (VL hv) (λb o hb e=>by rw [ZF hb];exact e) (by rw [ZS];exact λz=>by cases z) ⟨_,ZS,?_⟩)⟩
      exact(l2.append (l.same s2)).ext λb o n e=>by
       rw [ZF λz=>n (.inr ⟨i,by rw [z];exact hA⟩)];exact e
   · rw [if_neg hz]at e;cases e
 · cases e
end
section
variable{cA:Kn}{G:Cn}{ow owN owB owC ow1:List Nat}{i:Nat}
end
section
variable{P:Program}{w:World}{K:PySem.W.Frag}{mg:Str->Option Value}{base:Heap}{cA:Kn}
open Classical in
end
end DL
namespace L2
open PySem PySem.Spec PyProof.Rows
section
variable{X:Cx}
end
end L2
namespace DL
open PySem PySem.Spec L2
section
variable{cA:Kn}{G:Cn}{ow owN owB owC ow1:List Nat}{i:Nat}
mutual
def frz:D->Bool
 | .non=>true
 | .bl _=>true
 | .int _=>true
 | .str _=>true
 | .lst _=>false
 | .tup xs=>frzL xs
 | .obj _ _ xs=>frzL xs
 | .dct _ _=>false
 | .dtt _ _=>false
def frzL:List D->Bool
 | []=>true
 |x::xs=>frz x&&frzL xs
end
mutual
theorem Rep.frz{av av':Addr->Prop}{H:Hp}:∀{d:D}{v:V},frz d=true->(∀b,av' b->av b\/∃vs,H b=some (.lst vs))->Rep cA av H d v->Rep cA av' H d v
 | .non,_,_,_,h=>h
 | .bl _,_,_,_,h=>h
 | .int _,_,_,_,h=>h
 | .str _,_,_,_,h=>h
 | .lst xs,v,hf,k,h=>by cases hf
 | .tup xs,v,hf,k,h=>by
  unfold DL.frz at hf;unfold Rep at h ⊢;obtain⟨a,vs,e,n,r,l⟩:=h;exact⟨a,vs,e,λz=>(k a z).elim n (by rw [r];exact λ⟨_,z⟩=>by cases z),r,RepL.frz hf k l⟩
 | .obj c ks xs,v,hf,k,h=>by
  unfold DL.frz at hf;unfold Rep at h ⊢;obtain⟨a,dx,vs,e,n,r,z,l⟩:=h;exact⟨a,dx,vs,e,λz=>(k a z).elim n (by rw [r];exact λ⟨_,z⟩=>by cases z),r,z,RepL.frz hf k l⟩
 | .dct ks xs,v,hf,k,h=>by cases hf
 | .dtt ks xs,v,hf,k,h=>by cases hf
theorem RepL.frz{av av':Addr->Prop}{H:Hp}:∀{xs:List D}{vs:List V},frzL xs=true->(∀b,av' b->av b\/∃vs,H b=some (.lst vs))->RepL cA av H xs vs->RepL cA av' H xs vs
 | [],_,_,_,h=>h
 |x::xs,vs,hf,k,h=>by
  unfold DL.frzL at hf;rw [Bool.and_eq_true]at hf;unfold RepL at h ⊢;obtain⟨v,r,e,h1,h2⟩:=h;exact⟨v,r,e,Rep.frz hf.1 k h1,RepL.frz hf.2 k h2⟩
end
end
end DL
namespace PySem
open Sem (wp)
section
variable{prog:Program}{w:World}{A:Around}{E:Value->Shared->Prop}{s:Shared}
theorem Zbe {j t:Addr} {i:Nat} {xs:Array Value} {x:Value} {Q:Value->Shared->Prop} (hj:s.heap.IsTupleIter j t i) (ht:s.heap.IsTuple t xs) (hx:xs[i]? = some x)
 (hQ:∀h',h'.IsTupleIter j t (i+1)->Heap.SameBut j s.heap h'->Q x { s with heap:=h' }):wpAny (model prog w) A (Builtin.SmallTypes.nextOf (.ref j)) Q E s:=by
 obtain⟨oj,gj,cj,dj⟩:=id hj;obtain⟨ot,gt,_,nt,dt⟩:=ht;unfold Builtin.SmallTypes.nextOf;refine wpAny_bind (wpAny_callSpecial?_slot (name:=Str.ofString "__next__") hj.typeIs F.slot_tuple_iterator_next (wpAny_call_entry F.slot_tuple_iterator_next hj.typeIs F.entry_tuple_iterator_next ?_ (F.args_tuple_iterator_next_1 _)));show wpAny _ _ (field (.ref j) 0 >>= _) _ _ s;refine wpAny_bind (wpAny_field gj dj (x:=.ref t) rfl ?_)
 show wpAny _ _ (if(Value.ref t == Value.none)=true then _ else _) _ _ _;rw [if_neg (show ¬(Value.ref t == Value.none)=true from λz=>Bool.false_ne_true z)];show wpAny _ _ (field (.ref j) 1 >>= _) _ _ s;refine wpAny_bind (wpAny_field gj dj (x:=.int i 0) rfl ?_);show wpAny _ _ (seqItems? (.ref t) >>= _) _ _ _;refine wpAny_bind (wpAny_seqItems gt dt ?_);simp only [Int.toNat_natCast,hx];refine wpAny_bind (wpAny_setField gj dj (by simp) (wpAny_pure ⟨x,rfl,wpAny_pure (hQ _ ?_ (Heap.SameBut.update ..))⟩))
 refine⟨_,Heap.get?_update_self _ gj (Obj.isFreed_of_fields (Obj.data_mapFields dj _)),(Obj.cls_mapFields ..).trans cj,?_⟩;rw [Obj.data_mapFields dj];simp [rawInt]
theorem Zbf {j t:Addr} {i:Nat} {xs:Array Value} {Q:Value->Shared->Prop} (hh:A.handled=none) (hj:s.heap.IsTupleIter j t i) (ht:s.heap.IsTuple t xs) (hx:xs[i]? = none)
 (hE:∀h' e,Heap.ExtBut j s.heap h'->(∃o,h'.get? e=some o/\o.cls = .type "StopIteration")->E (.ref e) { s with heap:=h' }):wpAny (model prog w) A (Builtin.SmallTypes.nextOf (.ref j)) Q E s:=by
 obtain⟨oj,gj,cj,dj⟩:=id hj;obtain⟨ot,gt,_,nt,dt⟩:=ht;unfold Builtin.SmallTypes.nextOf;refine wpAny_bind (wpAny_callSpecial?_slot (name:=Str.ofString "__next__") hj.typeIs F.slot_tuple_iterator_next (wpAny_call_entry F.slot_tuple_iterator_next hj.typeIs F.entry_tuple_iterator_next ?_ (F.args_tuple_iterator_next_1 _)));show wpAny _ _ (field (.ref j) 0 >>= _) _ _ s;refine wpAny_bind (wpAny_field gj dj (x:=.ref t) rfl ?_)
 show wpAny _ _ (if(Value.ref t == Value.none)=true then _ else _) _ _ _;rw [if_neg (show ¬(Value.ref t == Value.none)=true from λz=>Bool.false_ne_true z)];show wpAny _ _ (field (.ref j) 1 >>= _) _ _ s;refine wpAny_bind (wpAny_field gj dj (x:=.int i 0) rfl ?_);show wpAny _ _ (seqItems? (.ref t) >>= _) _ _ _;refine wpAny_bind (wpAny_seqItems gt dt ?_);simp only [Int.toNat_natCast,hx];refine wpAny_bind (wpAny_rule (wpAny_bind (wpAny_setField gj dj (by simp) ?_)))
 show wpAny _ _ (newExc (.type "StopIteration") List.nil >>= _) _ _ _;refine wpAny_bind ?_;simp only [newExc,newTuple];refine wpAny_bind (wpAny_newObj_type (wpAny_bind (m:=firstArgMember _ _) (wpAny_of_eq (a:=Value.none) (by first|rfl|(simp only [firstArgMember];rfl)) (wpAny_newObj_type ?_ (by size_fits)))) (by size_fits));simp only [raiseNew];refine wpAny_bind (wpAny_handled ?_)
 first|rw [show A.in1.handled=none from hh]|rw [hh]
 exact wpAny_bind (wpAny_pure (wpAny_throw (hE _ _ (((Heap.SameBut.update ..).extBut.push _).push _) ⟨_,Heap.get?_push_size _ rfl,rfl⟩)))
end
def IsQI(k:Bool)(h:Heap)(a l:Addr)(i:Nat):Prop:=match k with
 |true=>h.IsTupleIter a l i
 |false=>h.IsListIter a l i
def IsQ(k:Bool)(h:Heap)(l:Addr)(xs:Array Value):Prop:=match k with
 |true=>h.IsTuple l xs
 |false=>h.IsList l xs
theorem IsQI.get{k:Bool}{h:Heap}{a l:Addr}{i:Nat}(x:IsQI k h a l i):∃o,h.get? a=some o/\o.data = .fields #[.ref l,.int i 0]:=by
 cases k with
 |true=>obtain⟨o,e,_,d⟩:=x;exact⟨o,e,d⟩
 |false=>obtain⟨o,e,_,d⟩:=x;exact⟨o,e,d⟩
theorem IsQI.at{k:Bool}{h h':Heap}{a l:Addr}{i:Nat}(x:IsQI k h a l i)(f:∀o,h.get? a=some o->h'.get? a=some o):IsQI k h' a l i:=by
 cases k with
 |true=>obtain⟨o,e,r⟩:=x;exact⟨o,f o e,r⟩
 |false=>obtain⟨o,e,r⟩:=x;exact⟨o,f o e,r⟩
theorem IsQI.ext{k:Bool}{h h':Heap}{a b l:Addr}{i:Nat}(x:IsQI k h a l i)(hs:Heap.ExtBut b h h')(n:a≠b):IsQI k h' a l i:=x.at λo e=>hs a o n e
theorem IsQ.at{k:Bool}{h h':Heap}{l:Addr}{xs:Array Value}(x:IsQ k h l xs)(f:∀o,h.get? l=some o->h'.get? l=some o):IsQ k h' l xs:=by
 cases k with
 |true=>obtain⟨o,e,r⟩:=x;exact⟨o,f o e,r⟩
 |false=>obtain⟨o,e,r⟩:=x;exact⟨o,f o e,r⟩
theorem IsQ.ext{k:Bool}{h h':Heap}{b l:Addr}{xs:Array Value}(x:IsQ k h l xs)(hs:Heap.ExtBut b h h')(n:l≠b):IsQ k h' l xs:=x.at λo e=>hs l o n e
theorem IsQ.lt{k:Bool}{h:Heap}{l:Addr}{xs:Array Value}(x:IsQ k h l xs):l<h.objs.size:=by
 cases k with
 |true=>obtain⟨o,e,_⟩:=x;exact Heap.lt_size e
 |false=>obtain⟨o,e,_⟩:=x;exact Heap.lt_size e
section
variable{prog:Program}{w:World}{A:Around}{E:Value->Shared->Prop}{s:Shared}
theorem J8 {k:Bool} {j t:Addr} {i:Nat} {xs:Array Value} {x:Value} {Q:Value->Shared->Prop} (hj:IsQI k s.heap j t i) (ht:IsQ k s.heap t xs) (hx:xs[i]? = some x)
 (hQ:∀h',IsQI k h' j t (i+1)->Heap.SameBut j s.heap h'->Q x { s with heap:=h' }):wpAny (model prog w) A (Builtin.SmallTypes.nextOf (.ref j)) Q E s:=by
 cases k with
 |true=>exact Zbe hj ht hx hQ
 |false=>exact wpAny_nextOf_list_item hj ht hx hQ
theorem ZaY {k:Bool} {j t:Addr} {i:Nat} {xs:Array Value} {Q:Value->Shared->Prop} (hh:A.handled=none) (hj:IsQI k s.heap j t i) (ht:IsQ k s.heap t xs) (hx:xs[i]? = none)
 (hE:∀h' e,Heap.ExtBut j s.heap h'->(∃o,h'.get? e=some o/\o.cls = .type "StopIteration")->E (.ref e) { s with heap:=h' }):wpAny (model prog w) A (Builtin.SmallTypes.nextOf (.ref j)) Q E s:=by
 cases k with
 |true=>exact Zbf hh hj ht hx hE
 |false=>exact wpAny_nextOf_list_end hh hj ht hx hE
theorem Zdi {p q:Bool} {z TI TO i1 i2 l1 l2:Addr} {k1 k2:Nat} {xs ys:Array Value} {x y a b:Value} {Q:Value->Shared->Prop} (D:ZipApart z TI TO i1 i2 l1 l2)
 (gz:IsZip s.heap z TI TO .none) (gI:IsPair s.heap TI (.ref i1) (.ref i2)) (gO:IsPair s.heap TO a b) (u1:IsQI p s.heap i1 l1 k1) (u2:IsQI q s.heap i2 l2 k2) (m1:IsQ p s.heap l1 xs) (m2:IsQ q s.heap l2 ys) (hx:xs[k1]? = some x) (hy:ys[k2]? = some y)
 (hQ:∀h',IsZip h' z TI TO (rawInt s.heap.objs.size)->IsPair h' TO x y->IsQI p h' i1 l1 (k1+1)->IsQI q h' i2 l2 (k2+1)->IsPair h' s.heap.objs.size x y->h'.objs.size=s.heap.objs.size+1->(∀c o,c≠z->c≠TO->c≠i1->c≠i2->s.heap.get? c=some o->h'.get? c=some o)->Q (.ref s.heap.objs.size) { s with heap:=h' }) :
 wpAny (model prog w) A (Builtin.«zip.__next__» ⟨[.ref z],[]⟩) (λfin s'=>∃v,fin = .done (.ret v)/\Q v s') E s:=by
 show wpAny _ _ (field (.ref z) 2 >>= λ_=>_) _ _ _;refine wpAny_bind (wpAny_field gz rfl (x:=.bool false) rfl ?_);show wpAny _ _ (field (.ref z) 3 >>= λ_=>_) _ _ _;refine wpAny_bind (wpAny_field gz rfl (x:=.ref TI) rfl (wpAny_bind (wpAny_seqItems gI rfl ?_)));show wpAny _ _ (Builtin.SmallTypes.ownedTupleIsFree (.ref z) >>= λ_=>_) _ _ _;unfold Builtin.SmallTypes.ownedTupleIsFree;refine wpAny_bind (wpAny_bind (wpAny_field gz rfl (x:=.none) rfl (wpAny_pure ?_)))
 simp only [if_true];refine wpAny_bind (wpAny_rule (wpAny_bind (wpAny_field gz rfl (x:=.ref TO) rfl (wpAny_bind (wpAny_setField_rec gz (by simp) λh₁ gz₁ s₁ => ?_)))));have gz₁:IsZip h₁ z TI TO .ellipsis:=gz₁;refine wpAny_bind ?_;simp only [List.zipIdx_cons,List.forIn_cons,List.zipIdx_nil,List.forIn_nil];refine wpAny_bind (wpAny_bind (wpAny_onRaise (wpAny_bind (m:=Builtin.SmallTypes.nextOf (.ref i1)) (J8 (u1.ext s₁.extBut D.i1z) (m1.ext s₁.extBut D.l1z) hx λh₂ u1₂ s₂=>wpAny_pure ?_))))
 have gO₂:IsPair h₂ TO a b:=s₂.extBut _ _ D.TOi1 (s₁.extBut _ _ D.TOz gO);refine wpAny_bind (wpAny_seqItems gO₂ rfl (wpAny_bind (wpAny_updateSeq_pair gO₂ λh₃ gO₃ s₃ => ?_)));have gO₃:IsPair h₃ TO x b:=gO₃;refine wpAny_bind (wpAny_letGo (wpAny_pure ?_));refine wpAny_bind (wpAny_bind (wpAny_onRaise (wpAny_bind (m:=Builtin.SmallTypes.nextOf (.ref i2)) (J8 (((u2.ext s₁.extBut D.i2z).ext s₂.extBut D.i12.symm).ext s₃.extBut D.TOi2.symm) (((m2.ext s₁.extBut D.l2z).ext s₂.extBut D.l2i1).ext s₃.extBut D.l2TO) hy λh₄ u2₄ s₄=>wpAny_pure ?_))))
 have gO₄:IsPair h₄ TO x b:=s₄.extBut _ _ D.TOi2 gO₃;refine wpAny_bind (wpAny_seqItems gO₄ rfl (wpAny_bind (wpAny_updateSeq_pair gO₄ λh₅ gO₅ s₅ => ?_)));have gO₅:IsPair h₅ TO x y:=gO₅;refine wpAny_bind (wpAny_letGo (wpAny_pure (wpAny_pure (wpAny_bind (wpAny_seqItems gO₅ rfl (wpAny_bind (wpAny_newTuple ?_)))))));have ez:h₅.objs.size=s.heap.objs.size:=by rw [s₅.1,s₄.1,s₃.1,s₂.1,s₁.1]
 have gz₅:IsZip h₅ z TI TO .ellipsis:=s₅.extBut _ _ D.TOz.symm (s₄.extBut _ _ D.i2z.symm (s₃.extBut _ _ D.TOz.symm (s₂.extBut _ _ D.i1z.symm gz₁)));have kp:∀c o,c≠z->c≠TO->c≠i1->c≠i2->s.heap.get? c=some o->h₅.get? c=some o:=λc o c1 c2 c3 c4 e=>s₅.extBut _ _ c2 (s₄.extBut _ _ c4 (s₃.extBut _ _ c2 (s₂.extBut _ _ c3 (s₁.extBut _ _ c1 e))))
 have u1₅:IsQI p h₅ i1 l1 (k1+1):=((u1₂.ext s₃.extBut D.TOi1.symm).ext s₄.extBut D.i12).ext s₅.extBut D.TOi1.symm;have u2₅:IsQI q h₅ i2 l2 (k2+1):=u2₄.ext s₅.extBut D.TOi2.symm;have lz:z<h₅.objs.size:=Heap.lt_size gz₅;show wpAny _ _ (Builtin.SmallTypes.ownedTupleHandOut (.ref z) (.ref h₅.objs.size) >>= λ_=>_) _ _ _;unfold Builtin.SmallTypes.ownedTupleHandOut;have gz₆:IsZip (h₅.push { cls := .type "tuple",data := .seq #[x,y] }) z TI TO .ellipsis:=Heap.get?_push_of_some _ gz₅
 refine wpAny_bind (wpAny_bind (wpAny_setField_rec gz₆ (by simp) λh₇ gz₇ s₇ => ?_));have gz₇:IsZip h₇ z TI TO (rawInt h₅.objs.size):=gz₇;refine wpAny_setField_rec gz₇ (by simp) λh₈ gz₈ s₈ => ?_
 have gz₈:IsZip h₈ z TI TO (rawInt h₅.objs.size):=gz₈;have up:∀c o,c≠z->h₅.get? c=some o->h₈.get? c=some o:=λc o c1 e=>s₈.extBut _ _ c1 (s₇.extBut _ _ c1 (Heap.get?_push_of_some _ e))
 have gT:IsPair h₈ h₅.objs.size x y:=s₈.extBut _ _ (Nat.ne_of_gt lz) (s₇.extBut _ _ (Nat.ne_of_gt lz) (Heap.get?_push_size _ rfl));have e8:h₈.objs.size=h₅.objs.size+1:=by rw [s₈.1,s₇.1,Heap.size_push]
 rw [ez]at gz₈ gT e8;refine wpAny_pure ⟨_,rfl,?_⟩;rw [ez];exact hQ h₈ gz₈ (up _ _ D.TOz gO₅) (u1₅.at λo e=>up _ o D.i1z e) (u2₅.at λo e=>up _ o D.i2z e) gT e8 λc o c1 c2 c3 c4 e=>up c o c1 (kp c o c1 c2 c3 c4 e)
theorem ZdI {p q:Bool} {z TI TO i1 i2 l1 l2:Addr} {k1 k2:Nat} {xs ys:Array Value} {a b:Value} {Q:Fin->Shared->Prop} (hh:A.handled=none) (D:ZipApart z TI TO i1 i2 l1 l2)
 (gz:IsZip s.heap z TI TO .none) (gI:IsPair s.heap TI (.ref i1) (.ref i2)) (gO:IsPair s.heap TO a b) (u1:IsQI p s.heap i1 l1 k1) (u2:IsQI q s.heap i2 l2 k2) (m1:IsQ p s.heap l1 xs) (m2:IsQ q s.heap l2 ys) (hend:xs[k1]? = none\/ys[k2]? = none)
 (hE:∀h' e,(∀c o,c≠z->c≠TO->c≠i1->c≠i2->s.heap.get? c=some o->h'.get? c=some o)->(∃o,h'.get? e=some o/\o.cls = .type "StopIteration")->E (.ref e) { s with heap:=h' }) :
 wpAny (model prog w) A (Builtin.«zip.__next__» ⟨[.ref z],[]⟩) Q E s:=by
 show wpAny _ _ (field (.ref z) 2 >>= λ_=>_) _ _ _;refine wpAny_bind (wpAny_field gz rfl (x:=.bool false) rfl ?_);show wpAny _ _ (field (.ref z) 3 >>= λ_=>_) _ _ _;refine wpAny_bind (wpAny_field gz rfl (x:=.ref TI) rfl (wpAny_bind (wpAny_seqItems gI rfl ?_)));show wpAny _ _ (Builtin.SmallTypes.ownedTupleIsFree (.ref z) >>= λ_=>_) _ _ _;unfold Builtin.SmallTypes.ownedTupleIsFree;refine wpAny_bind (wpAny_bind (wpAny_field gz rfl (x:=.none) rfl (wpAny_pure ?_)))
 simp only [if_true];refine wpAny_bind (wpAny_rule (wpAny_bind (wpAny_field gz rfl (x:=.ref TO) rfl (wpAny_bind (wpAny_setField_rec gz (by simp) λh₁ gz₁ s₁ => ?_)))));have gz₁:IsZip h₁ z TI TO .ellipsis:=gz₁;refine wpAny_bind ?_;simp only [List.zipIdx_cons,List.forIn_cons,List.zipIdx_nil,List.forIn_nil];cases hx:xs[k1]? with
 |none=>
  refine wpAny_bind (wpAny_bind (wpAny_onRaise (wpAny_bind (m:=Builtin.SmallTypes.nextOf (.ref i1)) (ZaY hh (u1.ext s₁.extBut D.i1z) (m1.ext s₁.extBut D.l1z) hx λh₂ e s₂ he => ?_))));obtain⟨oe,ge,ce⟩:=he;have gz₂:IsZip h₂ z TI TO .ellipsis:=s₂ _ _ D.i1z.symm gz₁;have nez:e≠z:=λv=>by rw [v,gz₂]at ge;cases ge;simp at ce
  exact wpAny_setField_rec gz₂ (by simp) λh₃ _ s₃=>hE h₃ e (λc o c1 _ c3 _ v=>s₃.extBut _ _ c1 (s₂ _ _ c3 (s₁.extBut _ _ c1 v))) ⟨oe,s₃.extBut _ _ nez ge,ce⟩
 |some x=>
  have hy:ys[k2]? = none:=hend.resolve_left (by rw [hx];exact λv=>by cases v);refine wpAny_bind (wpAny_bind (wpAny_onRaise (wpAny_bind (m:=Builtin.SmallTypes.nextOf (.ref i1)) (J8 (u1.ext s₁.extBut D.i1z) (m1.ext s₁.extBut D.l1z) hx λh₂ u1₂ s₂=>wpAny_pure ?_))));have gO₂:IsPair h₂ TO a b:=s₂.extBut _ _ D.TOi1 (s₁.extBut _ _ D.TOz gO);refine wpAny_bind (wpAny_seqItems gO₂ rfl (wpAny_bind (wpAny_updateSeq_pair gO₂ λh₃ gO₃ s₃=>wpAny_bind (wpAny_letGo (wpAny_pure ?_)))))
  refine wpAny_bind (wpAny_bind (wpAny_onRaise (wpAny_bind (m:=Builtin.SmallTypes.nextOf (.ref i2)) (ZaY hh (((u2.ext s₁.extBut D.i2z).ext s₂.extBut D.i12.symm).ext s₃.extBut D.TOi2.symm) (((m2.ext s₁.extBut D.l2z).ext s₂.extBut D.l2i1).ext s₃.extBut D.l2TO) hy λh₄ e s₄ he => ?_))));obtain⟨oe,ge,ce⟩:=he;have gz₄:IsZip h₄ z TI TO .ellipsis:=s₄ _ _ D.i2z.symm (s₃.extBut _ _ D.TOz.symm (s₂.extBut _ _ D.i1z.symm gz₁))
  have nez:e≠z:=λv=>by rw [v,gz₄]at ge;cases ge;simp at ce
  exact wpAny_setField_rec gz₄ (by simp) λh₅ _ s₅=>hE h₅ e (λc o c1 c2 c3 c4 v=>s₅.extBut _ _ c1 (s₄ _ _ c4 (s₃.extBut _ _ c2 (s₂.extBut _ _ c3 (s₁.extBut _ _ c1 v))))) ⟨oe,s₅.extBut _ _ nez ge,ce⟩
theorem Zbb {p q:Bool} {z TI TO i1 i2 l1 l2:Addr} {k1 k2:Nat} {xs ys:Array Value} {x y a b:Value} {Q:Option Value->Shared->Prop} (D:ZipApart z TI TO i1 i2 l1 l2)
 (gz:IsZip s.heap z TI TO .none) (gI:IsPair s.heap TI (.ref i1) (.ref i2)) (gO:IsPair s.heap TO a b) (u1:IsQI p s.heap i1 l1 k1) (u2:IsQI q s.heap i2 l2 k2) (m1:IsQ p s.heap l1 xs) (m2:IsQ q s.heap l2 ys) (hx:xs[k1]? = some x) (hy:ys[k2]? = some y)
 (hQ:∀h',IsZip h' z TI TO (rawInt s.heap.objs.size)->IsPair h' TO x y->IsQI p h' i1 l1 (k1+1)->IsQI q h' i2 l2 (k2+1)->IsPair h' s.heap.objs.size x y->h'.objs.size=s.heap.objs.size+1->(∀c o,c≠z->c≠TO->c≠i1->c≠i2->s.heap.get? c=some o->h'.get? c=some o)->Q (some (.ref s.heap.objs.size)) { s with heap:=h' }) :
 wpAny (model prog w) A (pyNext (.ref z)) Q E s:=by
 have tz:s.TypeIs (.ref z) "zip" := ⟨_,gz,rfl⟩
 unfold pyNext;exact wpAny_bind (wpAny_attempt (wpAny_callSpecial?_slot (name:=Str.ofString "__next__") tz F.slot_zip_next (wpAny_call_entry F.slot_zip_next tz F.entry_zip_next (Zdi D gz gI gO u1 u2 m1 m2 hx hy λh' a1 a2 a3 a4 a5 a6 a7=>wpAny_pure (hQ h' a1 a2 a3 a4 a5 a6 a7)) (F.args_zip_next_1 _))))
theorem Zbg {p q:Bool} {z TI TO i1 i2 l1 l2:Addr} {k1 k2:Nat} {xs ys:Array Value} {a b:Value} {Q:Option Value->Shared->Prop} (hh:A.handled=none) (D:ZipApart z TI TO i1 i2 l1 l2)
 (gz:IsZip s.heap z TI TO .none) (gI:IsPair s.heap TI (.ref i1) (.ref i2)) (gO:IsPair s.heap TO a b) (u1:IsQI p s.heap i1 l1 k1) (u2:IsQI q s.heap i2 l2 k2) (m1:IsQ p s.heap l1 xs) (m2:IsQ q s.heap l2 ys) (hend:xs[k1]? = none\/ys[k2]? = none)
 (hQ:∀h',(∀c o,c≠z->c≠TO->c≠i1->c≠i2->s.heap.get? c=some o->h'.get? c=some o)->Q none { s with heap:=h' }):wpAny (model prog w) A (pyNext (.ref z)) Q E s:=by
 have tz:s.TypeIs (.ref z) "zip" := ⟨_,gz,rfl⟩
 unfold pyNext;refine wpAny_bind (wpAny_attempt (wpAny_callSpecial?_slot (name:=Str.ofString "__next__") tz F.slot_zip_next (wpAny_call_entry F.slot_zip_next tz F.entry_zip_next (ZdI hh D gz gI gO u1 u2 m1 m2 hend λh' e hk he => ?_) (F.args_zip_next_1 _))));obtain⟨o,go,co⟩:=he;exact wpAny_bind (wpAny_isInstance (T:="StopIteration") (b:=true) ⟨o,go,co⟩ isSubtype_stop (wpAny_pure (hQ _ hk)))
end
abbrev itO(k:Bool)(l:Addr):Obj:={ cls := .type (if k then "tuple_iterator" else "list_iterator"),data := .fields #[.ref l,.int 0 0] }
abbrev zq2(p q:Bool)(h:Heap)(l1 l2:Addr):Heap:=(h.push (itO p l1)).push (itO q l2)
abbrev zq3(p q:Bool)(h:Heap)(l1 l2:Addr):Heap:=(zq2 p q h l1 l2).push { cls := .type "tuple",data := .seq #[.ref h.objs.size,.ref (h.push (itO p l1)).objs.size] }
abbrev zq4(p q:Bool)(h:Heap)(l1 l2:Addr):Heap:=(zq3 p q h l1 l2).push { cls := .type "tuple",data := .seq #[.none,.none] }
abbrev zq5(p q:Bool)(h:Heap)(l1 l2:Addr):Heap:=(zq4 p q h l1 l2).push { cls := .type "zip",data := .fields #[.none,.bool false,.bool false,.ref (zq2 p q h l1 l2).objs.size,.ref (zq3 p q h l1 l2).objs.size] }
theorem Zb6(p q:Bool)(l1 l2:Addr)(xs ys:Array Value):Meets (Builtin.«zip.__new__» ⟨[.type "zip",.ref l1,.ref l2],[]⟩) (λ_ R s=>IsQ p s.heap l1 xs/\IsQ q s.heap l2 ys/\R (.ok (.ret (.ref (zq4 p q s.heap l1 l2).objs.size))) { s with heap:=zq5 p q s.heap l1 l2 }):=
 .of_wp λprog w A R s h=>by
  obtain⟨hp,g,d,tk,os⟩:=s;obtain⟨m1,m2,h⟩:=h;have hsub:=sub_zip;cases p<;>cases q
  · have e1:Heap.IsList (Shared.heap ⟨hp,g,d,tk,os⟩) l1 xs:=m1
    have e2:Heap.IsList (Shared.heap ⟨hp.push { cls := .type "list_iterator",data := .fields #[.ref l1,.int 0 0] },g,d,tk,os⟩) l2 ys:=Heap.IsList.push m2 _
    wp_walk using wpAny_pyIter_list e1,wpAny_pyIter_list e2
    exact⟨_,rfl,h⟩
  · have e1:Heap.IsList (Shared.heap ⟨hp,g,d,tk,os⟩) l1 xs:=m1
    have e2:Heap.IsTuple (Shared.heap ⟨hp.push { cls := .type "list_iterator",data := .fields #[.ref l1,.int 0 0] },g,d,tk,os⟩) l2 ys:=Heap.IsTuple.push m2 _
    wp_walk using wpAny_pyIter_list e1,wpAny_pyIter_tuple e2
    exact⟨_,rfl,h⟩
  · have e1:Heap.IsTuple (Shared.heap ⟨hp,g,d,tk,os⟩) l1 xs:=m1
    have e2:Heap.IsList (Shared.heap ⟨hp.push { cls := .type "tuple_iterator",data := .fields #[.ref l1,.int 0 0] },g,d,tk,os⟩) l2 ys:=Heap.IsList.push m2 _
    wp_walk using wpAny_pyIter_tuple e1,wpAny_pyIter_list e2
    exact⟨_,rfl,h⟩
  · have e1:Heap.IsTuple (Shared.heap ⟨hp,g,d,tk,os⟩) l1 xs:=m1
    have e2:Heap.IsTuple (Shared.heap ⟨hp.push { cls := .type "tuple_iterator",data := .fields #[.ref l1,.int 0 0] },g,d,tk,os⟩) l2 ys:=Heap.IsTuple.push m2 _
    wp_walk using wpAny_pyIter_tuple e1,wpAny_pyIter_tuple e2
    exact⟨_,rfl,h⟩
theorem Zei(k:Bool){h:Heap}{a l:Addr}(e:h.get? a=some (itO k l)):IsQI k h a l 0:=by
 cases k with
 |true=>exact⟨_,e,rfl,rfl⟩
 |false=>exact⟨_,e,rfl,rfl⟩
section
variable{prog:Program}{w:World}{A:Around}{E:Value->Shared->Prop}{s:Shared}
theorem Zdj {p q:Bool} {l1 l2:Addr} {xs ys:Array Value} {Q:Value->Shared->Prop} (m1:IsQ p s.heap l1 xs) (m2:IsQ q s.heap l2 ys)
 (h:∀h',IsZip h' (s.heap.objs.size+4) (s.heap.objs.size+2) (s.heap.objs.size+3) .none->IsPair h' (s.heap.objs.size+2) (.ref s.heap.objs.size) (.ref (s.heap.objs.size+1))->IsPair h' (s.heap.objs.size+3) .none .none->IsQI p h' s.heap.objs.size l1 0->IsQI q h' (s.heap.objs.size+1) l2 0->(∀c o,s.heap.get? c=some o->h'.get? c=some o)->Q (.ref (s.heap.objs.size+4)) { s with heap:=h' }) :
 wpAny (model prog w) A (call (.type "zip") [.ref l1,.ref l2]) Q E s:=by
 refine callType_new F.called_zip (by decide) (F.typeCall_zip_2 _ _) (F.newCall_zip_2 _ _) (λobj=>F.args_object_init_3 obj _ _) F.entry_zip_new (Zb6 p q l1 l2 xs ys) ⟨m1,m2,?_⟩;have z1:(s.heap.push (itO p l1)).objs.size=s.heap.objs.size+1:=Heap.size_push ..;have z2:(zq2 p q s.heap l1 l2).objs.size=s.heap.objs.size+2:=by rw [Heap.size_push,z1]
 have z3:(zq3 p q s.heap l1 l2).objs.size=s.heap.objs.size+3:=by rw [Heap.size_push,z2]
 have z4:(zq4 p q s.heap l1 l2).objs.size=s.heap.objs.size+4:=by rw [Heap.size_push,z3]
 have up:=λ(h:Heap) (o o':Obj) (a:Addr) (e:h.get? a=some o')=>Heap.get?_push_of_some (h:=h) o e
 have g5:(zq5 p q s.heap l1 l2).get? (zq4 p q s.heap l1 l2).objs.size=some _:=Heap.get?_push_size _ rfl;have g4:(zq5 p q s.heap l1 l2).get? (zq3 p q s.heap l1 l2).objs.size=some _:=up _ _ _ _ (Heap.get?_push_size _ rfl);have g3:(zq5 p q s.heap l1 l2).get? (zq2 p q s.heap l1 l2).objs.size=some _:=up _ _ _ _ (up _ _ _ _ (Heap.get?_push_size _ rfl));have g2:(zq5 p q s.heap l1 l2).get? (s.heap.push (itO p l1)).objs.size=some (itO q l2):=up _ _ _ _ (up _ _ _ _ (up _ _ _ _ (Heap.get?_push_size _ (by cases q<;>rfl))))
 have g1:(zq5 p q s.heap l1 l2).get? s.heap.objs.size=some (itO p l1):=up _ _ _ _ (up _ _ _ _ (up _ _ _ _ (up _ _ _ _ (Heap.get?_push_size _ (by cases p<;>rfl)))));show _/\_;rw [z2,z3,z4]at g5;rw [z1,z2]at g3;rw [z3]at g4;rw [z1]at g2;rw [z4];exact⟨⟨_,g5,rfl⟩,h _ g5 g3 g4 (Zei p g1) (Zei q g2) λc o e=>up _ _ _ _ (up _ _ _ _ (up _ _ _ _ (up _ _ _ _ (up _ _ _ _ e))))⟩
end
end PySem
namespace L2
open PySem PySem.Spec PyProof.Rows
def SqQ(k:Bool)(K:PySem.W.Frag)(H:Hp)(a:Addr)(xs:List V):Prop:=match k with
 |true=>SqT K H a xs
 |false=>SqL K H a xs
theorem Inv.seqQ{X:Cx}{pins:List (Addr×Obj)}{σ:St}{H:Hp}{s:Shared}{k:Bool}{a:Addr}{xs:List V}(I:Inv X pins σ H s)(h:SqQ k X.K H a xs):∃its:List Value,Vals xs its/\IsQ k s.heap a its.toArray/\xs.length<=sizeLine:=by
 cases k with
 |true=>exact I.tuple h
 |false=>
  obtain⟨its,r,p,z⟩:=I.list h;exact⟨its,r,p.isList,z⟩
theorem Inv.seqQ_inj{X:Cx}{pins:List (Addr×Obj)}{σ:St}{H:Hp}{s:Shared}{k:Bool}{a:Addr}{xs ys:List V}(I:Inv X pins σ H s)(h:SqQ k X.K H a xs)(h':SqQ k X.K H a ys):xs=ys:=by
 cases k with
 |true=>exact I.tuple_inj h h'
 |false=>exact Inv.list_inj I h h'
def J9(kp kq:Bool)(K:PySem.W.Frag)(l1 l2:Addr):It:=
 ⟨λi H=>∃xs ys x y,SqQ kp K H l1 xs/\SqQ kq K H l2 ys/\xs[i]? = some x/\ys[i]? = some y,
  λi H v H'=>∃x y p,(∀xs,SqQ kp K H l1 xs->xs[i]? = some x)/\(∀ys,SqQ kq K H l2 ys->ys[i]? = some y)/\H p=none/\v = .ref p/\H'=upd H p (.tup [x,y]),
  λi H=>∃xs ys,SqQ kp K H l1 xs/\SqQ kq K H l2 ys/\(xs.length<=i\/ys.length<=i)⟩
theorem Zdk{p q:Bool}{P:Program}{w:World}{K:PySem.W.Frag}{elts:List Expr}{x1:Nat}{tpos:Pos}(n l1 l2:Nat)(hl1:l1<n)(hl2:l2<n) :
 Turn P w K (.Tuple elts x1 tpos) (J9 p q K l1 l2) [n+4,n+2,n+3,n,n+1] (n+4) (λi h=>IsZip h (n+4) (n+2) (n+3) .none/\IsPair h (n+2) (.ref n) (.ref (n+1))/\(∃a b,IsPair h (n+3) a b)/\IsQI p h n l1 i/\IsQI q h (n+1) l2 i) where
 mem:=by simp
 obj:=λi h st b hb=>by
  obtain⟨hz,hTI,⟨a,b',hTO⟩,h1,h2⟩:=st;obtain⟨o1,ho1,hd1⟩:=h1.get;obtain⟨o2,ho2,hd2⟩:=h2.get;simp at hb;rcases hb with rfl|rfl|rfl|rfl|rfl
  · exact ⟨_, hz, fun v z => by
     have z':Data.fields _=Data.cell v:=z;cases z'⟩
  · exact ⟨_, hTI, fun v z => by
     have z':Data.seq _ _=Data.cell v:=z;cases z'⟩
  · exact ⟨_, hTO, fun v z => by
     have z':Data.seq _ _=Data.cell v:=z;cases z'⟩
  · exact⟨o1,ho1,λv z=>by rw [hd1]at z;cases z⟩
  · exact⟨o2,ho2,λv z=>by rw [hd2]at z;cases z⟩
 keep:=λi h h' st k=>by
  obtain⟨hz,hTI,⟨a,b',hTO⟩,h1,h2⟩:=st;exact⟨k _ (by simp) _ hz,k _ (by simp) _ hTI,⟨a,b',k _ (by simp) _ hTO⟩,h1.at λo q=>k n (by simp) o q,h2.at λo q=>k (n+1) (by simp) o q⟩
 item:=by
  intro X hP hw hK hc i pins s σ H E I hf st hg;subst hP hw hK;obtain⟨hz,hTI,⟨a,b',hTO⟩,h1,h2⟩:=st;obtain⟨xs,ys,x,y,hq1,hq2,hx,hy⟩:=hg;obtain⟨its1,rv1,p1,_⟩:=I.seqQ hq1;obtain⟨its2,rv2,p2,_⟩:=I.seqQ hq2;obtain⟨u,hu,ru⟩:=rv1.get hx;obtain⟨v,hv,rv⟩:=rv2.get hy;have D:ZipApart (n+4) (n+2) (n+3) n (n+1) l1 l2:=zipApart_new hl1 hl2;refine Zbb D hz hTI hTO h1 h2 p1 p2 (x:=u) (y:=v) (by simpa using hu) (by simpa using hv) λh' a1 a2 a3 a4 a5 a6 hk => ?_
  refine⟨_,rfl,wpAny_letOwnedTupleGo_zip a1 λh2' hz2 hs2 => ?_⟩;have hs2:Heap.SameBut (n+4) h' h2':=hs2;have hzl:n+4<s.heap.objs.size:=Heap.lt_size hz;have hT2:h2'.get? s.heap.objs.size=some { cls := .type "tuple",data := .seq #[u,v] }:=(hs2.2 _ (Nat.ne_of_gt hzl)).trans a5;have k2:∀b o,b≠n+4->b≠n+3->b≠n->b≠n+1->s.heap.get? b=some o->h2'.get? b=some o:=λb o b1 b2 b3 b4 q=>(hs2.2 b b1).trans (hk b o b1 b2 b3 b4 q)
  have hTn:H s.heap.objs.size=none:=I.hok.fresh (Nat.le_refl _);have neT:∀b o,s.heap.get? b=some o->b≠s.heap.objs.size:=λb o q=>Nat.ne_of_lt (Heap.lt_size q)
  have hF:∀b,b=n+4\/b=n+3\/b=n\/b=n+1->YW X pins H b:=λb hb=>hf b (by rcases hb with rfl|rfl|rfl|rfl<;>simp)
  have I2:Inv X pins σ (upd H s.heap.objs.size (.tup [x,y])) { s with heap:=h2' }:=by
   refine I.step (g':=s.gens) (d':=s.drawn) (t':=s.toks) (ch:=[n+4,n+3,n,n+1]) (λb hb => ?_) (λb o _ _ hcb q _ => ?_) (λb o _ _ hcb q _ => ?_) (λb o hcb q m => ?_) (λb o hcb q => ?_) (λb xs q => ?_) (λb o v q => ?_) (λb ps q => ?_) (λm hm => ?_) (λb o q => ?_) I.bare
   · obtain⟨e0,e1,e2,e3,e4,e5⟩:=hF b (by simpa using hb)
     exact⟨e3,e1,e4,e5⟩
   · simp at hcb
     exact k2 b o hcb.1 hcb.2.1 hcb.2.2.1 hcb.2.2.2 q
   · simp at hcb
     exact⟨o.slots,k2 b o hcb.1 hcb.2.1 hcb.2.2.1 hcb.2.2.2 q⟩
   · rw [ZF (neT b o q)]
     exact m
   · simp at hcb
     exact⟨o,k2 b o hcb.1 hcb.2.1 hcb.2.2.1 hcb.2.2.2 q⟩
   · rw [ZF (YN q hTn)]
     exact q
   · rw [ZF (YN q hTn)]
     exact q
   · exact⟨#[],by rw [ZF (YN q hTn),q];simp⟩
   · obtain⟨o,es,ep,q,r⟩:=hm
     exact⟨o,es,ep,k2 _ o (Ne.symm (hF _ (.inl rfl)).2.1) (Ne.symm (hF _ (.inr (.inl rfl))).2.1) (Ne.symm (hF _ (.inr (.inr (.inl rfl)))).2.1) (Ne.symm (hF _ (.inr (.inr (.inr rfl)))).2.1) q,r⟩
   · by_cases hb:b=s.heap.objs.size
     · subst hb
       rw [ZS]at q;cases q;refine⟨by show 2<=sizeLine;decide,[u,v],.cons ru (.cons rv .nil),?_⟩;exact⟨_,hT2,rfl,⟨_,rfl⟩,rfl⟩
     · rw [ZF hb]at q
       have nn:∀(b:Addr)(o:HO),H b=some o->b≠n+4/\b≠n+3/\b≠n/\b≠n+1:=λb o q=>by
        refine⟨λz => ?_,λz => ?_,λz => ?_,λz => ?_⟩
        · rw [z,(hF _ (.inl rfl)).1]at q;cases q
        · rw [z,(hF _ (.inr (.inl rfl))).1]at q;cases q
        · rw [z,(hF _ (.inr (.inr (.inl rfl)))).1]at q;cases q
        · rw [z,(hF _ (.inr (.inr (.inr rfl)))).1]at q;cases q
       refine(I.hok b o q).stay (λd v hd q' => ?_) (λd q'=>by rw [ZF (YN q' hTn)];exact q') λd xs q'=>by rw [ZF (YN q' hTn)];exact q'
       rcases hd with rfl|hd
       · exact k2 d v (nn d o q).1 (nn d o q).2.1 (nn d o q).2.2.1 (nn d o q).2.2.2 q'
       · exact k2 d v (nn d _ hd).1 (nn d _ hd).2.1 (nn d _ hd).2.2.1 (nn d _ hd).2.2.2 q'
  refine⟨.ref s.heap.objs.size,_,I2,rfl,⟨x,y,s.heap.objs.size,λzs hz=>by rw [I.seqQ_inj hz hq1];exact hx,λzs hz=>by rw [I.seqQ_inj hz hq2];exact hy,hTn,rfl,rfl⟩,⟨hz2,?_,⟨u,v,?_⟩,?_,?_⟩,λb hb => ?_⟩
  · exact hs2.extBut _ _ D.TIz (hk _ _ D.TIz D.TITO D.TIi1 D.TIi2 hTI)
  · exact hs2.extBut _ _ D.TOz a2
  · exact a3.ext hs2.extBut D.i1z
  · exact a4.ext hs2.extBut D.i2z
  · have hb0:H b=none:=(hf b hb).1
    have hbl:b<s.heap.objs.size:=by
     simp at hb;have hzl':n+4<s.heap.objs.size:=hzl;rcases hb with rfl|rfl|rfl|rfl|rfl
     · exact hzl'
     · exact Nat.lt_of_le_of_lt (Nat.add_le_add_left (by decide) n) hzl'
     · exact Nat.lt_of_le_of_lt (Nat.add_le_add_left (by decide) n) hzl'
     · exact Nat.lt_of_le_of_lt (Nat.le_add_right b 4) hzl'
     · exact Nat.lt_of_le_of_lt (Nat.add_le_add_left (by decide) n) hzl'
    rw [ZF (Nat.ne_of_lt hbl)];exact hb0
 done:=by
  intro X hP hw hK hc i pins s σ H E I hf st hg;subst hP hw hK;obtain⟨hz,hTI,⟨a,b',hTO⟩,h1,h2⟩:=st;obtain⟨xs,ys,hq1,hq2,hx⟩:=hg;obtain⟨its1,rv1,p1,_⟩:=I.seqQ hq1;obtain⟨its2,rv2,p2,_⟩:=I.seqQ hq2;have e1:=rv1.length;have e2:=rv2.length;have D:ZipApart (n+4) (n+2) (n+3) n (n+1) l1 l2:=zipApart_new hl1 hl2;have hF:∀b,b=n+4\/b=n+3\/b=n\/b=n+1->YW X pins H b:=λb hb=>hf b (by rcases hb with rfl|rfl|rfl|rfl<;>simp)
  refine Zbg (I.ok.hd hc) D hz hTI hTO h1 h2 p1 p2 (by
   rcases hx with hx|hx
   · exact .inl (by simp;omega)
   · exact .inr (by simp;omega)) λh' k2=>⟨rfl,?_⟩
  have nn:∀(b:Addr)(o:HO),H b=some o->b≠n+4/\b≠n+3/\b≠n/\b≠n+1:=λb o q=>by
   refine⟨λz => ?_,λz => ?_,λz => ?_,λz => ?_⟩
   · rw [z,(hF _ (.inl rfl)).1]at q;cases q
   · rw [z,(hF _ (.inr (.inl rfl))).1]at q;cases q
   · rw [z,(hF _ (.inr (.inr (.inl rfl)))).1]at q;cases q
   · rw [z,(hF _ (.inr (.inr (.inr rfl)))).1]at q;cases q
  refine I.step (g':=s.gens) (d':=s.drawn) (t':=s.toks) (ch:=[n+4,n+3,n,n+1]) (λb hb => ?_) (λb o _ _ hcb q _ => ?_) (λb o _ _ hcb q _ => ?_) (λ_ _ _ _ m=>m) (λb o hcb q => ?_) (λ_ _ e=>e) (λ_ _ _ e=>e) (λb ps e=>⟨#[],by rw [e];simp⟩) (λm hm => ?_) (λb o q => ?_) I.bare
  · obtain⟨e0,e1,e2,e3,e4,e5⟩:=hF b (by simpa using hb)
    exact⟨e3,e1,e4,e5⟩
  · simp at hcb
    exact k2 b o hcb.1 hcb.2.1 hcb.2.2.1 hcb.2.2.2 q
  · simp at hcb
    exact⟨o.slots,k2 b o hcb.1 hcb.2.1 hcb.2.2.1 hcb.2.2.2 q⟩
  · simp at hcb
    exact⟨o,k2 b o hcb.1 hcb.2.1 hcb.2.2.1 hcb.2.2.2 q⟩
  · obtain⟨o,es,ep,q,r⟩:=hm
    exact⟨o,es,ep,k2 _ o (Ne.symm (hF _ (.inl rfl)).2.1) (Ne.symm (hF _ (.inr (.inl rfl))).2.1) (Ne.symm (hF _ (.inr (.inr (.inl rfl)))).2.1) (Ne.symm (hF _ (.inr (.inr (.inr rfl)))).2.1) q,r⟩
  · refine(I.hok b o q).stay (λd v hd q' => ?_) (λ_ q=>q) λ_ _ q=>q
    rcases hd with rfl|hd
    · exact k2 d v (nn d o q).1 (nn d o q).2.1 (nn d o q).2.2.1 (nn d o q).2.2.2 q'
    · exact k2 d v (nn d _ hd).1 (nn d _ hd).2.1 (nn d _ hd).2.2.1 (nn d _ hd).2.2.2 q'
 self:=λ_ _ _ _ _ st h=>wpAny_pyIter_zip st.1 h
section
variable{X:Cx}{elts:List Expr}{x1:Nat}{tpos:Pos}
def ZfI(K:PySem.W.Frag)(ta:TA):TI:=λσ H R=>ta σ H λvs H1=>∃p q l1 l2 xs ys,vs=[.ref l1,.ref l2]/\SqQ p K H1 l1 xs/\SqQ q K H1 l2 ys/\R (J9 p q K l1 l2) H1
theorem ZeP {K:PySem.W.Frag} {a b:Expr} {ta tb:TE} {po pos:Pos} (hg:Gl X "zip") (hm:X.mg "zip" = none) (ha:PE X a ta) (hb:PE X b tb) (hs:starEach [a,b] X.env=(false,eval a X.env)::starEach [b] X.env:=by rfl) (hs2:starEach [b] X.env=[(false,eval b X.env)]:=by rfl) (hK:X.K=K:=by rfl) :
 PI X (.Tuple elts x1 tpos) (.Call (.Name "zip" po) [a,b] [] pos) (ZfI K (Xn ta (Xn tb tNil))):=by
 subst hK;intro pins s σ H R I h;refine Call_ (Ut I hg hm boot_zip (PyProof.Rows.callWith_type1 (thn ((Zc ha (Zc hb Zi hs2) hs) pos pins s σ H _ I h) λus s1 ⟨vs,H1,I1,r1,q1⟩ => ?_) (by rw [hs,hs2]) (by rw [hs2];rfl)));obtain⟨p,q0,l1,l2,xs,ys,e,hq1,hq2,q⟩:=q1;subst e;cases r1 with
 |cons r rr=>
  cases rr with
  |cons r' rr'=>
   cases rr';cases r;cases r';obtain⟨its1,rv1,p1,_⟩:=I1.seqQ hq1;obtain⟨its2,rv2,p2,_⟩:=I1.seqQ hq2;have lt1:l1<s1.heap.objs.size:=p1.lt;have lt2:l2<s1.heap.objs.size:=p2.lt;refine Zdj p1 p2 λh' hz hTI hTO h1 h2 k => ?_
   refine wpAny_pyIter_zip hz ?_;have I2:Inv X pins σ H1 { s1 with heap:=h' }:=I1.kept (t':=s1.toks) k;refine⟨s1.heap.objs.size+4,[s1.heap.objs.size+4,s1.heap.objs.size+2,s1.heap.objs.size+3,s1.heap.objs.size,s1.heap.objs.size+1],_,_,H1,rfl,I2,Zdk s1.heap.objs.size l1 l2 lt1 lt2,⟨hz,hTI,⟨_,_,hTO⟩,h1,h2⟩,λb hb => ?_,q⟩
   have hb':s1.heap.objs.size<=b:=by
    simp at hb;rcases hb with rfl|rfl|rfl|rfl|rfl
    · exact Nat.le_add_right _ _
    · exact Nat.le_add_right _ _
    · exact Nat.le_add_right _ _
    · exact Nat.le_refl _
    · exact Nat.le_add_right _ _
   exact I1.fpOk hb' (I1.hok.fresh hb')
end
end L2
namespace DL
open PySem PySem.Spec L2
section
variable{cA:Kn}{G:Cn}{ow:List Nat}
theorem ZbI{k:Bool}{K:PySem.W.Frag}{H H':Hp}{a:Addr}{xs:List V}(e:Same H H')(h:SqQ k K H a xs):SqQ k K H' a xs:=by
 cases k with
 |false=>exact Same.seq e h
 |true=>
  rcases h with(h|⟨o,h⟩)|h
  · exact .inl (.inl (e _ _ h))
  · exact .inl (.inr ⟨o,e _ _ h⟩)
  · exact .inr h
theorem Zb7{p0 q0:Bool}{iv:Addr->Prop}{H0:Hp}{a b:Addr}{vs ws:List V}{xs ys:List D}(rd:SqQ p0 cA.K H0 a vs)(l:RepL cA iv H0 xs vs)(rd2:SqQ q0 cA.K H0 b ws)(l2:RepL cA iv H0 ys ws):UG cA iv (J9 p0 q0 cA.K a b) (Y4 xs ys) H0:=λH s=>by
 have rd':SqQ p0 cA.K H a vs:=ZbI s rd;have rd2':SqQ q0 cA.K H b ws:=ZbI s rd2;refine⟨λi hi => ?_,λi x v H' hx y => ?_,λi hi=>⟨vs,ws,rd',rd2',?_⟩⟩
 · rw [QG]at hi
   obtain⟨v,hv,_⟩:=l.get (List.getElem?_eq_getElem (show i<xs.length by omega));obtain⟨u,hu,_⟩:=l2.get (List.getElem?_eq_getElem (show i<ys.length by omega));exact⟨vs,ws,v,u,rd',rd2',hv,hu⟩
 · obtain⟨z1,z2,p,hz1,hz2,hp,rfl,rfl⟩:=y
   have hi:i<(Y4 xs ys).length:=(List.getElem?_eq_some_iff.mp hx).1;rw [QG]at hi;have e1:=List.getElem?_eq_getElem (show i<xs.length by omega);have e2:=List.getElem?_eq_getElem (show i<ys.length by omega);rw [ZbH xs ys i _ _ e1 e2]at hx;cases hx;obtain⟨v1,hv1,r1⟩:=l.get e1;obtain⟨v2,hv2,r2⟩:=l2.get e2;rw [hz1 vs rd']at hv1;rw [hz2 ws rd2']at hv2;cases hv1;cases hv2;refine⟨ZT hp,λav' h1 h2 => ?_⟩
   unfold Rep;exact⟨p,_,rfl,λz=>h1 p z hp,ZS,.cons (((r1.av h2).same s).same (ZT hp)) (.cons (((r2.av h2).same s).same (ZT hp)) .nil)⟩
 · rw [QG]at hi
   rw [<-l.length,<-l2.length];omega
def U6:D->Option (List D)
 | .lst xs=>some xs
 | .tup xs=>some xs
 |_=>none
def UJ(ε1 ε2:Env->Option D)(δ:Env):Option (List D):=match ε1 δ,ε2 δ with
 |some x,some y=>match U6 x,U6 y with
  |some xs,some ys=>some (Y4 xs ys)
  |_,_=>none
 |_,_=>none
theorem ZaZ{av:Addr->Prop}{A:Nat->Option Addr}{H:Hp}{d:D}{xs:List D}{v:V}(h:U6 d=some xs)(r:Rep cA (AV av A) H d v):∃k a vs,v = .ref a/\SqQ k cA.K H a vs/\SqQ k cA.K (cut A H) a vs/\RepL cA (AV av A) H xs vs:=by
 cases d<;>first|(cases h;done)|skip
 · cases h
   obtain⟨a,vs,rfl,na,rd,l⟩:=r;exact⟨false,a,vs,rfl,rd,JM na rd λb o n e=>by rw [VU λ⟨i,z⟩=>n (.inr ⟨i,z⟩)];exact e,l⟩
 · cases h
   obtain⟨a,vs,rfl,na,rd,l⟩:=r;exact⟨true,a,vs,rfl,SqT.of rd,SqT.of (by rw [VU λ⟨i,z⟩=>na (.inr ⟨i,z⟩)];exact rd),l⟩
theorem ZeQ{ta tb:TE}{ε1 ε2:Env->Option D}(h1:VE G ow ta .cl ε1)(h2:VE G ow tb .cl ε2):VI G ow (ZfI G.1.K (Xn ta (Xn tb tNil))) (UJ ε1 ε2):=λH0 av A σ H δ E xs e R k=>by
 unfold UJ at e;cases he1:ε1 δ with
 |none=>rw [he1]at e;cases e
 |some d1=>
  cases he2:ε2 δ with
  |none=>rw [he1,he2]at e;cases e
  |some d2=>
   rw [he1,he2]at e;dsimp only at e;cases hs1:U6 d1 with
   |none=>rw [hs1]at e;cases e
   |some x1=>
    cases hs2:U6 d2 with
    |none=>rw [hs1,hs2]at e;cases e
    |some x2=>
     rw [hs1,hs2]at e;cases e;refine h1 H0 av A σ H δ E _ he1 _ λv H1 s1 r1 => ?_
     refine h2 H0 av A σ H1 δ (E.mono s1) _ he2 _ λv2 H2 s2 r2 => ?_
     obtain⟨p,a,vs,rfl,rd,rdc,l⟩:=ZaZ hs1 (RepT.r (r1.same s2));obtain⟨q,b,ws,rfl,rd2,rdc2,l2⟩:=ZaZ hs2 (RepT.r r2);exact⟨p,q,a,b,vs,ws,rfl,rd,rd2,k _ H2 (s1.trans s2) (Zb7 rdc l.cut rdc2 l2.cut)⟩
end
end DL
namespace DL
open PySem PySem.Spec PyProof.Rows L2
section
variable{X:Cx}{K:PySem.W.Frag}{cA:Kn}
variable{G:Cn}{ow:List Nat}
open Classical in
end
end DL
namespace DL
open PySem PySem.Spec L2
section
variable{cA:Kn}{av:Addr->Prop}{H:Hp}
end
section
variable{G:Cn}{ow owN owB owC ow1:List Nat}{H0 H:Hp}{av:Addr->Prop}{A:Nat->Option Addr}{σ:L2.St}{δ:Env}
end
end DL
namespace L2
open PySem PySem.Spec PyProof.Rows
section
variable{X:Cx}
end
end L2
namespace DL
open PySem PySem.Spec L2
section
variable{G:Cn}{ow owN owB owC ow1:List Nat}
open Classical in
end
end DL
namespace L2
open PySem PySem.Spec PyProof.Rows
section
variable{X:Cx}
end
end L2
namespace DL
open PySem PySem.Spec L2
section
variable{G:Cn}{ow owN owB owC ow1:List Nat}
end
end DL
namespace DL
open PySem PySem.Spec L2
section
variable{cA:Kn}{G:Cn}{ow owN owB owC:List Nat}
end
end DL
namespace DL
open PySem PySem.Spec L2
section
variable{X:Cx}{cA:Kn}
open Classical in
end
end DL
namespace DL
open PySem PySem.Spec L2
section
variable{cA:Kn}{G:Cn}{ow owN owB owC ow1:List Nat}{i:Nat}{H0 H H':Hp}{av:Addr->Prop}{A:Nat->Option Addr}{σ:L2.St}{δ:Env}
open Classical in
end
end DL
namespace DL
open PySem PySem.Spec L2
section
variable{cA:Kn}{G:Cn}{ow owN owB owC ow1:List Nat}{i:Nat}{H0 H H':Hp}{av:Addr->Prop}{A A':Nat->Option Addr}{σ σ':L2.St}{δ δ1:Env}
end
end DL
namespace DL
open PySem PySem.Spec L2
section
variable{cA:Kn}{G:Cn}{ow owN owB owC ow1:List Nat}{i:Nat}
open Classical in
end
end DL
namespace DL
open PySem PySem.Spec L2
section
variable{G:Cn}{ow ow1:List Nat}
end
end DL
namespace L2
open PySem PySem.Spec PyProof.Rows
structure CompSd(X:Cx)(scope:Scope)(tn cn:List Str)(js:List Nat):Prop where
 kind:scope.kind = .function
 own:∀y∈scope.names,y.2 = .cell->scope.names.lookup y.1=some .cell
 names:∀y∈scope.names,y.2 = .local->scope.names.lookup y.1=some .local
 free:∀y∈scope.names,y.2 = .free->X.env.kindOf y.1=some .cell\/X.env.kindOf y.1=some .free
 cap:∀(k:Nat)(x:Str),cn[k]? = some x->∃j,js[k]? = some j/\X.N[j]? = some x/\(X.env.kindOf x=some .cell\/X.env.kindOf x=some .free)/\scope.names.lookup x=some .free
 len:cn.length=js.length
section
variable{X:Cx}{pins:List (Addr×Obj)}{σ:St}{H₂:Hp}{s₂:Shared}{scope:Scope}{tn cn:List Str}{js:List Nat}
end
section
variable{X:Cx}{tg iter elt:Expr}{ifs:List Expr}{scope:Scope}{pos:Pos}{wi:TI}{g:TG}{tt:TT}{te:TE}{tn cn:List Str}{js:List Nat}
end
end L2
namespace PySem
abbrev Zgg(h:Heap)(z TI TO:Addr)(f0 f1:Value):Prop:=
 h.get? z=some { cls := .type "zip",dict:=none,data := .fields #[f0,f1,.bool false,.ref TI,.ref TO],slots := #[] }
section
variable{prog:Program}{w:World}{A:Around}{E:Value->Shared->Prop}{s:Shared}
structure ZipSt(h:Heap)(z TI TO i1 i2 l1 l2:Addr)(i:Nat):Prop where
 zip:∃f0 b,Zgg h z TI TO f0 (.bool b)/\((f0 = .none/\b=false)\/∃T o,f0=rawInt (T:Nat)/\h.get? T=some o)
 TI:IsPair h TI (.ref i1) (.ref i2)
 TO:∃a b,IsPair h TO a b
 it1:h.IsListIter i1 l1 i
 it2:h.IsListIter i2 l2 i
end
end PySem
namespace L2
open PySem PySem.Spec PyProof.Rows
end L2
namespace L2
open PySem PySem.Spec PyProof.Rows
section
variable{X:Cx}
open Classical in
end
end L2
namespace DL
open PySem PySem.Spec L2
section
variable{cA:Kn}{G:Cn}{ow:List Nat}
end
end DL
namespace L2
open PySem PySem.Spec PyProof.Rows
end L2
namespace DL
open PySem PySem.Spec L2
end DL
namespace DL
open PySem PySem.Spec L2
section
variable{cA:Kn}{G:Cn}{ow owN owB owC:List Nat}{H0 H H':Hp}{av:Addr->Prop}{A:Nat->Option Addr}{σ:L2.St}{δ:Env}
end
end DL
namespace DL
open PySem PySem.Spec PyProof.Rows L2
section
variable{prog:Program}{w:World}{A:Around}{E:Value->Shared->Prop}{s:Shared}{l:Addr}{xs:Array (Int×Tok)}
end
section
variable{X:Cx}{K:PySem.W.Frag}{cA:Kn}
end
end DL
namespace DL
open PySem PySem.Spec L2
section
variable{cA:Kn}{G:Cn}{ow:List Nat}
def NewL(H0 H:Hp)(vs:List V):Prop:=∀v∈vs,∃b ws,v = .ref b/\H b=some (.lst ws)/\H0 b=none
theorem NewL.same{H0 H H':Hp}{vs:List V}(h:NewL H0 H vs)(s:Same H H'):NewL H0 H' vs:=λv hv=>let⟨b,ws,e,r,f⟩:=h v hv;⟨b,ws,e,s _ _ r,f⟩
mutual
theorem Rep.kind{av:Addr->Prop}{H H':Hp}:∀{d:D}{v:V},frz d=true->(∀b o,H b=some o->(∀vs,o ≠ .lst vs)->H' b=some o)->Rep cA av H d v->Rep cA av H' d v
 | .non,_,_,_,h=>h
 | .bl _,_,_,_,h=>h
 | .int _,_,_,_,h=>h
 | .str _,_,_,_,h=>h
 | .lst xs,v,hf,k,h=>by cases hf
 | .tup xs,v,hf,k,h=>by
  unfold DL.frz at hf;unfold Rep at h ⊢;obtain⟨a,vs,e,n,r,l⟩:=h;exact⟨a,vs,e,n,k _ _ r (λ_ z=>by cases z),RepL.kind hf k l⟩
 | .obj c ks xs,v,hf,k,h=>by
  unfold DL.frz at hf;unfold Rep at h ⊢;obtain⟨a,dx,vs,e,n,r,z,l⟩:=h;exact⟨a,dx,vs,e,n,k _ _ r (λ_ z=>by cases z),z,RepL.kind hf k l⟩
 | .dct ks xs,v,hf,k,h=>by cases hf
 | .dtt ks xs,v,hf,k,h=>by cases hf
theorem RepL.kind{av:Addr->Prop}{H H':Hp}:∀{xs:List D}{vs:List V},frzL xs=true->(∀b o,H b=some o->(∀vs,o ≠ .lst vs)->H' b=some o)->RepL cA av H xs vs->RepL cA av H' xs vs
 | [],_,_,_,h=>h
 |x::xs,vs,hf,k,h=>by
  unfold DL.frzL at hf;rw [Bool.and_eq_true]at hf;unfold RepL at h ⊢;obtain⟨v,r,e,h1,h2⟩:=h;exact⟨v,r,e,Rep.kind hf.1 k h1,RepL.kind hf.2 k h2⟩
end
structure Turned(H0 H H':Hp)(S:Addr->Prop):Prop where
 else_:∀b,¬S b->H' b=H b
 lst:∀b,S b->∃ws,H' b=some (.lst ws)
 old:∀b,S b->∃ws,H b=some (.lst ws)
 new:∀b,S b->H0 b=none
theorem Turned.kind{H0 H H':Hp}{S:Addr->Prop}(T:Turned H0 H H' S):∀b o,H b=some o->(∀vs,o ≠ .lst vs)->H' b=some o:=λb o e n=>by
 have hs:¬S b:=λz=>by
  obtain⟨ws,w⟩:=T.old b z;rw [w]at e;cases e;exact n ws rfl
 rw [T.else_ b hs];exact e
theorem Turned.same{H0 H H':Hp}{S:Addr->Prop}(T:Turned H0 H H' S)(s:Same H0 H):Same H0 H':=λb o e=>by
 have hs:¬S b:=λz=>by rw [T.new b z]at e;cases e
 rw [T.else_ b hs];exact s b o e
end
end DL
namespace DL
open PySem PySem.Spec L2
section
variable{cA:Kn}{G:Cn}{owN owB owC:List Nat}
theorem Turned.more{H0 H H':Hp}{S S':Addr->Prop}(T:Turned H0 H H' S)(hs:∀b,S b->S' b)(h1:∀b,S' b->∃ws,H b=some (.lst ws))(h2:∀b,S' b->H0 b=none):Turned H0 H H' S':=
 ⟨λb hb=>T.else_ b λz=>hb (hs b z),λb hb=>by
   by_cases z:S b
   · exact T.lst b z
   · rw [T.else_ b z];exact h1 b hb,h1,h2⟩
end
end DL
namespace PySem
open Sem (wp)
open AutoSeq1 (wpAny_loadPart')
section
variable{prog:Program}{w:World}{A:Around}{E:Value->Shared->Prop}{s:Shared}
end
end PySem
namespace L2
open PySem PySem.Spec PyProof.Rows
section
variable{X:Cx}{elts:List Expr}{x1:Nat}{tpos:Pos}
end
end L2
namespace DL
open PySem PySem.Spec L2
section
variable{cA:Kn}{G:Cn}{ow:List Nat}
end
end DL
namespace DL
open PySem PySem.Spec L2
section
variable{cA:Kn}{G:Cn}{ow owB owC:List Nat}
def Zgy:D->D->Option D
 | .lst a,.lst b=>addX (.lst a) (.lst b)
 |_,_=>none
theorem Zgh{ta tb:TE}{a b:Env->Option D}(ha:VE G ow ta .cl a)(hb:VE G ow tb .cl b):VF G ow (tOp (U4 G.1.K) ta tb) (eOp Zgy a b):=λH0 av A σ H δ E d e Q k=>by
 obtain⟨x,y,ex,ey,ed⟩:=Zbx e;unfold Zgy at ed
 split at ed
 · rename_i xs ys
   dsimp only [addX]at ed
   by_cases hz:xs.length+ys.length<=sizeLine
   · rw [if_pos hz]at ed
     cases ed;refine ha H0 av A σ H δ E _ ex _ λv H1 s1 r1=>hb H0 av A σ H1 δ (E.mono s1) _ ey _ λw H2 s2 r2 => ?_
     obtain⟨a1,vs1,rfl,na,rd,l1⟩:=r1;obtain⟨a2,vs2,rfl,nb,rd2,l2⟩:=r2;refine .inr (.inr ⟨a1,a2,vs1,vs2,rfl,rfl,s2.seq rd,rd2,by rw [<-l1.length,<-l2.length];exact hz,λp hp=>k p _ _ H2 (s1.trans s2) hp ((l1.same s2).append l2) rfl⟩)
   · rw [if_neg hz]at ed;cases ed
 · cases ed
end
end DL
namespace DL
open PySem PySem.Spec L2 PyProof.Rows
section
variable{X:Cx}{cA:Kn}
open Classical in
end
section
variable{prog:Program}{w:World}{A:Around}{E:Value->Shared->Prop}{s:Shared}{l:Addr}{xs:Array (Int×Tok)}
end
section
variable{X:Cx}{K:PySem.W.Frag}{cA:Kn}
end
end DL
namespace L2
open PySem PySem.Spec PyProof.Rows Builtin Builtin.Str
def VY(a:List Nat):List Nat:=(Txt.strip (tx a)).cps.toList
section
variable{X:Cx}
theorem ZdJ:MtR X "str.strip" (λx xs H Q=>∃a,x=S a/\xs=[]/\a.length<=sizeLine/\Q (S (VY a)) H):=by
 intro pins s σ H x xs v us Q I rx rs h;obtain⟨a,rfl,rfl,hz,q⟩:=h;obtain⟨t,rfl⟩:=rx;cases rs;refine SC.strip (λt' k => ?_) (by show(tx a).length<=sizeLine;rw [Yh];exact hz);exact⟨S (VY a),H,I.tok _,⟨t',by rw [show tx (VY a)=Txt.strip (tx a)from Jy _]⟩,q⟩
end
end L2
namespace DL
open PySem PySem.Spec L2
variable{cA:Kn}
def stripD(a:List Nat):List D->Option D
 | []=>if a.length<=sizeLine then some (.str (VY a))else none
 |_=>none
theorem ZdK:U2 cA (λx xs H Q=>∃a,x=S a/\xs=[]/\a.length<=sizeLine/\Q (S (VY a)) H) stripD:=λi H a ds vs d hi h e Q k=>by
 unfold stripD at e
 split at e
 · by_cases hz:a.length<=sizeLine
   · rw [if_pos hz]at e
     cases e;cases h;exact⟨a,rfl,rfl,hz,k _ H (Same.refl H) rfl⟩
   · rw [if_neg hz]at e;cases e
 · cases e
theorem Zgi{G:Cn}{ow:List Nat}{K:PySem.W.Frag}{r:V->List V->Hp->VK->Prop}{f:List Nat->List D->Option D}{to:TE}{q0:Ql}{a:Env->Option D}(hr:U2 G.1 r f)(ha:VE G ow to q0 a):VE G ow (Ju K "str" r to) .cl (eBM f a eNil):=
 (show VE G ow (tBM K "str" r to tNil) .cl (eBM f a eNil)from Uf (q:=.cl) hr ha Zk)
end DL
namespace DL
open PySem PySem.Spec L2
section
variable{cA:Kn}{G:Cn}{ow owN owB owC:List Nat}
theorem ER.nOwn{H0 H:Hp}{av:Addr->Prop}{A:Nat->Option Addr}{σ:L2.St}{δ:Env}(E:ER G ow H0 av A σ H δ){i:Nat}(hi:(ow.contains i)=false):A i=Option.none:=by
 cases h:A i with
 |none=>rfl
 |some a=>
  have:=E.dom i (by rw [h];exact λz=>by cases z);simp at hi;exact absurd this hi
inductive NewD(H0 H:Hp):List D->List V->Prop
 |nil:NewD H0 H [] []
 |cons {xs ds:List D} {vs ws:List V} {b:Addr} (h:H b=some (.lst ws)) (h0:H0 b=none) (hl:ws.length=ds.length) (r:NewD H0 H xs vs):NewD H0 H (.lst ds::xs) (.ref b::vs)
theorem NewD.same{H0 H H':Hp}(s:Same H H'):∀{xs:List D}{vs:List V},NewD H0 H xs vs->NewD H0 H' xs vs
 |_,_,.nil => .nil
 |_,_,.cons h h0 hl r => .cons (s _ _ h) h0 hl (NewD.same s r)
theorem NewD.snoc{H0 H:Hp}{ds:List D}{ws:List V}{b:Addr}(h:H b=some (.lst ws))(h0:H0 b=none)(hl:ws.length=ds.length):∀{xs:List D}{vs:List V},NewD H0 H xs vs->NewD H0 H (xs++[.lst ds]) (vs++[.ref b])
 |_,_,.nil => .cons h h0 hl .nil
 |_,_,.cons h' h0' hl' r => .cons h' h0' hl' (NewD.snoc h h0 hl r)
def Zh2(G:Cn)(ow:List Nat)(te:TE)(ε:Env->Option D):Prop:=
 ∀H0 av A σ H δ,ER G ow H0 av A σ H δ->∀d,ε δ=some d->∀Q:VK,(∀p vs xs H1,Same H H1->H1 p=none->RepL G.1 (AV av A) H1 xs vs->NewD H H1 xs vs->d = .lst xs->Q (.ref p) (upd H1 p (.lst vs)))->te σ H Q
theorem Zdl {wi:TI} {g:TG} {tt:TT} {te:TE} {n:Nat} {js:List Nat} {ι:Env->Option (List D)} {γ:D->Env->Option Env} {τ:Env->Option Bool} {ε:Env->Option D}
 (hjs:js.all (λj => !ow.contains j)=true) (hi:VI G ow wi ι) (hg:VG ⟨G.1,λ_=>none⟩ [] [] g γ) (ht:VT ⟨G.1,λ_=>none⟩ [] tt τ) (he:VF ⟨G.1,λ_=>none⟩ [] te ε):Zh2 G ow (Qr wi g tt te n js) (Z5 ι γ τ ε n js):=λH0 av A σ H δ E d e Q k=>by
 unfold Z5 at e;cases hι:ι δ with
 |none=>rw [hι]at e;cases e
 |some xs=>
  rw [hι]at e;dsimp only at e;cases hc:Yn γ τ ε (YT n δ js) xs with
  |none=>rw [hc]at e;cases e
  |some full=>
   rw [hc]at e;dsimp only at e
   by_cases hz:full.length<=sizeLine
   · rw [if_pos hz]at e
     have ed:D.lst full=d:=Option.some.inj e;refine hi H0 av A σ H δ E xs hι _ λJ H1 s1 W => ?_
     have E1:=E.mono s1
     refine⟨λi m ys H'=>m=xs.length-i/\i<=xs.length/\Same H1 H'/\∃done rest,NewD H H' done ys/\RepL G.1 (AV av A) H' done ys/\Yn γ τ ε (YT n δ js) (xs.drop i)=some rest/\done++rest=full,
      ⟨xs.length,by simp,Nat.zero_le _,Same.refl _,[],full,.nil,.nil,hc,rfl⟩,?_⟩
     rintro i m ys H' ⟨rfl,hle,s',done,rest,nw,rl,hr,hf⟩
     have E':=E1.mono s';have sc:Same (DL.cut A H1) H':=λb o z=>s' b o (JU z).1
     obtain⟨w1,w2,w3⟩:=W H' sc
     by_cases hlt:i<xs.length
     · refine .inr ⟨w1 i hlt,λv H2 y => ?_⟩
       have hx:xs[i]? = some xs[i]:=List.getElem?_eq_getElem hlt;obtain⟨s2,rep⟩:=w2 i _ v H2 hx y;have rep':Rep G.1 (AV av A) H2 xs[i] v:=rep _ E'.avl λb z => .inl z
       have E2:=E'.mono s2;have EB:ER ⟨G.1,λ_=>none⟩ [] H2 (AV av A) (λ_=>none) (L2.blk n σ js) H2 (YT n δ js):=E2.blk n js hjs
       have triv:∀(A':Nat->Option Addr){σ':L2.St}{H3:Hp}{δ':Env},ER ⟨G.1,λ_=>none⟩ [] H2 (AV av A) A' σ' H3 δ'->∀b,AV (AV av A) A' b ↔ AV av A b:=λA' {σ' H3 δ'} E3 b=>by
        constructor
        · rintro(z|⟨j,z⟩)
          · exact z
          · have:=E3.dom j (by rw [z];exact λz=>by cases z)
            cases this
        · exact λz => .inl z
       rw [List.drop_eq_getElem_cons hlt]at hr;unfold Yn at hr;cases hγ:γ xs[i] (YT n δ js)with
       |none=>rw [hγ]at hr;cases hr
       |some δ1=>
        rw [hγ]at hr;dsimp only at hr;refine hg _ _ _ _ H2 _ EB _ v (rep'.av λb z => .inl ((triv _ EB b).mp z)) δ1 hγ _ λA3 σ3 H3 s3 E3 => ?_
        cases hτ:τ δ1 with
        |none=>rw [hτ]at hr;cases hr
        |some c=>
         rw [hτ]at hr;refine ht _ _ A3 σ3 H3 δ1 E3 c hτ _ λH4 s4 => ?_
         have E4:=E3.mono s4;have s24:Same H' H4:=(s2.trans s3).trans s4;cases c with
         |false=>
          exact V7 ⟨xs.length-(i+1),by omega,rfl,hlt,s'.trans s24,done,rest,NewD.same s24 nw,rl.same s24,hr,hf⟩
         |true=>
          dsimp only at hr;cases hε:ε δ1 with
          |none=>rw [hε]at hr;cases hr
          |some yd=>
           rw [hε]at hr;dsimp only at hr;cases hr':Yn γ τ ε (YT n δ js) (xs.drop (i+1))with
           |none=>rw [hr']at hr;cases hr
           |some rest'=>
            rw [hr']at hr;have hrr:yd::rest'=rest:=Option.some.inj hr;subst hrr;refine V8 (he _ _ A3 σ3 H4 δ1 E4 yd hε _ λp ws ds H5 s5 hp r5 ey => ?_);subst ey;have s45:Same H4 (upd H5 p (.lst ws)):=s5.trans (ZT hp);have sall:Same H' (upd H5 p (.lst ws)):=s24.trans s45;have hH:H p=none:=(s1.trans (s'.trans (s24.trans s5))).free hp;have hnp:¬AV av A p:=λz=>(E.avl p z) hH
            refine⟨?_,xs.length-(i+1),by omega,rfl,hlt,s'.trans sall,done++[.lst ds],rest',?_,(rl.same sall).append (.cons ?_ .nil),hr',by rw [<-hf];simp⟩
            · have:=congrArg List.length hf
              rw [List.length_append,List.length_cons]at this;have:=rl.length;omega
            · exact NewD.snoc ZS hH r5.length.symm (NewD.same sall nw)
            · exact⟨p,ws,rfl,λz=>absurd z hnp,SqL.of ZS,(r5.av λb z => .inl ((triv _ E4 b).mpr z)).same (ZT hp)⟩
     · have ei:i=xs.length:=by omega
       subst ei;rw [List.drop_length]at hr;cases hr;refine .inl ⟨w3 _ (Nat.le_refl _),λp hp=>k p ys full H' (s1.trans s') hp (by rw [<-hf,List.append_nil];exact rl) (by rw [<-hf,List.append_nil];exact nw) ed.symm⟩
   · rw [if_neg hz]at e;cases e
theorem Zh3{α:Type}(x:α)(xs:List α):ixN (x::xs).length 0=some 0:=by
 unfold ixN;rw [if_pos (by omega),if_pos (by rw [List.length_cons];omega)];rfl
structure Hd(H HE H':Hp)(p0 p1 b0:Addr)(r1:List V):Prop where
 same:Same H H'
 kind:∀b o,HE b=some o->(∀vs,o ≠ .lst vs)->H' b=some o
 l0:∃v ws,H' p0=some (.lst (v::ws))
 l1:∃v ws,H' b0=some (.lst (v::ws))
 lp:H' p1=some (.lst (.ref b0::r1))
theorem Hd.mono{H HE H' H2:Hp}{p0 p1 b0:Addr}{r1:List V}(h:Hd H HE H' p0 p1 b0 r1)(s:Same H' H2):Hd H HE H2 p0 p1 b0 r1:=
 ⟨h.same.trans s,λb o e n=>s _ _ (h.kind b o e n),let⟨v,ws,e⟩:=h.l0;⟨v,ws,s _ _ e⟩,let⟨v,ws,e⟩:=h.l1;⟨v,ws,s _ _ e⟩,s _ _ h.lp⟩
theorem Hd.turn{H HE H':Hp}{p0 p1 b0 c:Addr}{r1:List V}(h:Hd H HE H' p0 p1 b0 r1)(hc:c=p0\/c=b0)(h0:H c=none)(hE:∃ws,HE c=some (.lst ws))(hp:c≠p1)(v:V)(ws:List V):Hd H HE (upd H' c (.lst (v::ws))) p0 p1 b0 r1:=by
 refine⟨λb o e => ?_,λb o e n => ?_,?_,?_,?_⟩
 · have:b≠c:=λz=>by rw [z,h0]at e;cases e
   rw [ZF this];exact h.same b o e
 · have : b ≠ c := fun z => by
    obtain⟨ws,w⟩:=hE;rw [z,w]at e;cases e;exact n ws rfl
   rw [ZF this];exact h.kind b o e n
 · by_cases e:p0=c
   · subst e;exact⟨v,ws,ZS⟩
   · rw [ZF e];exact h.l0
 · by_cases e:b0=c
   · subst e;exact⟨v,ws,ZS⟩
   · rw [ZF e];exact h.l1
 · rw [ZF (Ne.symm hp)];exact h.lp
def Uh(ip iw:Nat)(ε0 ε1 εm εa εb:Env->Option D)(ψ:Env->Option Out)(δ:Env):Option Out:=match ε0 δ,ε1 δ with
 |some (.lst (x0::xs0)),some (.lst (.lst (y0::ys0)::xs1))=>match εm (δ.set ip (some (.tup [.lst (x0::xs0),.lst (.lst (y0::ys0)::xs1)])))with
  |some dw=>if frz dw=true/\ip<δ.length/\iw<δ.length then(match εa ((δ.set ip none).set iw (some dw)),εb ((δ.set ip none).set iw (some dw))with
   |some _,some _=>ψ ((δ.set ip none).set iw (some dw))
   |_,_=>none)else none
  |none=>none
 |_,_=>none
theorem ZdL {t0 t1 tm ta tb:TE} {u:TS} {ε0 ε1 εm εa εb:Env->Option D} {ψ:Env->Option Out} (ip iw:Nat) (hpw:ip≠iw) (hn:G.2 ip=none) (hnw:G.2 iw=none) (ho:ow.contains ip=false) (how:ow.contains iw=false)
 (h0:VF G ow t0 ε0) (h1:Zh2 G ow t1 ε1) (hm:VE G ow tm .cl εm) (ha:VE G ow ta .cl εa) (hb:VE G ow tb .cl εb) (hu:VS G ow owN owB owC u ψ) :
 VS G ow owN owB owC (Uv (Va (Jp (Xn t0 (Xn t1 tNil))) (X9 ip)) (Uv (Va tm (X9 iw)) (Uv (Va ta (Ji (tOp (VH G.1.K) (Vz ip) (tC (.int 0))) (tC (.int 0)) rSetL))
  (Uv (Va tb (Ji (tOp (VH G.1.K) (tOp (VH G.1.K) (Vz ip) (tC (.int 1))) (tC (.int 0))) (tC (.int 0)) rSetL)) u)))) (Uh ip iw ε0 ε1 εm εa εb ψ):=λH0 av A σ H δ E o e De k=>by
 unfold Uh at e
 split at e
 case h_2=>cases e
 rename_i x0 xs0 y0 ys0 xs1 e0 e1;cases em:εm (δ.set ip (some (.tup [.lst (x0::xs0),.lst (.lst (y0::ys0)::xs1)])))with
 |none=>rw [em]at e;cases e
 |some dw=>
  rw [em]at e;dsimp only at e
  by_cases hc:frz dw=true/\ip<δ.length/\iw<δ.length
  case neg=>rw [if_neg hc]at e;cases e
  rw [if_pos hc]at e;obtain⟨hf,l1,l2⟩:=hc;cases ea:εa ((δ.set ip none).set iw (some dw))with
  |none=>rw [ea]at e;cases e
  |some da=>
  cases eb:εb ((δ.set ip none).set iw (some dw))with
  |none=>rw [ea,eb]at e;cases e
  |some db=>
  rw [ea,eb]at e;dsimp only at e;have hlen:=E.len;have hin:∀j,ow.contains j=false->∀x,x∈ow ↔ x∈ow/\x≠j:=λj hj x=>⟨λz=>⟨z,λq=>by subst q;simp at hj;exact hj z⟩,λz=>z.1⟩
  have nav:∀b,H b=none->¬AV av A b:=λb hb z=>E.avl b z hb
  refine h0 H0 av A σ H δ E _ e0 _ λp0 vs0 zs0 H1 s1 f0 r0 ed0 => ?_
  have sA:Same H (upd H1 p0 (.lst vs0)):=s1.trans (ZT f0);have EA:=E.mono sA;refine h1 H0 av A σ _ δ EA _ e1 _ λp1 vs1 zs1 H2 s2 f1 r1 nw ed1 => ?_
  have sB:Same (upd H1 p0 (.lst vs0)) (upd H2 p1 (.lst vs1)):=s2.trans (ZT f1);refine⟨by show 2<=sizeLine;rw [PySem.sizeLine_eq];omega,λp fp => ?_⟩;have sD:Same (upd H2 p1 (.lst vs1)) (upd (upd H2 p1 (.lst vs1)) p (.tup [.ref p0,.ref p1])):=ZT fp;have q0:upd (upd H2 p1 (.lst vs1)) p (.tup [V.ref p0,.ref p1]) p0=some (.lst vs0):=sD _ _ (sB _ _ ZS);have q1:upd (upd H2 p1 (.lst vs1)) p (.tup [V.ref p0,.ref p1]) p1=some (.lst vs1):=sD _ _ ZS
  have n0:H p0=none:=s1.free f0;have n1:H p1=none:=sA.free (s2.free f1);have np:H p=none:=sA.free (sB.free fp);have sAll:Same H (upd (upd H2 p1 (.lst vs1)) p (.tup [V.ref p0,.ref p1])):=sA.trans (sB.trans sD);have ez0:zs0=x0::xs0:=(D.lst.inj ed0).symm;have ez1:zs1 = .lst (y0::ys0)::xs1:=(D.lst.inj ed1).symm;subst ez0;subst ez1;have R0:Rep G.1 (AV av A) (upd (upd H2 p1 (.lst vs1)) p (.tup [V.ref p0,.ref p1])) (.lst (x0::xs0)) (.ref p0):=⟨p0,vs0,rfl,λz=>absurd z (nav _ n0),SqL.of q0,r0.same ((ZT f0).trans (sB.trans sD))⟩
  have R1:Rep G.1 (AV av A) (upd (upd H2 p1 (.lst vs1)) p (.tup [V.ref p0,.ref p1])) (.lst (.lst (y0::ys0)::xs1)) (.ref p1):=⟨p1,vs1,rfl,λz=>absurd z (nav _ n1),SqL.of q1,r1.same ((ZT f1).trans sD)⟩
  have RP:Rep G.1 (AV av A) (upd (upd H2 p1 (.lst vs1)) p (.tup [V.ref p0,.ref p1])) (.tup [.lst (x0::xs0),.lst (.lst (y0::ys0)::xs1)]) (.ref p):=⟨p,_,rfl,nav _ np,ZS,.cons R0 (.cons R1 .nil)⟩
  have ED:=(E.mono sAll).set (ow1:=ow) RP (hin ip ho) hn;obtain⟨w0,ws0,rfl,_,_⟩:=r0.uncons;obtain⟨w1,ws1,rfl,rr1,_⟩:=r1.uncons
  obtain⟨b0,wb,rfl,gb,fb,hbl⟩:∃b0 wb,w1 = .ref b0/\H2 b0=some (.lst wb)/\upd H1 p0 (.lst (w0::ws0)) b0=none/\wb.length=(y0::ys0).length:=by
   cases nw with
   |cons h h0 hl r=>exact⟨_,_,rfl,h,h0,hl⟩
  refine hm H0 av _ _ _ _ ED dw em _ λvw HE sE rw_ => ?_
  have aeq:∀j,(λj=>if j=ip then none else A j) j=A j:=λj=>by
   by_cases hj:j=ip
   · subst hj
     dsimp only;rw [if_pos rfl,E.nOwn ho]
   · exact if_neg hj
  have rw1:Rep G.1 (AV av A) HE dw vw:=(RepT.r rw_).av λb z=>by
   rcases z with z|⟨j,z⟩
   · exact .inl (.inl z)
   · exact .inl (.inr ⟨j,by rw [aeq j];exact z⟩)
  have nb:H b0=none:=sA.free fb;have hEp:HE p=some (.tup [.ref p0,.ref p1]):=sE _ _ ZS;have hE0:HE p0=some (.lst (w0::ws0)):=sE _ _ q0;have hE1:HE p1=some (.lst (.ref b0::ws1)):=sE _ _ q1;have hEb:HE b0=some (.lst wb):=sE _ _ (sD _ _ ((ZT f1) _ _ gb))
  have hwb:∃v ws,wb=v::ws:=by
   cases wb with
   |nil=>cases hbl
   |cons v ws=>exact⟨v,ws,rfl⟩
  obtain⟨v0,wr,rfl⟩:=hwb
  have ne0:p0≠p1:=λz=>by
   have:=s2 p0 _ ZS;rw [z,f1]at this;cases this
  have neb:b0≠p1:=λz=>by rw [z,f1]at gb;cases gb
  have hd:Hd H HE HE p0 p1 b0 ws1:=⟨sAll.trans sE,λb o e _=>e,⟨_,_,hE0⟩,⟨_,_,hEb⟩,hE1⟩
  have fin:∀H',Hd H HE H' p0 p1 b0 ws1->ER G ow H0 av A ((σ.set ip (some (.ref p))).set iw (some vw)) H' ((δ.set ip none).set iw (some dw)):=λH' h=>by
   have E1:=(E.mono h.same).none (i:=ip) (x:=some (.ref p)) ho hn;have E2:=E1.set (ow1:=ow) (i:=iw) (Rep.kind hf h.kind rw1) (hin iw how) hnw
   have ea':(λj=>if j=iw then none else A j)=A:=funext λj=>by
    by_cases hj:j=iw
    · subst hj
      rw [if_pos rfl,E.nOwn how]
    · exact if_neg hj
   rw [ea']at E2;exact E2
  have gp:((σ.set ip (some (V.ref p))).set iw (some vw))[ip]? = some (some (.ref p)):=by
   rw [List.getElem?_set_ne (Ne.symm hpw),List.getElem?_set_self (by rw [hlen];exact l1)]
  have hixT:∀H':Hp,Hd H HE H' p0 p1 b0 ws1->∀Q:VK,(Q (.ref p0) H'->VH G.1.K (.ref p) (.int 0) H' Q)/\(Q (.ref p1) H'->VH G.1.K (.ref p) (.int 1) H' Q):=λH' h Q=>
   ⟨λq => .inr (.inl ⟨p,_,0,.ref p0,rfl,rfl,SqT.of (h.kind _ _ hEp λ_ z=>by cases z),rfl,q⟩),λq => .inr (.inl ⟨p,_,1,.ref p1,rfl,rfl,SqT.of (h.kind _ _ hEp λ_ z=>by cases z),rfl,q⟩)⟩
  refine ha H0 av A _ HE _ (fin HE hd) da ea _ λva Ha sa _ => ?_
  have hd1:=hd.mono sa;obtain⟨x1,ws',g1⟩:=hd1.l0;refine⟨.ref p,gp,(hixT Ha hd1 _).1 ⟨p0,_,0,0,rfl,rfl,g1,Zh3 _ _,?_⟩⟩;have hd2:=hd1.turn (.inl rfl) n0 ⟨_,hE0⟩ ne0 va ws';refine hb H0 av A _ _ _ (fin _ hd2) db eb _ λvb Hb sb _ => ?_
  have hd3:=hd2.mono sb;obtain⟨x2,ws2,g2⟩:=hd3.l1;refine⟨.ref p,gp,(hixT Hb hd3 _).2 (.inl ⟨p1,_,0,.ref b0,rfl,rfl,SqL.of hd3.lp,UV (j:=0) rfl,⟨b0,_,0,0,rfl,rfl,g2,Zh3 _ _,?_⟩⟩)⟩;exact hu H0 av A _ _ _ (fin _ (hd3.turn (.inr rfl) nb ⟨_,hEb⟩ neb vb ws2)) o e De k
end
end DL
namespace DL
open PySem PySem.Spec L2
theorem Zbd(i j:Int):eqD (.int i) (.int j)=some (.bl (decide (i=j))):=by
 show(if(ZK (.int i)&&ZK (.int j)&&XJ (V.int i) (V.int j))=true then some (D.bl (decide (V.int i=V.int j)))else _)=_;rw [if_pos (by rfl)];simp
theorem Ui(a b:List Nat):eqD (.str a) (.str b)=some (.bl (decide (a=b))):=by
 show(if(ZK (.str a)&&ZK (.str b)&&XJ (S a) (S b))=true then some (D.bl (decide (S a=S b)))else _)=_;rw [if_pos (by rfl)];simp only [ZgH]
theorem ZcI(a b:Bool):eqD (.bl a) (.bl b)=some (.bl (decide (a=b))):=by
 show(if(ZK (.bl a)&&ZK (.bl b)&&XJ (V.bl a) (V.bl b))=true then some (D.bl (decide (V.bl a=V.bl b)))else _)=_;rw [if_pos (by rfl)];simp
theorem Zcd:eqD .non .non=some (.bl true):=rfl
theorem Zce(i:Int):eqD .non (.int i)=some (.bl false):=by
 show(if(ZK .non&&ZK (.int i)&&XJ V.non (V.int i))=true then some (D.bl (decide (V.non=V.int i)))else _)=_;rw [if_pos (by rfl)];simp
theorem Zcf(i:Int):eqD (.int i) .non=some (.bl false):=by
 show(if(ZK (.int i)&&ZK .non&&XJ (V.int i) V.non)=true then some (D.bl (decide (V.int i=V.non)))else _)=_;rw [if_pos (by rfl)];simp
theorem Uj(i j:Int):neD (.int i) (.int j)=some (.bl (!decide (i=j))):=by unfold neD;rw [Zbd]
theorem U7(i j:List Nat):neD (.str i) (.str j)=some (.bl (!decide (i=j))):=by unfold neD;rw [Ui]
theorem Zej:neD .non .non=some (.bl false):=by unfold neD;rw [Zcd];rfl
theorem Zek(i:Int):neD .non (.int i)=some (.bl true):=by unfold neD;rw [Zce];rfl
theorem Zel(i:Int):neD (.int i) .non=some (.bl true):=by unfold neD;rw [Zcf];rfl
theorem Uk{γ:D->Env->Option Env}{φ:Env->Option Out}(I:Nat->Env->Prop):∀(xs:List D)(k:Nat)(δ:Env),I k δ ->
 (∀(j:Nat)x δ,xs[j]? = some x->I (k+j) δ->∃δ1,γ x δ=some δ1/\∃δ2,φ δ1=some (.nx δ2)/\I (k+j+1) δ2)->∃δ',YI γ φ xs δ=some (.nx δ')/\I (k+xs.length) δ'
 | [],k,δ,h,_=>⟨δ,rfl,h⟩
 |x::xs,k,δ,h,step=>by
  obtain⟨δ1,h1,δ2,h2,h3⟩:=step 0 x δ rfl h
  obtain⟨δ',h4,h5⟩:=Uk I xs (k+1) δ2 h3 λj y δ hy hI=>by
   have:=step (j+1) y δ (by simpa using hy) (by rwa [show k+(j+1)=k+1+j by omega])
   rwa [show k+(j+1)+1=k+1+j+1 by omega]at this
  refine⟨δ',?_,by rwa [List.length_cons,show k+(xs.length+1)=k+1+xs.length by omega]⟩;unfold YI;rw [h1];dsimp only;rw [h2];exact h4
end DL
namespace DL
open PySem PySem.Spec L2
end DL
namespace DL
open PySem PySem.Spec L2
theorem ZeR{cs:List Nat}{i:Int}{c:Nat}(h:cs.length<=sizeLine)(hz:atI cs i=some c):ixD (.str cs) (.int i)=some (.str [c]):=by
 show(if cs.length<=sizeLine then(atI cs i).map λc=>D.str [c]else none)=_;rw [if_pos h,hz];rfl
end DL
namespace DL
open PySem PySem.Spec L2
theorem Zu{a b:Env->Option Out}{δ δ':Env}(h:a δ=some (.nx δ')):Zh a b δ=b δ':=by
 unfold Zh;rw [h]
theorem Zgj{a b:Env->Option Out}{δ:Env}{d:D}(h:a δ=some (.rt d)):Zh a b δ=some (.rt d):=by
 unfold Zh;rw [h]
theorem ZO{i:Nat}{e:Env->Option D}{δ:Env}{d:D}(h:e δ=some d):Zp i e δ=some (.nx (δ.set i (some d))):=by
 unfold Zp;rw [h]
theorem Yz{e:Env->Option D}{δ:Env}{d:D}(h:e δ=some d):Zq e δ=some (.rt d):=by
 unfold Zq;rw [h]
theorem Zgk{t:Env->Option Bool}{a b:Env->Option Out}{δ:Env}(h:t δ=some true):sIf t a b δ=a δ:=by
 unfold sIf;rw [h]
theorem YA{t:Env->Option Bool}{a b:Env->Option Out}{δ:Env}(h:t δ=some false):sIf t a b δ=b δ:=by
 unfold sIf;rw [h]
theorem ZH{e:Env->Option D}{δ:Env}{b:Bool}(h:e δ=some (.bl b)):xB e δ=some b:=by
 unfold xB;rw [h];rfl
theorem Xg{t:Env->Option Bool}{δ:Env}{b:Bool}(h:t δ=some b):ZW t δ=some (!b):=by
 unfold ZW;rw [h]
theorem YV{a b:Env->Option Bool}{δ:Env}{x:Bool}(h1:a δ=some false)(h2:b δ=some x):xOr a b δ=some x:=by
 unfold xOr;rw [h1];exact h2
theorem ZaE{a b:Env->Option Bool}{δ:Env}{x:Bool}(h1:a δ=some true)(h2:b δ=some x):Xc a b δ=some x:=by
 unfold Xc;rw [h1];exact h2
theorem ZeS{a b:Env->Option Bool}{δ:Env}(h1:a δ=some false):Xc a b δ=some false:=by
 unfold Xc;rw [h1]
theorem ZI{n:Nat}{m:List D->Option D}{α:Env->Option (List D)}{δ:Env}{ds:List D}(h:α δ=some ds)(hn:ds.length=n):Zm n m [] α δ=m ds:=by
 unfold Zm;rw [h];dsimp only;rw [List.append_nil,if_pos hn]
theorem Zg{a:Env->Option D}{b:Env->Option (List D)}{δ:Env}{x:D}{xs:List D}(h1:a δ=some x)(h2:b δ=some xs):Zb a b δ=some (x::xs):=by
 unfold Zb;rw [h1,h2]
theorem Zn{f:D->D->Option D}{a b:Env->Option D}{δ:Env}{x y:D}(h1:a δ=some x)(h2:b δ=some y):eOp f a b δ=f x y:=by
 unfold eOp;rw [h1,h2]
theorem ZcJ{a b:Env->Option D}{δ:Env}{x:D}(h1:a δ=some (.bl true))(h2:b δ=some x):VP a b δ=some x:=by
 unfold VP;rw [h1];exact h2
theorem QH{α:Env->Option (List D)}{δ:Env}{ds:List D}(h:α δ=some ds)(hl:ds.length<=1000):YY α δ=(some (.tup ds):Option D):=by
 unfold YY;rw [h];exact if_pos (Nat.le_trans hl (by decide))
theorem VZ{α:Env->Option (List D)}{δ:Env}{ds:List D}(h:α δ=some ds)(hl:ds.length<=1000):ZU α δ=(some (.lst ds):Option D):=by
 unfold ZU;rw [h];exact if_pos (Nat.le_trans hl (by decide))
theorem Zag{γ:D->Env->Option Env}{φ:Env->Option Out}(I:Env->Prop):∀(xs:List D)(δ:Env),I δ ->
 (∀x∈xs,∀δ,I δ->∃δ1,γ x δ=some δ1/\∃δ2,φ δ1=some (.nx δ2)/\I δ2)->∃δ',YI γ φ xs δ=some (.nx δ')/\I δ'
 | [],δ,h,_=>⟨δ,rfl,h⟩
 |x::xs,δ,h,step=>by
  obtain⟨δ1,h1,δ2,h2,h3⟩:=step x List.mem_cons_self δ h;obtain⟨δ',h4,h5⟩:=Zag I xs δ2 h3 λy hy=>step y (List.mem_cons_of_mem _ hy)
  refine⟨δ',?_,h5⟩;unfold YI;rw [h1];dsimp only;rw [h2];exact h4
theorem ZcK{lo c:Int}{n:Nat}{x:D}(h:x∈ZR lo c n):∃k:Nat,k<n/\x = .int (lo+(k:Nat)*c):=by
 unfold ZR at h;obtain⟨k,hk,rfl⟩:=List.mem_map.mp h;exact⟨k,List.mem_range.mp hk,rfl⟩
theorem QI{i:Int}(h:i.natAbs<=10 ^ 1000):Wd i:=Nat.lt_of_le_of_lt h (by decide +kernel)
theorem QJ{i j:Int}(h1:j≠0)(h2:Wd j):fdivW (.int i) (.int j)=some (.int (i.fdiv j)):=if_pos ⟨h1,h2⟩
theorem ZeT{i j:Int}(h1:j≠0):modW (.int i) (.int j)=some (.int (i.fmod j)):=if_pos h1
theorem ZeU{a b:Int}(h:0<b):0<=a.fmod b/\a.fmod b<b:=by
 rw [Int.fmod_eq_emod_of_nonneg a (by omega)];exact⟨Int.emod_nonneg a (by omega),Int.emod_lt_of_pos a h⟩
end DL
namespace DL
open PySem PySem.Spec L2
theorem UK{α:Env->Option (List D)}{δ:Env}{j:Int}(h:α δ=some [.int j])(h1 : -1000000<=j)(h2:j<=1000000):ZY α δ=some (ZR 0 1 j.toNat):=by
 unfold ZY;rw [h];dsimp only;rw [if_pos ⟨by omega,by omega⟩]
theorem Zgl{α:Env->Option (List D)}{δ:Env}{i j:Int}(h:α δ=some [.int i,.int j])(h1 : -1000000<=j)(h2:j<=1000000)(h3 : -1000000<=i)(h4:i<=1000000):ZY α δ=some (ZR i 1 (j-i).toNat):=by
 unfold ZY;rw [h];dsimp only;rw [if_pos ⟨by omega,by omega,by omega,by omega⟩]
theorem XG{i:Nat}{ε:Env->Option D}{δ:Env}{xs:List D}{d:D}(h1:Za i δ=some (.lst xs))(h2:ε δ=some d)(hl:xs.length<=1000000):Z3 i ε δ=some (.nx (δ.set i (some (.lst (xs++[d]))))):=by
 unfold Z3;rw [h1];dsimp only;rw [h2];dsimp only;rw [if_pos (by rw [PySem.sizeLine_eq];omega)]
theorem U8{n j:Nat}{x:D}(h:(ZR 0 1 n)[j]? = some x):j<n/\x = .int (j:Nat):=by
 have hj:j<n:=by have:=(List.getElem?_eq_some_iff.mp h).1;simpa [ZR]using this
 refine⟨hj,?_⟩;unfold ZR at h;rw [List.getElem?_map,List.getElem?_range hj]at h;have:=Option.some.inj h;rw [<-this];show D.int (0+(j:Int)*1)=_;rw [show(0+(j:Int)*1)=j by omega]
theorem Ul(lo c:Int)(n:Nat):(ZR lo c n).length=n:=by simp [ZR]
theorem XU{ι:Env->Option (List D)}{γ:D->Env->Option Env}{φ:Env->Option Out}{δ:Env}{xs:List D}{o:Out}(h1:ι δ=some xs)(h2:YI γ φ xs δ=some o):Z4 ι γ φ δ=some o:=by
 unfold Z4;rw [h1];exact h2
theorem V0{ι:Env->Option (List D)}{γ:D->Env->Option Env}{τ:Env->Option Bool}{ε:Env->Option D}{n:Nat}{js:List Nat}{δ δ0:Env}{xs ys:List D}(h1:ι δ=some xs)(hb:YT n δ js=δ0)(h2:Yn γ τ ε δ0 xs=some ys)(hl:ys.length<=1000000):Z5 ι γ τ ε n js δ=some (.lst ys):=by
 unfold Z5;rw [h1];dsimp only;rw [hb,h2];dsimp only;rw [if_pos (by rw [PySem.sizeLine_eq];omega)]
theorem UL{f:List Nat->List D->Option D}{a:Env->Option D}{α:Env->Option (List D)}{δ:Env}{s:List Nat}{ds:List D}(h1:a δ=some (.str s))(h2:α δ=some ds):eBM f a α δ=f s ds:=by
 unfold eBM;rw [h1,h2]
theorem Z0{f:List D->Option D}{α:Env->Option (List D)}{δ:Env}{ds:List D}(h:α δ=some ds):eCB f α δ=f ds:=by
 unfold eCB;rw [h]
theorem Yc{n:Nat}{f:Env->Option Out}{vs:List D}{δ:Env}{d:D}(h1:(vs.map some++List.replicate (n-vs.length) none)=δ)(h2:f δ=some (.rt d)):DL.run n f vs=some d:=by
 unfold DL.run;rw [h1,h2]
theorem nil_of{δ:Env}:eNil δ=some []:=rfl
theorem XV{t:List (String×Bool)}{a:Env->Option D}{δ:Env}{d:D}{b:Bool}(h1:a δ=some d)(h2:UH t d=some b):Z8 t a δ=some (.bl b):=by
 unfold Z8;rw [h1];dsimp only;rw [h2]
end DL
namespace DL
open PySem PySem.Spec L2
theorem ZdM{x:D}(hs:ZK x=false)(h:SeqAt.shaped (toP x)=true):eqD x x=some (.bl true):=by
 unfold eqD;rw [if_neg (by simp [hs]),h,if_pos (by rfl)];rw [SeqAt.eqv_refl _ (SeqAt.canLay_of_shaped h)]
theorem ZaF{x:D}(hs:ZK x=false)(h:SeqAt.shaped (toP x)=true):neD x x=some (.bl false):=by
 unfold neD;rw [ZdM hs h];rfl
def ZfJ(w:List Nat):Prop:=∀c∈w,c<1114112
theorem ZdN{w:List Nat}(h:ZfJ w):PyData.strOk (tx w)=true:=by
 unfold PyData.strOk tx;simpa [ZfJ]using h
theorem Zan:∀ws:List Int,PyData.canLayAll0 (YG (ws.map D.int))=true
 | []=>rfl
 |w::ws=>by rw [List.map_cons,YG,PyData.canLayAll0,Zan ws];rfl
theorem Zaz:∀ws:List Int,PyData.depthAll (YG (ws.map D.int))=0
 | []=>rfl
 |w::ws=>by rw [List.map_cons,YG,PyData.depthAll,Zaz ws];rfl
theorem Zbh(ws:List Int):SeqAt.shaped (toP (.lst (ws.map D.int)))=true:=by
 simp [SeqAt.shaped,toP,PyData.canLay0,PyData.depth,Zan,Zaz]
end DL
namespace DL
open PySem PySem.Spec L2
theorem add_int(i j:Int):addX (.int i) (.int j)=some (.int (i+j)):=rfl
theorem add_str{a b:List Nat}(h:a.length+b.length<=100000):addX (.str a) (.str b)=some (.str (a++b)):=by
 show(if a.length+b.length<=PySem.sizeLine then some (D.str (a++b))else none)=_;rw [if_pos (by rw [PySem.sizeLine_eq];omega)]
theorem ZeV{a b:List D}(h:a.length+b.length<=100000):addX (.lst a) (.lst b)=some (.lst (a++b)):=by
 show(if a.length+b.length<=PySem.sizeLine then some (D.lst (a++b))else none)=_;rw [if_pos (by rw [PySem.sizeLine_eq];omega)]
theorem Zdm{i j:Int}(h1 : -1000<=j)(h2:j<=1000):mulX (.int i) (.int j)=some (.int (i*j)):=if_pos (.inr (.inr ⟨by omega,by omega⟩))
theorem Yr{xs:List D}{a:Nat}{x:D}(h:xs[a]? = some x):ixD (.lst xs) (.int (a:Int))=some x:=UV h
theorem ix_tup{xs:List D}{a:Nat}{x:D}(h:xs[a]? = some x):ixD (.tup xs) (.int (a:Int))=some x:=UV h
theorem ix_str{cs:List Nat}{a:Nat}{c:Nat}(h:cs[a]? = some c)(hl:cs.length<=100000):ixD (.str cs) (.int (a:Int))=some (.str [c]):=ZeR (by rw [PySem.sizeLine_eq];omega) (UV h)
theorem Zgm{i:Int}(h:0<=i):∃a:Nat,i=(a:Int):=⟨i.toNat,(Int.toNat_of_nonneg h).symm⟩
theorem len_str{cs:List Nat}(h:cs.length<=100000):lenD [.str cs]=some (.int (cs.length:Int)):=if_pos (by rw [PySem.sizeLine_eq];omega)
theorem Um{xs:List D}:lenD [.lst xs]=some (.int (xs.length:Int)):=rfl
theorem ZcL{xs:List D}:lenD [.tup xs]=some (.int (xs.length:Int)):=rfl
theorem ZcM{c:String}{n:Nat}{m:List D->Option D}{α:Env->Option (List D)}{δ:Env}{ds:List D}(h:α δ=some ds)(hn:ds.length+1=n):XT c n m [] α δ=m (.obj c [] []::ds):=by
 unfold XT;rw [h];dsimp only;rw [List.append_nil,if_pos (by rw [List.length_cons];exact hn)]
end DL
namespace K49
open PySem PySem.Spec L2 DL
def cs_MARK_SIGNS:List Nat:=[97,98,99,100,101,102,103,104,105,106,107,108,109,110,111,112,113,114,115,116,117,118,119,120,121,122,48,49,50,51,52,53,54,55,56,57]
def cs_FIGURES:List Nat:=[48,49,50,51,52,53,54,55,56,57]
def Xr:List String:=["Table"]
def Xs:List String:=["Table"]
def Y0:List String:=["Table"]
def Y5:List String:=["Table"]
def Zem:List String:=[]
def Xu:List String:=["Table"]
def QK:List (String×Bool):=[("NoneType",false),("bool",false),("int",false),("str",false),("list",false),("tuple",false),("Table",true)]
def QL:List (String×Bool):=[("NoneType",false),("bool",true),("int",false),("str",false),("list",false),("tuple",false),("Table",false)]
def Zcg:List (String×Bool):=[("NoneType",false),("bool",true),("int",true),("str",false),("list",false),("tuple",false),("Table",false)]
def V1:List (String×Bool):=[("NoneType",false),("bool",false),("int",false),("str",true),("list",false),("tuple",false),("Table",false)]
def XW:List (String×Bool):=[("NoneType",false),("bool",false),("int",false),("str",false),("list",false),("tuple",true),("Table",false)]
noncomputable def f_QR:DL.Env->Option Out:=
 (Zh (sIf (xOr (xB (eOp (YL λi j=>decide (i<j)) (eCB lenD (Zb (Za 0) eNil)) (eC (.int 1)))) (xB (eOp (YL λi j=>decide (j<i)) (eCB lenD (Zb (Za 0) eNil)) (Za 1)))) (Zq (eC .non)) sNext)
 (Zh (sIf (ZW (xB (eCB (Uc λbs=>bs.all id) (Zb (Z5 (ZQ (Za 0)) (Zx 0) (λ_=>some true) (eOp (inD false) (Za 0) (eC (.str cs_FIGURES))) 1 []) eNil)))) (Zq (eC .non)) sNext)
 (Zh (sIf (Xc (xB (eOp (YL λi j=>decide (j<i)) (eCB lenD (Zb (Za 0) eNil)) (eC (.int 1)))) (xB (eOp eqD (eOp ixD (Za 0) (eC (.int 0))) (eC (.str [48]))))) (Zq (eC .non)) sNext)
 (Zq (eCB intD (Zb (Za 0) eNil))))))
noncomputable def Uo:List D->Option D:=run 2 f_QR
noncomputable def f_QJ:DL.Env->Option Out:=
 (Zh (YZ 0 Y5 "lead" (Za 1))
 (Zh (YZ 0 Xs "first" (Za 2))
 (Zh (YZ 0 Xr "ahead" (Za 3))
 (Zh (YZ 0 Y0 "homes" (eCB YS (Zb (Za 4) eNil)))
 (YZ 0 Xu "ways" (eCB YS (Zb (Z5 (ZQ (Za 5)) (Zx 0) (λ_=>some true) (eCB YS (Zb (Z5 (ZQ (Za 0)) (Zx 0) (λ_=>some true) (eCB YS (Zb (Za 0) eNil)) 1 []) eNil)) 1 []) eNil)))))))
noncomputable def UM:List D->Option D:=runI 6 f_QJ
noncomputable def f_QG:DL.Env->Option Out:=
 (Zq (eCB lenD (Zb (eOp ixD (Zw Xu "ways" (Za 0)) (eC (.int 0))) eNil)))
noncomputable def Zgz:List D->Option D:=run 1 f_QG
noncomputable def f_QA:DL.Env->Option Out:=
 (Zq (eCB lenD (Zb (eOp ixD (eOp ixD (eOp ixD (Zw Xu "ways" (Za 0)) (eC (.int 0))) (eC (.int 0))) (eC (.int 0))) eNil)))
noncomputable def ZgA:List D->Option D:=run 1 f_QA
noncomputable def f_QI:DL.Env->Option Out:=
 (Zq (eOp Zgy (ZU (Zb (Vf [(eC (.str [112,108,97,99,101,32])),(Xf Y3 (Za 0))]) eNil)) (Z5 (ZQ (Za 1)) (Xe 2 (Ym 0 (Ym 1 gsNil))) (λ_=>some true) (Vf [(eC (.str [119,97,121,32])),(Xf Y3 (Za 0)),(eC (.str [32])),(Xf Y3 (Za 1))]) 2 [])))
noncomputable def Up:List D->Option D:=U5 2 f_QI
noncomputable def Uq:MTab:=[("Table",1,ZgA)]
noncomputable def Ur:MTab:=[("Table",1,Zgz)]
noncomputable def f_QL:DL.Env->Option Out:=
 (Zh (Zp 1 (ZU (Zb (YU "signs" Ur (Za 0) eNil) (Zb (YU "block_length" Uq (Za 0) eNil) (Zb (Zw Xr "ahead" (Za 0)) (Zb (eCB lenD (Zb (Zw Y0 "homes" (Za 0)) eNil)) eNil))))))
 (Zh (Zp 2 (ZU (Zb (eOp addX (eC (.str [116,97,98,108,101,32])) (eBM joinD (eC (.str [32])) (Zb (Z5 (ZQ (Za 1)) (Zx 0) (λ_=>some true) (eCB strD (Zb (Za 0) eNil)) 1 []) eNil))) eNil)))
 (Zh (Z3 2 (eIf (xB (eOp eqD (Zw Y5 "lead" (Za 0)) (eC (.str [])))) (eC (.str [108,101,97,100])) (eOp addX (eC (.str [108,101,97,100,32])) (Zw Y5 "lead" (Za 0)))))
 (Zh (Z3 2 (eOp addX (eC (.str [102,105,114,115,116,32])) (eCB strD (Zb (Zw Xs "first" (Za 0)) eNil))))
 (Zh (Z4 (UJ (Zw Y0 "homes" (Za 0)) (Zw Xu "ways" (Za 0))) (Xe 2 (Ym 3 (Ym 4 gsNil))) (Ug 2 (Zm 2 Up [] (Zb (Za 3) (Zb (Za 4) eNil)))))
 (Zq (eBM joinD (eC (.str [10])) (Zb (Za 2) eNil))))))))
noncomputable def QM:List D->Option D:=run 5 f_QL
noncomputable def f_QD:DL.Env->Option Out:=
 (Zh (Zp 3 (eBM splitD (Za 0) (Zb (eC (.str [32])) eNil)))
 (Zh (sIf (xOr (xB (eOp neD (eOp ixD (Za 3) (eC (.int 0))) (Za 1))) (xB (eOp neD (eCB lenD (Zb (Za 3) eNil)) (eOp addX (Za 2) (eC (.int 1)))))) (Zq (eC .non)) sNext)
 (Zq (eSl (Za 3) (xP (eC (.int 1))) xNoP))))
noncomputable def Xh:List D->Option D:=run 4 f_QD
noncomputable def f_QX:DL.Env->Option Out:=
 (Zq (VP (eOp (YL λi j=>decide (j<i)) (eCB lenD (Zb (Za 0) eNil)) (eC (.int 0))) (eCB (Uc λbs=>bs.all id) (Zb (Z5 (ZQ (Za 0)) (Zx 0) (λ_=>some true) (eOp (inD false) (Za 0) (eC (.str cs_MARK_SIGNS))) 1 []) eNil))))
noncomputable def UN:List D->Option D:=run 1 f_QX
noncomputable def f_QP:DL.Env->Option Out:=
 (Zh (Zp 2 (Zm 2 Uo [] (Zb (Za 0) (Zb (eC (.int 6)) eNil))))
 (Zq (eIf (Xc (xB (XB (Za 2))) (xB (eOp (YL λi j=>decide (i<j)) (Za 2) (Za 1)))) (Za 2) (eC .non))))
noncomputable def U9:List D->Option D:=run 3 f_QP
noncomputable def f_QT:DL.Env->Option Out:=
 (Zh (Zp 1 (Zm 3 Xh [] (Zb (Za 0) (Zb (eC (.str [116,97,98,108,101])) (Zb (eC (.int 4)) eNil)))))
 (Zh (sIf (xB (YH (Za 1))) (Zq (eC .non)) sNext)
 (Zh (Zp 2 (Z5 (ZQ (Za 1)) (Zx 0) (λ_=>some true) (Zm 2 Uo [] (Zb (Za 0) (Zb (eC (.int 6)) eNil))) 1 []))
 (Zh (sIf (xOr (xB (eOp (inD false) (eC .non) (Za 2))) (xB (eOp (inD false) (eC (.int 0)) (YY (Zb (eOp ixD (Za 2) (eC (.int 0))) (Zb (eOp ixD (Za 2) (eC (.int 1))) (Zb (eOp ixD (Za 2) (eC (.int 3))) eNil))))))) (Zq (eC .non)) sNext)
 (Zq (Za 2))))))
noncomputable def QN:List D->Option D:=run 3 f_QT
noncomputable def f_QV:DL.Env->Option Out:=
 (Zh (sIf (xB (eOp eqD (Za 0) (eC (.str [108,101,97,100])))) (Zq (eC (.str []))) sNext)
 (Zh (Zp 1 (Zm 3 Xh [] (Zb (Za 0) (Zb (eC (.str [108,101,97,100])) (Zb (eC (.int 1)) eNil)))))
 (Zq (eIf (Xc (xB (XB (Za 1))) (xB (Zm 1 UN [] (Zb (eOp ixD (Za 1) (eC (.int 0))) eNil)))) (eOp ixD (Za 1) (eC (.int 0))) (eC .non)))))
noncomputable def QO:List D->Option D:=run 2 f_QV
noncomputable def f_QQ:DL.Env->Option Out:=
 (Zh (Zp 2 (Zm 3 Xh [] (Zb (Za 0) (Zb (eC (.str [102,105,114,115,116])) (Zb (eC (.int 1)) eNil)))))
 (Zq (eIf (xB (YH (Za 2))) (eC .non) (Zm 2 U9 [] (Zb (eOp ixD (Za 2) (eC (.int 0))) (Zb (Za 1) eNil))))))
noncomputable def QP:List D->Option D:=run 3 f_QQ
noncomputable def f_QU:DL.Env->Option Out:=
 (Zh (Zp 1 (Zm 3 Xh [] (Zb (Za 0) (Zb (eC (.str [112,108,97,99,101])) (Zb (eC (.int 1)) eNil)))))
 (Zq (eIf (xB (YH (Za 1))) (eC .non) (Zm 2 Uo [] (Zb (eOp ixD (Za 1) (eC (.int 0))) (Zb (eC (.int 6)) eNil))))))
noncomputable def QQ:List D->Option D:=run 2 f_QU
noncomputable def f_QY:DL.Env->Option Out:=
 (Zh (Zp 3 (Zm 3 Xh [] (Zb (Za 0) (Zb (eC (.str [119,97,121])) (Zb (eC (.int 2)) eNil)))))
 (Zh (sIf (xOr (xB (YH (Za 3))) (xOr (xB (eOp neD (eCB lenD (Zb (eOp ixD (Za 3) (eC (.int 0))) eNil)) (Za 1))) (ZW (xB (Zm 1 UN [] (Zb (eOp ixD (Za 3) (eC (.int 0))) eNil)))))) (Zq (eC .non)) sNext)
 (Zh (Zp 4 (Zm 2 U9 [] (Zb (eOp ixD (Za 3) (eC (.int 1))) (Zb (Za 2) eNil))))
 (Zq (eIf (xB (YH (Za 4))) (eC .non) (YY (Zb (eOp ixD (Za 3) (eC (.int 0))) (Zb (Za 4) eNil))))))))
noncomputable def QR:List D->Option D:=run 5 f_QY
noncomputable def f_QF:DL.Env->Option Out:=
 (Zq (eIf (xB (eOp (YL λi j=>decide (i<=j)) (Za 1) (eCB lenD (Zb (Za 0) eNil)))) (eOp ixD (Za 0) (eOp subD (Za 1) (eC (.int 1)))) (eC (.str []))))
noncomputable def XX:List D->Option D:=run 2 f_QF
noncomputable def f_QW:DL.Env->Option Out:=
 (Zh (sIf (xB (YH (Za 1))) sNever sNext)
 (Zq (Za 1)))
noncomputable def Xv:List D->Option D:=run 2 f_QW
noncomputable def f_QS:DL.Env->Option Out:=
 (Zh (Zp 3 (ZU eNil))
 (Zh (Z4 (ZY (Zb (Za 1) (Zb (eOp addX (Za 1) (eOp ixD (Za 2) (eC (.int 0)))) eNil))) (Zx 4) (Z3 3 (Zm 2 Xv [] (Zb (Za 4) (Zb (Zm 3 QR [] (Zb (Zm 2 XX [] (Zb (Za 0) (Zb (Za 4) eNil))) (Zb (eOp ixD (Za 2) (eC (.int 1))) (Zb (eOp ixD (Za 2) (eC (.int 3))) eNil)))) eNil)))))
 (Zq (Za 3))))
noncomputable def Qa:List D->Option D:=run 5 f_QS
noncomputable def f_QK:DL.Env->Option Out:=
 (Zh (Zp 1 (eBM splitD (Za 0) (Zb (eC (.str [10])) eNil)))
 (Zh (Zp 2 (Zm 2 Xv [] (Zb (eC (.int 1)) (Zb (Zm 1 QN [] (Zb (eOp ixD (Za 1) (eC (.int 0))) eNil)) eNil))))
 (Zh (Zp 3 (Zm 2 Xv [] (Zb (eC (.int 2)) (Zb (Zm 1 QO [] (Zb (Zm 2 XX [] (Zb (Za 1) (Zb (eC (.int 2)) eNil))) eNil)) eNil))))
 (Zh (Zp 4 (Zm 2 Xv [] (Zb (eC (.int 3)) (Zb (Zm 2 QP [] (Zb (Zm 2 XX [] (Zb (Za 1) (Zb (eC (.int 3)) eNil))) (Zb (eOp ixD (Za 2) (eC (.int 3))) eNil))) eNil))))
 (Zh (Zp 5 (ZU eNil))
 (Zh (Zp 6 (ZU eNil))
 (Zh (Zp 7 (eC (.int 4)))
 (Zh (Z4 (ZY (Zb (eOp ixD (Za 2) (eC (.int 3))) eNil)) (Zx 8) (Zh (Z3 5 (Zm 2 Xv [] (Zb (Za 7) (Zb (Zm 1 QQ [] (Zb (Zm 2 XX [] (Zb (Za 1) (Zb (Za 7) eNil))) eNil)) eNil))))
 (Zh (Z3 6 (Zm 3 Qa [] (Zb (Za 1) (Zb (eOp addX (Za 7) (eC (.int 1))) (Zb (Za 2) eNil)))))
 (Zp 7 (eOp addX (eOp addX (Za 7) (eC (.int 1))) (eOp ixD (Za 2) (eC (.int 0))))))))
 (Zh (sIf (xB (eOp (YL λi j=>decide (j<=i)) (eCB lenD (Zb (Za 1) eNil)) (Za 7))) sNever sNext)
 (Zq (XT "Table" 6 UM [] (Zb (Za 3) (Zb (Za 4) (Zb (eOp ixD (Za 2) (eC (.int 2))) (Zb (Za 5) (Zb (Za 6) eNil))))))))))))))))
noncomputable def QS:List D->Option D:=run 9 f_QK
noncomputable def f_QE:DL.Env->Option Out:=
 (Zh (sIf (xB (eOp (YL λi j=>decide (i<j)) (Za 1) (eCB lenD (Zb (Za 0) eNil)))) (Zq (eOp ixD (Za 0) (Za 1))) sNext)
 (Zq (eC (.int 0))))
noncomputable def Z6:List D->Option D:=run 2 f_QE
noncomputable def f_QC:DL.Env->Option Out:=
 (Zq (VP (Z8 Zcg (Za 0)) (UC (Z8 QL (Za 0)))))
noncomputable def V2:List D->Option D:=run 1 f_QC
noncomputable def f_QO:DL.Env->Option Out:=
 (Zh (Zp 5 (ZU (Zb (eCB lenD (Zb (eOp ixD (Za 4) (eC (.int 0))) eNil)) (Zb (eCB lenD (Zb (eOp ixD (eOp ixD (eOp ixD (Za 4) (eC (.int 0))) (eC (.int 0))) (eC (.int 0))) eNil)) (Zb (Za 2) (Zb (eCB lenD (Zb (Za 3) eNil)) eNil))))))
 (Zh (Zp 6 (ZU (Zb (eOp addX (eC (.str [116,97,98,108,101,32])) (eBM joinD (eC (.str [32])) (Zb (Z5 (ZQ (Za 5)) (Zx 0) (λ_=>some true) (eCB strD (Zb (Za 0) eNil)) 1 []) eNil))) eNil)))
 (Zh (Z3 6 (eBM stripD (eOp addX (eC (.str [108,101,97,100,32])) (Za 0)) eNil))
 (Zh (Z3 6 (eOp addX (eC (.str [102,105,114,115,116,32])) (eCB strD (Zb (Za 1) eNil))))
 (Zh (Z4 (ZY (Zb (eCB lenD (Zb (Za 3) eNil)) eNil)) (Zx 7) (Zh (Z3 6 (eOp addX (eC (.str [112,108,97,99,101,32])) (eCB strD (Zb (eOp ixD (Za 3) (Za 7)) eNil))))
 (Z4 (ZQ (eOp ixD (Za 4) (Za 7))) (Xe 2 (Ym 8 (Ym 9 gsNil))) (Z3 6 (eOp addX (eOp addX (eOp addX (eC (.str [119,97,121,32])) (Za 8)) (eC (.str [32]))) (eCB strD (Zb (Za 9) eNil)))))))
 (Zq (eBM joinD (eC (.str [10])) (Zb (Za 6) eNil))))))))
noncomputable def QT:List D->Option D:=run 10 f_QO
noncomputable def f_QM:DL.Env->Option Out:=
 (Zh (Zp 2 (eC (.str [97,98,99,100,101,102,103,104,105,106,107,108,109,110,111,112,113,114,115,116,117,118,119,120,121,122,48,49,50,51,52,53,54,55,56,57])))
 (Zh (Zp 3 (eC (.str [])))
 (Zh (Z4 (ZY (Zb (Za 1) eNil)) (Zx 4) (Zh (Zp 3 (eOp addX (Za 3) (eOp ixD (Za 2) (eOp modW (Za 0) (eCB lenD (Zb (Za 2) eNil))))))
 (Zp 0 (eOp fdivW (Za 0) (eCB lenD (Zb (Za 2) eNil))))))
 (Zq (Za 3)))))
noncomputable def UO:List D->Option D:=run 5 f_QM
noncomputable def f_QH:DL.Env->Option Out:=
 (Zq (eOp modW (eOp fdivW (Za 0) (eC (.int 6))) (eOp ixD (ZU (Zb (eC (.int 10)) (Zb (eC (.int 100)) (Zb (eC (.int 1000)) (Zb (eC (.int 10000)) (Zb (eC (.int 100000)) (Zb (eC (.int 1000000)) eNil))))))) (eOp modW (Za 0) (eC (.int 6))))))
noncomputable def UP:List D->Option D:=run 1 f_QH
noncomputable def f_QB:DL.Env->Option Out:=
 (Zh (sIf (xOr (ZW (xB (Z8 XW (Za 0)))) (xB (eOp neD (eCB lenD (Zb (Za 0) eNil)) (eCB lenD (Zb (Za 1) eNil))))) (Zq (eC (.bl false))) sNext)
 (Zh (Z4 (ZY (Zb (eCB lenD (Zb (Za 1) eNil)) eNil)) (Zx 2) (Zh (sIf (xOr (ZW (xB (Z8 XW (eOp ixD (Za 0) (Za 2))))) (xB (eOp neD (eOp ixD (Za 0) (Za 2)) (eCB YS (Zb (eOp ixD (Za 1) (Za 2)) eNil))))) (Zq (eC (.bl false))) sNext)
 (Z4 (ZQ (eOp ixD (Za 0) (Za 2))) (Zx 3) (sIf (xOr (ZW (xB (Z8 XW (Za 3)))) (xOr (ZW (xB (Z8 V1 (eOp ixD (Za 3) (eC (.int 0)))))) (ZW (xB (Zm 1 V2 [] (Zb (eOp ixD (Za 3) (eC (.int 1))) eNil)))))) (Zq (eC (.bl false))) sNext))))
 (Zq (eC (.bl true)))))
noncomputable def QU:List D->Option D:=run 4 f_QB
noncomputable def f_QN:DL.Env->Option Out:=
 (Zh (sIf (xOr (ZW (xB (Z8 QK (Za 0)))) (xOr (ZW (xB (Z8 V1 (Zw Y5 "lead" (Za 0))))) (xB (eOp neD (Zw Y5 "lead" (Za 0)) (Za 1))))) (Zq (eC (.bl false))) sNext)
 (Zh (sIf (xOr (ZW (xB (Zm 1 V2 [] (Zb (Zw Xs "first" (Za 0)) eNil)))) (xOr (ZW (xB (Zm 1 V2 [] (Zb (Zw Xr "ahead" (Za 0)) eNil)))) (ZW (xB (Z8 XW (Zw Y0 "homes" (Za 0))))))) (Zq (eC (.bl false))) sNext)
 (Zh (sIf (xOr (xB (eOp neD (ZU (Zb (Zw Xs "first" (Za 0)) (Zb (Zw Xr "ahead" (Za 0)) eNil))) (ZU (Zb (Za 2) (Zb (Za 3) eNil))))) (xB (eOp neD (eCB XF (Zb (Zw Y0 "homes" (Za 0)) eNil)) (Za 4)))) (Zq (eC (.bl false))) sNext)
 (Zh (sIf (xOr (xB (eOp neD (YU "signs" Ur (Za 0) eNil) (eCB lenD (Zb (eOp ixD (Za 5) (eC (.int 0))) eNil)))) (xB (eOp neD (YU "block_length" Uq (Za 0) eNil) (eCB lenD (Zb (eOp ixD (eOp ixD (eOp ixD (Za 5) (eC (.int 0))) (eC (.int 0))) (eC (.int 0))) eNil))))) (Zq (eC (.bl false))) sNext)
 (Zq (Zm 2 QU [] (Zb (Zw Xu "ways" (Za 0)) (Zb (Za 5) eNil))))))))
noncomputable def QV:List D->Option D:=run 6 f_QN
noncomputable def f_QZ:DL.Env->Option Out:=
 (Zh (Zp 1 (eOp addX (eC (.int 1)) (eOp modW (Zm 2 Z6 [] (Zb (Za 0) (Zb (eC (.int 0)) eNil))) (eC (.int 6)))))
 (Zh (Zp 2 (eOp addX (eC (.int 1)) (eOp modW (Zm 2 Z6 [] (Zb (Za 0) (Zb (eC (.int 1)) eNil))) (eC (.int 4)))))
 (Zh (Zp 3 (eOp addX (eC (.int 1)) (eOp modW (Zm 2 Z6 [] (Zb (Za 0) (Zb (eC (.int 2)) eNil))) (eC (.int 4)))))
 (Zh (Zp 4 (Zm 2 UO [] (Zb (eOp fdivW (Zm 2 Z6 [] (Zb (Za 0) (Zb (eC (.int 3)) eNil))) (eC (.int 7))) (Zb (eOp modW (Zm 2 Z6 [] (Zb (Za 0) (Zb (eC (.int 3)) eNil))) (eC (.int 7))) eNil))))
 (Zh (Zp 5 (eOp modW (Zm 2 Z6 [] (Zb (Za 0) (Zb (eC (.int 4)) eNil))) (Za 1)))
 (Zh (Zp 6 (Zm 1 UP [] (Zb (Zm 2 Z6 [] (Zb (Za 0) (Zb (eC (.int 5)) eNil))) eNil)))
 (Zh (Zp 7 (Z5 (ZY (Zb (Za 1) eNil)) (Zx 0) (λ_=>some true) (Zm 1 UP [] (Zb (Zm 2 Z6 [] (Zb (Za 1) (Zb (eOp addX (eC (.int 6)) (Za 0)) eNil))) eNil)) 1 [0]))
 (Zh (Zp 8 (ZU eNil))
 (Zh (Z4 (ZY (Zb (Za 1) eNil)) (Zx 9) (Zh (Zp 10 (ZU eNil))
 (Zh (Z4 (ZY (Zb (Za 2) eNil)) (Zx 11) (Zh (Zp 12 (Zm 2 Z6 [] (Zb (Za 0) (Zb (eOp addX (eOp addX (eC (.int 12)) (eOp mulX (Za 9) (Za 2))) (Za 11)) eNil))))
 (Z3 10 (YY (Zb (Zm 2 UO [] (Zb (eOp fdivW (Za 12) (Za 1)) (Zb (Za 3) eNil))) (Zb (eOp modW (Za 12) (Za 1)) eNil))))))
 (Z3 8 (Za 10)))))
 (Uh 13 14 (eCB XF (Zb (Za 7) eNil)) (Z5 (ZQ (Za 8)) (Zx 0) (λ_=>some true) (eCB XF (Zb (Za 0) eNil)) 1 []) (XT "Table" 6 UM [] (Zb (Za 4) (Zb (Za 5) (Zb (Za 6) (Zb (eOp ixD (Za 13) (eC (.int 0))) (Zb (eOp ixD (Za 13) (eC (.int 1))) eNil)))))) (eOp addX (eC (.int 1)) (eOp ixD (Za 7) (eC (.int 0)))) (YY (Zb (eOp mulX (eC (.str [98])) (Za 3)) (Zb (eOp subD (Za 1) (eC (.int 1))) eNil)))
 (Zh (Zp 15 (Zm 1 QM [] (Zb (Za 14) eNil)))
 (Zh (sIf (xOr (ZW (xB (Z8 V1 (Za 15)))) (xB (eOp neD (Za 15) (Zm 5 QT [] (Zb (Za 4) (Zb (Za 5) (Zb (Za 6) (Zb (Za 7) (Zb (Za 8) eNil))))))))) (Zq (eC (.bl false))) sNext)
 (Zq (Zm 6 QV [] (Zb (Zm 1 QS [] (Zb (Za 15) eNil)) (Zb (Za 4) (Zb (Za 5) (Zb (Za 6) (Zb (Za 7) (Zb (Za 8) eNil))))))))))))))))))))
noncomputable def QW:List D->Option D:=run 16 f_QZ
end K49
namespace K49
open PySem PySem.Spec L2 DL
def top(i:Nat):Stmt:=PySem.Challenge.pw_grooveway_k49_tables_there_and_back.main.body.getD i (.Pass ⟨0,0,0,0⟩)
abbrev XY:Stmt:=top 6
abbrev XZ:Stmt:=Jw (top 8) 0
abbrev Vg:Stmt:=Jw (top 8) 1
abbrev Vh:Stmt:=Jw (top 8) 2
abbrev X0:Stmt:=top 10
abbrev X1:Stmt:=top 11
abbrev Vi:Stmt:=top 12
abbrev X2:Stmt:=top 13
abbrev Vj:Stmt:=top 14
abbrev X3:Stmt:=top 15
abbrev Vk:Stmt:=top 16
abbrev Vl:Stmt:=top 17
abbrev Vm:Stmt:=top 18
abbrev Vn:Stmt:=top 19
abbrev Vo:Stmt:=top 20
abbrev Vp:Stmt:=top 21
abbrev Vq:Stmt:=top 22
abbrev Vr:Stmt:=top 23
abbrev Vs:Stmt:=top 25
abbrev Vt:Stmt:=top 26
abbrev X4:Stmt:=top 27
abbrev Vu:Stmt:=top 28
abbrev Vv:Stmt:=top 29
abbrev Vw:Stmt:=top 30
abbrev Vx:Stmt:=top 31
abbrev Y6:Stmt:=top 32
theorem ZgR:FnScope ["word", "figures"] ["word", "figures"] (defScope XY):=⟨rfl,rfl,rfl,by decide +kernel,rfl,by decide +kernel,by decide +kernel⟩
theorem ZgS:FnScope ["self", "lead", "first", "ahead", "homes", "ways"] ["self", "lead", "first", "ahead", "homes", "ways"] (defScope XZ):=⟨rfl,rfl,rfl,by decide +kernel,rfl,by decide +kernel,by decide +kernel⟩
theorem ZgT:FnScope ["self"] ["self"] (defScope Vg):=⟨rfl,rfl,rfl,by decide +kernel,rfl,by decide +kernel,by decide +kernel⟩
theorem ZgU:FnScope ["self"] ["self"] (defScope Vh):=⟨rfl,rfl,rfl,by decide +kernel,rfl,by decide +kernel,by decide +kernel⟩
theorem ZgV:FnScope ["home", "ways"] ["home", "ways"] (defScope X0):=⟨rfl,rfl,rfl,by decide +kernel,rfl,by decide +kernel,by decide +kernel⟩
theorem ZgW:FnScope ["table", "numbers", "rows", "home", "ways"] ["table"] (defScope X1):=⟨rfl,rfl,rfl,by decide +kernel,rfl,by decide +kernel,by decide +kernel⟩
theorem ZgX:FnScope ["row", "name", "many", "words"] ["row", "name", "many"] (defScope Vi):=⟨rfl,rfl,rfl,by decide +kernel,rfl,by decide +kernel,by decide +kernel⟩
theorem ZgY:FnScope ["word"] ["word"] (defScope X2):=⟨rfl,rfl,rfl,by decide +kernel,rfl,by decide +kernel,by decide +kernel⟩
theorem ZgZ:FnScope ["word", "places", "number"] ["word", "places"] (defScope Vj):=⟨rfl,rfl,rfl,by decide +kernel,rfl,by decide +kernel,by decide +kernel⟩
theorem Zg0:FnScope ["row", "words", "numbers"] ["row"] (defScope X3):=⟨rfl,rfl,rfl,by decide +kernel,rfl,by decide +kernel,by decide +kernel⟩
theorem Zg1:FnScope ["row", "words"] ["row"] (defScope Vk):=⟨rfl,rfl,rfl,by decide +kernel,rfl,by decide +kernel,by decide +kernel⟩
theorem Zg2:FnScope ["row", "places", "words"] ["row", "places"] (defScope Vl):=⟨rfl,rfl,rfl,by decide +kernel,rfl,by decide +kernel,by decide +kernel⟩
theorem Zg3:FnScope ["row", "words"] ["row"] (defScope Vm):=⟨rfl,rfl,rfl,by decide +kernel,rfl,by decide +kernel,by decide +kernel⟩
theorem Zg4:FnScope ["row", "length", "places", "words", "place"] ["row", "length", "places"] (defScope Vn):=⟨rfl,rfl,rfl,by decide +kernel,rfl,by decide +kernel,by decide +kernel⟩
theorem Zg5:FnScope ["rows", "number"] ["rows", "number"] (defScope Vo):=⟨rfl,rfl,rfl,by decide +kernel,rfl,by decide +kernel,by decide +kernel⟩
theorem Zg6:FnScope ["number", "said"] ["number", "said"] (defScope Vp):=⟨rfl,rfl,rfl,by decide +kernel,rfl,by decide +kernel,by decide +kernel⟩
theorem Zg7:FnScope ["rows", "number", "head", "ways", "place"] ["rows", "number", "head"] (defScope Vq):=⟨rfl,rfl,rfl,by decide +kernel,rfl,by decide +kernel,by decide +kernel⟩
theorem Zg8:FnScope ["text", "rows", "head", "lead", "first", "homes", "ways", "number", "place"] ["text"] (defScope Vr):=⟨rfl,rfl,rfl,by decide +kernel,rfl,by decide +kernel,by decide +kernel⟩
theorem Zg9:FnScope ["script", "k"] ["script", "k"] (defScope Vs):=⟨rfl,rfl,rfl,by decide +kernel,rfl,by decide +kernel,by decide +kernel⟩
theorem Zha:FnScope ["found"] ["found"] (defScope Vt):=⟨rfl,rfl,rfl,by decide +kernel,rfl,by decide +kernel,by decide +kernel⟩
theorem Zhb:FnScope ["lead", "first", "ahead", "homes", "ways", "head", "rows", "place", "block", "there"] ["lead", "first", "ahead", "homes", "ways"] (defScope X4):=⟨rfl,rfl,rfl,by decide +kernel,rfl,by decide +kernel,by decide +kernel⟩
theorem Zhc:FnScope ["cell", "many", "signs", "row", "k"] ["cell", "many"] (defScope Vu):=⟨rfl,rfl,rfl,by decide +kernel,rfl,by decide +kernel,by decide +kernel⟩
theorem Zhd:FnScope ["cell"] ["cell"] (defScope Vv):=⟨rfl,rfl,rfl,by decide +kernel,rfl,by decide +kernel,by decide +kernel⟩
theorem Zhe:FnScope ["found", "ways", "k", "pair"] ["found", "ways"] (defScope Vw):=⟨rfl,rfl,rfl,by decide +kernel,rfl,by decide +kernel,by decide +kernel⟩
theorem Zhf:FnScope ["found", "lead", "first", "ahead", "homes", "ways"] ["found", "lead", "first", "ahead", "homes", "ways"] (defScope Vx):=⟨rfl,rfl,rfl,by decide +kernel,rfl,by decide +kernel,by decide +kernel⟩
theorem Zhg:FnScope ["script", "many", "n", "q", "lead", "first", "ahead", "homes", "ways", "place", "row", "sign", "cell", "handed", "table", "text"] ["script"] (defScope Y6):=⟨rfl,rfl,rfl,by decide +kernel,rfl,by decide +kernel,by decide +kernel⟩
structure Adr where
 a_QR:Addr
 d_QR:FuncData
 a_QJ:Addr
 d_QJ:FuncData
 a_QG:Addr
 d_QG:FuncData
 a_QA:Addr
 d_QA:FuncData
 a_QI:Addr
 d_QI:FuncData
 a_QL:Addr
 d_QL:FuncData
 a_QD:Addr
 d_QD:FuncData
 a_QX:Addr
 d_QX:FuncData
 a_QP:Addr
 d_QP:FuncData
 a_QT:Addr
 d_QT:FuncData
 a_QV:Addr
 d_QV:FuncData
 a_QQ:Addr
 d_QQ:FuncData
 a_QU:Addr
 d_QU:FuncData
 a_QY:Addr
 d_QY:FuncData
 a_QF:Addr
 d_QF:FuncData
 a_QW:Addr
 d_QW:FuncData
 a_QS:Addr
 d_QS:FuncData
 a_QK:Addr
 d_QK:FuncData
 a_QE:Addr
 d_QE:FuncData
 a_QC:Addr
 d_QC:FuncData
 a_QO:Addr
 d_QO:FuncData
 a_QM:Addr
 d_QM:FuncData
 a_QH:Addr
 d_QH:FuncData
 a_QB:Addr
 d_QB:FuncData
 a_QN:Addr
 d_QN:FuncData
 a_QZ:Addr
 d_QZ:FuncData
 c_Table:Addr
 u_MARK_SIGNS:Value
 u_FIGURES:Value
def Adr.c(t:Adr):String->Addr:=λc=>if c = "Table" then t.c_Table else 0
structure Txt(K:PySem.W.Frag)(mg:Str->Option Value)(t:Adr):Prop where
 f_QR:FunX K "whole_in" "whole_in" XY t.a_QR t.d_QR
 b_QR:Binds K t.d_QR ["word", "figures"] []
 g_QR:mg "whole_in" = some (.ref t.a_QR)
 k_QR:keepIn K (.ref t.a_QR)=true
 f_QJ:FunX K "__init__" "Table.__init__" XZ t.a_QJ t.d_QJ
 b_QJ:Binds K t.d_QJ ["self", "lead", "first", "ahead", "homes", "ways"] []
 k_QJ:keepIn K (.ref t.a_QJ)=true
 f_QG:FunX K "signs" "Table.signs" Vg t.a_QG t.d_QG
 b_QG:Binds K t.d_QG ["self"] []
 k_QG:keepIn K (.ref t.a_QG)=true
 f_QA:FunX K "block_length" "Table.block_length" Vh t.a_QA t.d_QA
 b_QA:Binds K t.d_QA ["self"] []
 k_QA:keepIn K (.ref t.a_QA)=true
 f_QI:FunX K "place_rows" "place_rows" X0 t.a_QI t.d_QI
 b_QI:Binds K t.d_QI ["home", "ways"] []
 g_QI:mg "place_rows" = some (.ref t.a_QI)
 k_QI:keepIn K (.ref t.a_QI)=true
 f_QL:FunX K "table_text" "table_text" X1 t.a_QL t.d_QL
 b_QL:Binds K t.d_QL ["table"] []
 g_QL:mg "table_text" = some (.ref t.a_QL)
 k_QL:keepIn K (.ref t.a_QL)=true
 f_QD:FunX K "words_behind" "words_behind" Vi t.a_QD t.d_QD
 b_QD:Binds K t.d_QD ["row", "name", "many"] []
 g_QD:mg "words_behind" = some (.ref t.a_QD)
 k_QD:keepIn K (.ref t.a_QD)=true
 f_QX:FunX K "is_row" "is_row" X2 t.a_QX t.d_QX
 b_QX:Binds K t.d_QX ["word"] []
 g_QX:mg "is_row" = some (.ref t.a_QX)
 k_QX:keepIn K (.ref t.a_QX)=true
 f_QP:FunX K "place_in" "place_in" Vj t.a_QP t.d_QP
 b_QP:Binds K t.d_QP ["word", "places"] []
 g_QP:mg "place_in" = some (.ref t.a_QP)
 k_QP:keepIn K (.ref t.a_QP)=true
 f_QT:FunX K "head_in" "head_in" X3 t.a_QT t.d_QT
 b_QT:Binds K t.d_QT ["row"] []
 g_QT:mg "head_in" = some (.ref t.a_QT)
 k_QT:keepIn K (.ref t.a_QT)=true
 f_QV:FunX K "lead_in" "lead_in" Vk t.a_QV t.d_QV
 b_QV:Binds K t.d_QV ["row"] []
 g_QV:mg "lead_in" = some (.ref t.a_QV)
 k_QV:keepIn K (.ref t.a_QV)=true
 f_QQ:FunX K "first_in" "first_in" Vl t.a_QQ t.d_QQ
 b_QQ:Binds K t.d_QQ ["row", "places"] []
 g_QQ:mg "first_in" = some (.ref t.a_QQ)
 k_QQ:keepIn K (.ref t.a_QQ)=true
 f_QU:FunX K "home_in" "home_in" Vm t.a_QU t.d_QU
 b_QU:Binds K t.d_QU ["row"] []
 g_QU:mg "home_in" = some (.ref t.a_QU)
 k_QU:keepIn K (.ref t.a_QU)=true
 f_QY:FunX K "way_in" "way_in" Vn t.a_QY t.d_QY
 b_QY:Binds K t.d_QY ["row", "length", "places"] []
 g_QY:mg "way_in" = some (.ref t.a_QY)
 k_QY:keepIn K (.ref t.a_QY)=true
 f_QF:FunX K "row_numbered" "row_numbered" Vo t.a_QF t.d_QF
 b_QF:Binds K t.d_QF ["rows", "number"] []
 g_QF:mg "row_numbered" = some (.ref t.a_QF)
 k_QF:keepIn K (.ref t.a_QF)=true
 f_QW:FunX K "stands" "stands" Vp t.a_QW t.d_QW
 b_QW:Binds K t.d_QW ["number", "said"] []
 g_QW:mg "stands" = some (.ref t.a_QW)
 k_QW:keepIn K (.ref t.a_QW)=true
 f_QS:FunX K "ways_in" "ways_in" Vq t.a_QS t.d_QS
 b_QS:Binds K t.d_QS ["rows", "number", "head"] []
 g_QS:mg "ways_in" = some (.ref t.a_QS)
 k_QS:keepIn K (.ref t.a_QS)=true
 f_QK:FunX K "read_table" "read_table" Vr t.a_QK t.d_QK
 b_QK:Binds K t.d_QK ["text"] []
 g_QK:mg "read_table" = some (.ref t.a_QK)
 k_QK:keepIn K (.ref t.a_QK)=true
 f_QE:FunX K "_law_cell_at" "_law_cell_at" Vs t.a_QE t.d_QE
 b_QE:Binds K t.d_QE ["script", "k"] []
 g_QE:mg "_law_cell_at" = some (.ref t.a_QE)
 k_QE:keepIn K (.ref t.a_QE)=true
 f_QC:FunX K "_law_is_whole" "_law_is_whole" Vt t.a_QC t.d_QC
 b_QC:Binds K t.d_QC ["found"] []
 g_QC:mg "_law_is_whole" = some (.ref t.a_QC)
 k_QC:keepIn K (.ref t.a_QC)=true
 f_QO:FunX K "_law_text" "_law_text" X4 t.a_QO t.d_QO
 b_QO:Binds K t.d_QO ["lead", "first", "ahead", "homes", "ways"] []
 g_QO:mg "_law_text" = some (.ref t.a_QO)
 k_QO:keepIn K (.ref t.a_QO)=true
 f_QM:FunX K "_law_signs" "_law_signs" Vu t.a_QM t.d_QM
 b_QM:Binds K t.d_QM ["cell", "many"] []
 g_QM:mg "_law_signs" = some (.ref t.a_QM)
 k_QM:keepIn K (.ref t.a_QM)=true
 f_QH:FunX K "_law_number" "_law_number" Vv t.a_QH t.d_QH
 b_QH:Binds K t.d_QH ["cell"] []
 g_QH:mg "_law_number" = some (.ref t.a_QH)
 k_QH:keepIn K (.ref t.a_QH)=true
 f_QB:FunX K "_law_ways_like" "_law_ways_like" Vw t.a_QB t.d_QB
 b_QB:Binds K t.d_QB ["found", "ways"] []
 g_QB:mg "_law_ways_like" = some (.ref t.a_QB)
 k_QB:keepIn K (.ref t.a_QB)=true
 f_QN:FunX K "_law_like" "_law_like" Vx t.a_QN t.d_QN
 b_QN:Binds K t.d_QN ["found", "lead", "first", "ahead", "homes", "ways"] []
 g_QN:mg "_law_like" = some (.ref t.a_QN)
 k_QN:keepIn K (.ref t.a_QN)=true
 f_QZ:FunX K "law" "law" Y6 t.a_QZ t.d_QZ
 b_QZ:Binds K t.d_QZ ["script"] []
 g_QZ:mg "law" = some (.ref t.a_QZ)
 k_QZ:keepIn K (.ref t.a_QZ)=true
 n_ValueError:mg "ValueError" = none
 n_all:mg "all" = none
 n_bool:mg "bool" = none
 n_int:mg "int" = none
 n_isinstance:mg "isinstance" = none
 n_len:mg "len" = none
 n_list:mg "list" = none
 n_range:mg "range" = none
 n_str:mg "str" = none
 n_tuple:mg "tuple" = none
 n_zip:mg "zip" = none
 g_MARK_SIGNS:mg "MARK_SIGNS" = some t.u_MARK_SIGNS
 r_MARK_SIGNS:RelV (S cs_MARK_SIGNS) t.u_MARK_SIGNS
 g_FIGURES:mg "FIGURES" = some t.u_FIGURES
 r_FIGURES:RelV (S cs_FIGURES) t.u_FIGURES
 g_Table:mg "Table" = some (.ref t.c_Table)
 cl_Table:Cls K t.c_Table
 ci_Table:ClsI K t.c_Table
 mk_Table:Mk K t.c_Table t.a_QJ
 fl_ahead:VW K ⟨t.c,K⟩ Xr "ahead"
 fl_first:VW K ⟨t.c,K⟩ Xs "first"
 fl_homes:VW K ⟨t.c,K⟩ Y0 "homes"
 fl_lead:VW K ⟨t.c,K⟩ Y5 "lead"
 fl_row:VW K ⟨t.c,K⟩ Zem "row"
 fl_ways:VW K ⟨t.c,K⟩ Xu "ways"
 me_Table_block_length:Meth K t.c_Table (Str.ofString "block_length") t.a_QA
 me_Table_signs:Meth K t.c_Table (Str.ofString "signs") t.a_QG
 isi_Table:IsiOk K ⟨t.c,K⟩ (.ref t.c_Table) QK
 isi_bool:IsiOk K ⟨t.c,K⟩ (.type "bool") QL
 isi_int:IsiOk K ⟨t.c,K⟩ (.type "int") Zcg
 isi_str:IsiOk K ⟨t.c,K⟩ (.type "str") V1
 isi_tuple:IsiOk K ⟨t.c,K⟩ (.type "tuple") XW
end K49
namespace K49
open PySem PySem.W L2 HT
def kP:Params->PySem.W.Frag:=λP=>
 (nat_lit 2,dO .none [] 0) ::
 (nat_lit 3,dO (.type "dict") [de P "__name__" 165 (.str "law_grooveway_k49_tables_there_and_back" 414),de P "__doc__" 166 .none,de P "__package__" 167 .none,de P "__loader__" 168 (.builtin "__main__.__loader__#opaque"),de P "__spec__" 169 .none,de P "__annotations__" 170 (.ref 6),de P "__builtins__" 171 (.ref 4),de P "__file__" 173 (.str "/claim/cut.py" 172),de P "__cached__" 174 .none,de P "GrooveError" 206 (.ref 24),de P "BadTable" 231 (.ref 44),de P "MARK_SIGNS" 233 (.str "abcdefghijklmnopqrstuvwxyz0123456789" 232),de P "FIGURES" 237 (.str "0123456789" 236),de P "whole_in" 243 (.ref 51),de P "Table" 290 (.ref 80),de P "place_rows" 298 (.ref 89),de P "table_text" 304 (.ref 94),de P "words_behind" 314 (.ref 101),de P "is_row" 320 (.ref 106),de P "place_in" 329 (.ref 113),de P "head_in" 335 (.ref 118),de P "lead_in" 343 (.ref 125),de P "first_in" 352 (.ref 132),de P "home_in" 360 (.ref 139),de P "way_in" 371 (.ref 146),de P "row_numbered" 379 (.ref 153),de P "stands" 387 (.ref 160),de P "ways_in" 398 (.ref 167),de P "read_table" 413 (.ref 174),de P "_law_cell_at" 423 (.ref 181),de P "_law_is_whole" 430 (.ref 188),de P "_law_text" 436 (.ref 193),de P "_law_signs" 447 (.ref 200),de P "_law_number" 454 (.ref 207),de P "_law_ways_like" 464 (.ref 214),de P "_law_like" 476 (.ref 221),de P "law" 482 (.ref 226)] 37) ::
 (nat_lit 23,dO (.type "dict") [de P "__module__" 196 (.str "grooveway.errors" 187),de P "__firstlineno__" 200 (.int 2 199),de P "__static_attributes__" 201 (.ref 22),de P "__weakref__" 203 (.ref 25),de P "__doc__" 204 .none] 3) ::
 (nat_lit 24,⟨(.type "type"),none,.cls ⟨"GrooveError",[(.type "ValueError")],[(.ref 24),(.type "ValueError"),(.type "Exception"),(.type "BaseException"),(.type "object")],23, "GrooveError",true,[],[(.ref 44)],false,none,false⟩,#[some (.ref 15),none,some (.str "GrooveError" 189),some (.str "GrooveError" 197),some (.builtin "ValueError.__new__"),some (.bool true)]⟩) ::
 (nat_lit 25,⟨(.type "getset_descriptor"),none,.fields #[(.str "__weakref__" 202),(.ref 24),(.builtin "ExceptionGroup.__weakref__"),.none],#[]⟩) ::
 (nat_lit 40,c3 "__init__" "BadTable.__init__" 219 6 2 3 35 36 (.ref 37) (.ref 38) 39 224 225) ::
 (nat_lit 43,dO (.type "dict") [de P "__module__" 214 (.str "grooveway.errors" 187),de P "__firstlineno__" 218 (.int 4 217),de P "__init__" 226 (.ref 41),de P "__static_attributes__" 228 (.ref 42),de P "__doc__" 229 .none] 2) ::
 (nat_lit 44,k3 "BadTable" 44 24 43 28 207 215) ::
 (nat_lit 50,c3 "whole_in" "whole_in" 238 12 2 3 47 48 .none .none 49 241 242) ::
 (nat_lit 51,f3 "whole_in" "whole_in" XY "grooveway.pages" 234 50) ::
 (nat_lit 62,c3 "__init__" "Table.__init__" 258 23 6 3 59 60 .none .none 61 261 262) ::
 (nat_lit 63,f3 "__init__" "Table.__init__" XZ "grooveway.table" 244 62) ::
 (nat_lit 69,c3 "signs" "Table.signs" 264 30 1 3 64 65 (.ref 66) (.ref 67) 68 268 269) ::
 (nat_lit 70,f3 "signs" "Table.signs" Vg "grooveway.table" 244 69) ::
 (nat_lit 76,c3 "block_length" "Table.block_length" 271 33 1 3 71 72 (.ref 73) (.ref 74) 75 275 276) ::
 (nat_lit 77,f3 "block_length" "Table.block_length" Vh "grooveway.table" 244 76) ::
 (nat_lit 79,dO (.type "dict") [de P "__module__" 253 (.str "grooveway.table" 244),de P "__firstlineno__" 257 (.int 21 256),de P "__init__" 263 (.ref 63),de P "signs" 270 (.ref 70),de P "block_length" 277 (.ref 77),de P "__static_attributes__" 283 (.ref 78),de P "__dict__" 285 (.ref 81),de P "__weakref__" 287 (.ref 82),de P "__doc__" 288 .none] 4) ::
 (nat_lit 80,⟨(.type "type"),none,.cls ⟨"Table",[(.type "object")],[(.ref 80),(.type "object")],79, "Table",true,[],[],false,none,false⟩,#[none,none,some (.str "Table" 246),some (.str "Table" 254),some (.builtin "object.__new__"),some (.bool true)]⟩) ::
 (nat_lit 81,⟨(.type "getset_descriptor"),none,.fields #[(.str "__dict__" 284),(.ref 80),(.builtin "function.__dict__"),(.builtin "function.__dict__#set")],#[]⟩) ::
 (nat_lit 82,⟨(.type "getset_descriptor"),none,.fields #[(.str "__weakref__" 286),(.ref 80),(.builtin "ExceptionGroup.__weakref__"),.none],#[]⟩) ::
 (nat_lit 88,c3 "place_rows" "place_rows" 293 36 2 3 85 86 .none .none 87 296 297) ::
 (nat_lit 89,f3 "place_rows" "place_rows" X0 "grooveway.tables" 291 88) ::
 (nat_lit 93,c3 "table_text" "table_text" 299 38 1 3 90 91 .none .none 92 302 303) ::
 (nat_lit 94,f3 "table_text" "table_text" X1 "grooveway.tables" 291 93) ::
 (nat_lit 100,c3 "words_behind" "words_behind" 305 46 3 3 95 96 (.ref 97) (.ref 98) 99 312 313) ::
 (nat_lit 101,f3 "words_behind" "words_behind" Vi "grooveway.tables" 291 100) ::
 (nat_lit 105,c3 "is_row" "is_row" 315 51 1 3 102 103 .none .none 104 318 319) ::
 (nat_lit 106,f3 "is_row" "is_row" X2 "grooveway.tables" 291 105) ::
 (nat_lit 112,c3 "place_in" "place_in" 321 53 2 3 107 108 (.ref 109) (.ref 110) 111 327 328) ::
 (nat_lit 113,f3 "place_in" "place_in" Vj "grooveway.tables" 291 112) ::
 (nat_lit 117,c3 "head_in" "head_in" 330 56 1 3 114 115 .none .none 116 333 334) ::
 (nat_lit 118,f3 "head_in" "head_in" X3 "grooveway.tables" 291 117) ::
 (nat_lit 124,c3 "lead_in" "lead_in" 336 64 1 3 119 120 (.ref 121) (.ref 122) 123 341 342) ::
 (nat_lit 125,f3 "lead_in" "lead_in" Vk "grooveway.tables" 291 124) ::
 (nat_lit 131,c3 "first_in" "first_in" 344 69 2 3 126 127 (.ref 128) (.ref 129) 130 350 351) ::
 (nat_lit 132,f3 "first_in" "first_in" Vl "grooveway.tables" 291 131) ::
 (nat_lit 138,c3 "home_in" "home_in" 353 72 1 3 133 134 (.ref 135) (.ref 136) 137 358 359) ::
 (nat_lit 139,f3 "home_in" "home_in" Vm "grooveway.tables" 291 138) ::
 (nat_lit 145,c3 "way_in" "way_in" 361 75 3 3 140 141 (.ref 142) (.ref 143) 144 369 370) ::
 (nat_lit 146,f3 "way_in" "way_in" Vn "grooveway.tables" 291 145) ::
 (nat_lit 152,c3 "row_numbered" "row_numbered" 372 81 2 3 147 148 (.ref 149) (.ref 150) 151 377 378) ::
 (nat_lit 153,f3 "row_numbered" "row_numbered" Vo "grooveway.tables" 291 152) ::
 (nat_lit 159,c3 "stands" "stands" 380 83 2 3 154 155 (.ref 156) (.ref 157) 158 385 386) ::
 (nat_lit 160,f3 "stands" "stands" Vp "grooveway.tables" 291 159) ::
 (nat_lit 166,c3 "ways_in" "ways_in" 388 87 3 3 161 162 (.ref 163) (.ref 164) 165 396 397) ::
 (nat_lit 167,f3 "ways_in" "ways_in" Vq "grooveway.tables" 291 166) ::
 (nat_lit 173,c3 "read_table" "read_table" 399 92 1 3 168 169 (.ref 170) (.ref 171) 172 411 412) ::
 (nat_lit 174,f3 "read_table" "read_table" Vr "grooveway.tables" 291 173) ::
 (nat_lit 180,c3 "_law_cell_at" "_law_cell_at" 416 108 2 3 175 176 (.ref 177) (.ref 178) 179 421 422) ::
 (nat_lit 181,f3 "_law_cell_at" "_law_cell_at" Vs "law_grooveway_k49_tables_there_and_back" 414 180) ::
 (nat_lit 187,c3 "_law_is_whole" "_law_is_whole" 424 112 1 3 182 183 (.ref 184) (.ref 185) 186 428 429) ::
 (nat_lit 188,f3 "_law_is_whole" "_law_is_whole" Vt "law_grooveway_k49_tables_there_and_back" 414 187) ::
 (nat_lit 192,c3 "_law_text" "_law_text" 431 114 5 3 189 190 .none .none 191 434 435) ::
 (nat_lit 193,f3 "_law_text" "_law_text" X4 "law_grooveway_k49_tables_there_and_back" 414 192) ::
 (nat_lit 199,c3 "_law_signs" "_law_signs" 437 124 2 3 194 195 (.ref 196) (.ref 197) 198 445 446) ::
 (nat_lit 200,f3 "_law_signs" "_law_signs" Vu "law_grooveway_k49_tables_there_and_back" 414 199) ::
 (nat_lit 206,c3 "_law_number" "_law_number" 448 131 1 3 201 202 (.ref 203) (.ref 204) 205 452 453) ::
 (nat_lit 207,f3 "_law_number" "_law_number" Vv "law_grooveway_k49_tables_there_and_back" 414 206) ::
 (nat_lit 213,c3 "_law_ways_like" "_law_ways_like" 455 133 2 3 208 209 (.ref 210) (.ref 211) 212 462 463) ::
 (nat_lit 214,f3 "_law_ways_like" "_law_ways_like" Vw "law_grooveway_k49_tables_there_and_back" 414 213) ::
 (nat_lit 220,c3 "_law_like" "_law_like" 465 143 6 3 215 216 (.ref 217) (.ref 218) 219 474 475) ::
 (nat_lit 221,f3 "_law_like" "_law_like" Vx "law_grooveway_k49_tables_there_and_back" 414 220) ::
 (nat_lit 225,c3 "law" "law" 477 153 1 3 222 223 .none .none 224 480 481) ::
 (nat_lit 226,f3 "law" "law" Y6 "law_grooveway_k49_tables_there_and_back" 414 225)::[]
set_option maxHeartbeats 0 in
theorem Zhh:met PySem.Challenge.pw_grooveway_k49_tables_there_and_back=true:=by k_qdec
set_option maxHeartbeats 0 in
theorem Zhi:met kP=true:=by k_qdec
set_option maxHeartbeats 0 in
theorem left:LeftO PySem.Challenge.pw_grooveway_k49_tables_there_and_back (view PySem.Challenge.pw_grooveway_k49_tables_there_and_back [1,2,3,5,6,8,10,11,12,13,14,15,16,17,18,19,20,21,22,23,25,26,27,28,29,30,31,32]) [] (λs=>xlAt (view PySem.Challenge.pw_grooveway_k49_tables_there_and_back [1,2,3,5,6,8,10,11,12,13,14,15,16,17,18,19,20,21,22,23,25,26,27,28,29,30,31,32]) [] s&&recOk PySem.Challenge.rw_grooveway_k49_tables_there_and_back.row.toRowW.records s) (λs=>([2,3,23,24,25,40,43,44,50,51,62,63,69,70,76,77,79,80,81,82,88,89,93,94,100,101,105,106,112,113,117,118,124,125,131,132,138,139,145,146,152,153,159,160,166,167,173,174,180,181,187,188,192,193,199,200,206,207,213,214,220,221,225,226]:List Addr).map s.heap.get?) (λw=>(kP w.params).map λp=>some p.2) 3054:=
 HT.left_of rfl rfl (λ_=>rfl) λw=>by
  have _:=Zhh;have _:=Zhi;rewrite [PySem.W.Fast.te14256419978194774902,PySem.W.Fast.te6563296070025354248,PySem.W.Fast.te5923862056798008813,PySem.W.Fast.te4187177175401517315,PySem.W.Fast.te6613529449190102663,PySem.W.Fast.te10156331382660048174,PySem.W.Fast.te11892475500146522536,PySem.W.Fast.te14364793385576792824]
  kernel_rfl
theorem kP_as:∀P,([2,3,23,24,25,40,43,44,50,51,62,63,69,70,76,77,79,80,81,82,88,89,93,94,100,101,105,106,112,113,117,118,124,125,131,132,138,139,145,146,152,153,159,160,166,167,173,174,180,181,187,188,192,193,199,200,206,207,213,214,220,221,225,226]:List Addr)=(kP P).map (·.1):=λ_=>by kernel_rfl
end K49
namespace K49
open PySem PySem.Spec PyProof.Rows L2 DL
theorem nd0:List.Nodup (["sign"]:List Str):=by decide +kernel
theorem nd1:List.Nodup (["own"]:List Str):=by decide +kernel
theorem nd2:List.Nodup (["way"]:List Str):=by decide +kernel
theorem nd3:List.Nodup (["block", "place"]:List Str):=by decide +kernel
theorem nd4:List.Nodup (["table", "numbers", "rows", "home", "ways"]:List Str):=by decide +kernel
theorem nd5:List.Nodup (["number"]:List Str):=by decide +kernel
theorem nd6:List.Nodup (["row", "name", "many", "words"]:List Str):=by decide +kernel
theorem nd7:List.Nodup (["word", "places", "number"]:List Str):=by decide +kernel
theorem nd8:List.Nodup (["row", "words", "numbers"]:List Str):=by decide +kernel
theorem nd9:List.Nodup (["word"]:List Str):=by decide +kernel
theorem Zh4:List.Nodup (["row", "words"]:List Str):=by decide +kernel
theorem Zim:List.Nodup (["row", "places", "words"]:List Str):=by decide +kernel
theorem Zh5:List.Nodup (["row", "length", "places", "words", "place"]:List Str):=by decide +kernel
theorem Zh6:List.Nodup (["rows", "number", "head", "ways", "place"]:List Str):=by decide +kernel
theorem Vy:List.Nodup (["text", "rows", "head", "lead", "first", "homes", "ways", "number", "place"]:List Str):=by decide +kernel
theorem Qb:List.Nodup (["lead", "first", "ahead", "homes", "ways", "head", "rows", "place", "block", "there"]:List Str):=by decide +kernel
theorem Qc:List.Nodup (["cell", "many", "signs", "row", "k"]:List Str):=by decide +kernel
theorem Zh7:List.Nodup (["found", "ways", "k", "pair"]:List Str):=by decide +kernel
theorem Y1:List.Nodup (["script", "many", "n", "q", "lead", "first", "ahead", "homes", "ways", "place", "row", "sign", "cell", "handed", "table", "text"]:List Str):=by decide +kernel
theorem Zin:List.Nodup (["k", "script"]:List Str):=by decide +kernel
theorem Zio:List.Nodup (["row"]:List Str):=by decide +kernel
section
variable{P:Program}{w:World}{K:PySem.W.Frag}{mg:Str->Option Value}{base:Heap}{t:Adr}
theorem Zeu(T:Txt K mg t):FnOk P w K mg base CX0 1 t.a_QR t.d_QR ["word", "figures"] (spD ⟨t.c,K⟩ 2 Uo):=by
 refine Z9 (φ:=f_QR) T.f_QR ZgR (by conv=>lhs;whnf) (by conv=>lhs;whnf) (λcdv A outer s H E hr => ?_) rfl rfl;refine⟨_,(Zs (Yv (PW.pt (YO (Yg Jk (ZP (Yj (K:=K)) (by rfl) T.n_len boot_len (Zc (pv 0) Zi)) Zo (Yp _)) (Xk (Yg Jl (ZP (Yj (K:=K)) (by rfl) T.n_len boot_len (Zc (pv 0) Zi)) (pv 1) (Yp _))))) (Zv (ZJ Y7)) Yu)
 (Zs (Yv (Y8 (Y2 (ZP (Zfw (K:=K)) (by rfl) T.n_all boot_all (Zc (VD (by rfl) (CompSc.mk' (tn:=["sign"]) (cn:=[]) (js:=[]) (osc:=defScope XY) (oN:=["word", "figures"]) (by rfl) (by rfl) (by rfl) (by decide +kernel)) (Xx (K:=K) (pv 0)) (λC s₂ H₂ fp=>Ye (i:=0) nd0) (λC s₂ H₂ fp=>XN) (λC s₂ H₂ fp=>(Jm (Qu (K:=K)) (pv 0) (Jb (by rfl) T.g_FIGURES T.r_FIGURES) (by rfl)))) Zi)))) (Zv (ZJ Y7)) Yu)
 (Zs (Yv (PW.pt (Jd (Yg Jl (ZP (Yj (K:=K)) (by rfl) T.n_len boot_len (Zc (pv 0) Zi)) Zo (Yp _)) (Jc (Yg (JO (cA:=⟨t.c,K⟩) (hr.units)) (ZA (ZB (K:=K)) (pv 0) Zo (λ_ _=>rfl)) (ZV [48] (by decide +kernel)) (Yp _))))) (Zv (ZJ Y7)) Yu)
 (Zv (ZJ (YX Zdb (by rfl) T.n_int boot_int (Zc (pv 0) Zi))))))),[],?_⟩
 unfold f_QR;exact(Zt (Yy (YR (Yk (Zl VN (ZX Yl (Ze (Zd 0 (by rfl)) Zk)) (Zj (d:=(.int 1)) (by rfl) (by rfl)))) (Yk (Zl VN (ZX Yl (Ze (Zd 0 (by rfl)) Zk)) (Zd 1 (by rfl))))) (ZM (Zj (d:=.non) (by rfl) (by rfl))) Yx)
 (Zt (Yy (Xb (Yq (ZX Zed (Ze (VF.cl (Vd (by rfl) (XD (Zd 0 (by rfl))) (YM 0 (by rfl) (by rfl)) XO (Zl Qx (Zd 0 (by rfl)) (Zj (d:=.str cs_FIGURES) (by rfl) (by rfl))))) Zk)))) (ZM (Zj (d:=.non) (by rfl) (by rfl))) Yx)
 (Zt (Yy (JS (Yk (Zl VN (ZX Yl (Ze (Zd 0 (by rfl)) Zk)) (Zj (d:=(.int 1)) (by rfl) (by rfl)))) (Yk (Zl JP (Zl ZD (Zd 0 (by rfl)) (Zj (d:=(.int 0)) (by rfl) (by rfl))) (Zj (d:=(.str [48])) (by rfl) (by rfl))))) (ZM (Zj (d:=.non) (by rfl) (by rfl))) Yx)
 (ZM (ZX Zgc (Ze (Zd 0 (by rfl)) Zk))))))
theorem ZfK(T:Txt K mg t):FnOk P w K mg base CX0 1 t.a_QJ t.d_QJ ["self", "lead", "first", "ahead", "homes", "ways"] (spI ⟨t.c,K⟩ 6 UM):=by
 refine ZgN (φ:=f_QJ) T.f_QJ ZgS (by conv=>lhs;whnf) (by conv=>lhs;whnf) (λcdv A outer s H E self hr => ?_) rfl rfl;refine⟨_,(Zs (US (pv 0) (pv 1) (by rfl))
 (Zs (US (pv 0) (pv 2) (by rfl))
 (Zs (US (pv 0) (pv 3) (by rfl))
 (Zs (US (pv 0) (YX (UX (K:=K)) (by rfl) T.n_tuple boot_tuple (Zc (pv 4) Zi)) (by rfl))
 (Zv (US (pv 0) (YX (UX (K:=K)) (by rfl) T.n_tuple boot_tuple (Zc (VD (by rfl) (CompSc.mk' (tn:=["own"]) (cn:=[]) (js:=[]) (osc:=defScope XZ) (oN:=["self", "lead", "first", "ahead", "homes", "ways"]) (by rfl) (by rfl) (by rfl) (by decide +kernel)) (Xx (K:=K) (pv 5)) (λC s₂ H₂ fp=>Ye (i:=0) nd1) (λC s₂ H₂ fp=>XN) (λC s₂ H₂ fp=>(YX (UX (K:=K)) (by rfl) T.n_tuple boot_tuple (Zc (VD (by rfl) (CompSc.mk3 (tn:=["way"]) (by rfl) (by decide +kernel)) (Xx (K:=K) (pv 0)) (λC s₂ H₂ fp=>Ye (i:=0) nd2) (λC s₂ H₂ fp=>XN) (λC s₂ H₂ fp=>(YX (UX (K:=K)) (by rfl) T.n_tuple boot_tuple (Zc (pv 0) Zi)))) Zi)))) Zi)) (by rfl))))))),?_⟩
 unfold f_QJ;exact(Zt (U3 0 (by rfl) T.fl_lead (Zd 1 (by rfl)))
 (Zt (U3 0 (by rfl) T.fl_first (Zd 2 (by rfl)))
 (Zt (U3 0 (by rfl) T.fl_ahead (Zd 3 (by rfl)))
 (Zt (U3 0 (by rfl) T.fl_homes (U0 (Ze (Zd 4 (by rfl)) Zk)))
 (U3 0 (by rfl) T.fl_ways (U0 (Ze (VF.cl (Vd (by rfl) (XD (Zd 5 (by rfl))) (YM 0 (by rfl) (by rfl)) XO (U0 (Ze (VF.cl (Vd (by rfl) (XD (Zd 0 (by rfl))) (YM 0 (by rfl) (by rfl)) XO (U0 (Ze (Zd 0 (by rfl)) Zk)))) Zk)))) Zk)))))))
theorem ZfL(T:Txt K mg t):FnOk P w K mg base CX0 1 t.a_QG t.d_QG ["self"] (spD ⟨t.c,K⟩ 1 Zgz):=by
 refine Z9 (φ:=f_QG) T.f_QG ZgT (by conv=>lhs;whnf) (by conv=>lhs;whnf) (λcdv A outer s H E hr => ?_) rfl rfl;refine⟨_,(Zv (ZJ (ZP (Yj (K:=K)) (by rfl) T.n_len boot_len (Zc (ZA (ZB (K:=K)) (YE (K:=K) (pv 0)) Zo (λ_ _=>rfl)) Zi)))),[],?_⟩;unfold f_QG;exact(ZM (ZX Yl (Ze (Zl ZD (YJ T.fl_ways (Zd 0 (by rfl))) (Zj (d:=(.int 0)) (by rfl) (by rfl))) Zk)))
theorem ZfM(T:Txt K mg t):FnOk P w K mg base CX0 1 t.a_QA t.d_QA ["self"] (spD ⟨t.c,K⟩ 1 ZgA):=by
 refine Z9 (φ:=f_QA) T.f_QA ZgU (by conv=>lhs;whnf) (by conv=>lhs;whnf) (λcdv A outer s H E hr => ?_) rfl rfl;refine⟨_,(Zv (ZJ (ZP (Yj (K:=K)) (by rfl) T.n_len boot_len (Zc (ZA (ZB (K:=K)) (ZA (ZB (K:=K)) (ZA (ZB (K:=K)) (YE (K:=K) (pv 0)) Zo (λ_ _=>rfl)) Zo (λ_ _=>rfl)) Zo (λ_ _=>rfl)) Zi)))),[],?_⟩;unfold f_QA;exact(ZM (ZX Yl (Ze (Zl ZD (Zl ZD (Zl ZD (YJ T.fl_ways (Zd 0 (by rfl))) (Zj (d:=(.int 0)) (by rfl) (by rfl))) (Zj (d:=(.int 0)) (by rfl) (by rfl))) (Zj (d:=(.int 0)) (by rfl) (by rfl))) Zk)))
theorem Zhj(T:Txt K mg t):FnOk P w K mg base CX0 1 t.a_QI t.d_QI ["home", "ways"] (spL ⟨t.c,K⟩ 2 Up):=by
 refine ZgP (φ:=f_QI) T.f_QI ZgV (by conv=>lhs;whnf) (by conv=>lhs;whnf) (λcdv A outer s H E hr => ?_) rfl rfl;refine⟨_,(Zv (ZJ (ZL (Yb (K:=K)) (Y9 (Zc (ZcE (.cons (ZV [112,108,97,99,101,32] (by decide +kernel)) (.cons (J4 (pv 0)) .nil))) Zi)) (VD (by rfl) (CompSc.mk' (tn:=["block", "place"]) (cn:=[]) (js:=[]) (osc:=defScope X0) (oN:=["home", "ways"]) (by rfl) (by rfl) (by rfl) (by decide +kernel)) (Xx (K:=K) (pv 1)) (λC s₂ H₂ fp=>JL (K:=K) (n:=2) (Uw (Ye (i:=0) nd3) (Uw (Ye (i:=1) nd3) Jg))) (λC s₂ H₂ fp=>XN) (λC s₂ H₂ fp=>(ZcE (.cons (ZV [119,97,121,32] (by decide +kernel)) (.cons (J4 (pv 0)) (.cons (ZV [32] (by decide +kernel)) (.cons (J4 (pv 1)) .nil)))))))))),?_⟩
 unfold f_QI;exact(ZdG (Zgh (VF.cl (Xd (Ze (ZcF (.cons (Zj (d:=(.str [112,108,97,99,101,32])) (by rfl) (by rfl)) (.cons (J5 (Zd 0 (by rfl))) .nil))) Zk))) (VF.cl (Vd (by rfl) (XD (Zd 1 (by rfl))) (JX (UF 0 (by rfl) (by rfl) (UF 1 (by rfl) (by rfl) JW))) XO (ZcF (.cons (Zj (d:=(.str [119,97,121,32])) (by rfl) (by rfl)) (.cons (J5 (Zd 0 (by rfl))) (.cons (Zj (d:=(.str [32])) (by rfl) (by rfl)) (.cons (J5 (Zd 1 (by rfl))) .nil)))))))))
theorem Zhk(T:Txt K mg t):FnOk P w K mg base CX0 2 t.a_QL t.d_QL ["table"] (spD ⟨t.c,K⟩ 1 QM):=by
 have G_QA:=(ZfM (P:=P) (w:=w) (base:=base) T).mono (k:=1) (by decide);have G_QG:=(ZfL (P:=P) (w:=w) (base:=base) T).mono (k:=1) (by decide);have G_QI:=(Zhj (P:=P) (w:=w) (base:=base) T).mono (k:=1) (by decide);refine Z9 (φ:=f_QL) T.f_QL ZgW (by conv=>lhs;whnf) (by conv=>lhs;whnf) (λcdv A outer s H E hr => ?_) rfl rfl;refine⟨_,(Zs (ZN (i:=1) nd4 (by rfl) (by first|exact Or.inl rfl|exact Or.inr rfl) (Y9 (Zc (QC (cA:=⟨t.c,K⟩) (tab:=Ur) (m:="signs") ⟨⟨t.a_QG,t.d_QG,["self"],T.cl_Table,T.me_Table_signs,G_QG,T.b_QG⟩,trivial⟩ hr (pv 0)) (Zc (QC (cA:=⟨t.c,K⟩) (tab:=Uq) (m:="block_length") ⟨⟨t.a_QA,t.d_QA,["self"],T.cl_Table,T.me_Table_block_length,G_QA,T.b_QA⟩,trivial⟩ hr (pv 0)) (Zc (YE (K:=K) (pv 0)) (Zc (ZP (Yj (K:=K)) (by rfl) T.n_len boot_len (Zc (YE (K:=K) (pv 0)) Zi)) Zi))))))
 (Zs (ZN (i:=2) nd4 (by rfl) (by first|exact Or.inl rfl|exact Or.inr rfl) (Y9 (Zc (ZL (Yb (K:=K)) (ZV [116,97,98,108,101,32] (by decide +kernel)) (YF (K:=K) PySem.F.plainAttrs_str PySem.F.slot_str_join PySem.F.type_str_join (QA (K:=K)) (ZV [32] (by decide +kernel)) (Zc (VD (by rfl) (CompSc.mk' (tn:=["number"]) (cn:=[]) (js:=[]) (osc:=defScope X1) (oN:=["table", "numbers", "rows", "home", "ways"]) (by rfl) (by rfl) (by rfl) (by decide +kernel)) (Xx (K:=K) (pv 1)) (λC s₂ H₂ fp=>Ye (i:=0) nd5) (λC s₂ H₂ fp=>XN) (λC s₂ H₂ fp=>(YX UB (by rfl) T.n_str boot_str (Zc (pv 0) Zi)))) Zi))) Zi)))
 (Zs (Xl (YF (K:=K) PySem.F.plainAttrs_list PySem.F.slot_list_append PySem.F.type_list_append Xw (pv 2) (Zc (V5 (Yg (JO (cA:=⟨t.c,K⟩) (hr.units)) (YE (K:=K) (pv 0)) (ZV [] (by decide +kernel)) (Yp _)) (ZV [108,101,97,100] (by decide +kernel)) (ZL (Yb (K:=K)) (ZV [108,101,97,100,32] (by decide +kernel)) (YE (K:=K) (pv 0)))) Zi)))
 (Zs (Xl (YF (K:=K) PySem.F.plainAttrs_list PySem.F.slot_list_append PySem.F.type_list_append Xw (pv 2) (Zc (ZL (Yb (K:=K)) (ZV [102,105,114,115,116,32] (by decide +kernel)) (YX UB (by rfl) T.n_str boot_str (Zc (YE (K:=K) (pv 0)) Zi))) Zi)))
 (Zs ((XI PassesOwn.never (by rfl) (ZeP (K:=K) (by rfl) T.n_zip (YE (K:=K) (pv 0)) (YE (K:=K) (pv 0))) (JL (K:=K) (n:=2) (Uw (Ye (i:=3) nd4) (Uw (Ye (i:=4) nd4) Jg))) (Zv (Xl (YF (K:=K) PySem.F.plainAttrs_list PySem.F.slot_list_extend PySem.F.type_list_extend Zc5 (pv 2) (Zc (ZC (G_QI) hr (by rfl) T.g_QI T.k_QI T.b_QI .nil Zy (Zc (pv 3) (Zc (pv 4) Zi))) Zi))))))
 (Zv (ZJ (YF (K:=K) PySem.F.plainAttrs_str PySem.F.slot_str_join PySem.F.type_str_join (QA (K:=K)) (ZV [10] (by decide +kernel)) (Zc (pv 2) Zi))))))))),[],?_⟩
 unfold f_QL;exact(Zt (show VS _ _ [] _ _ _ _ from(Z1 1 (VF.cl (Xd (Ze (QD (Zd 0 (by rfl)) Zk) (Ze (QD (Zd 0 (by rfl)) Zk) (Ze (YJ T.fl_ahead (Zd 0 (by rfl))) (Ze (ZX Yl (Ze (YJ T.fl_homes (Zd 0 (by rfl))) Zk)) Zk)))))) (by rfl) (by rfl) (by rfl) (by rfl)))
 (Zt (show VS _ _ [2] _ _ _ _ from(Ud 2 (Xd (Ze (Zl Yo (Zj (d:=(.str [116,97,98,108,101,32])) (by rfl) (by rfl)) (Uf QB (Zj (d:=(.str [32])) (by rfl) (by rfl)) (Ze (VF.cl (Vd (by rfl) (XD (Zd 1 (by rfl))) (YM 0 (by rfl) (by rfl)) XO (ZX UE (Ze (Zd 0 (by rfl)) Zk)))) Zk))) Zk)) (by rfl) (by rfl) (by rfl) (by rfl)))
 (Zt (XC 2 (by rfl) (Ua (Yk (Zl JP (YJ T.fl_lead (Zd 0 (by rfl))) (Zj (d:=(.str [])) (by rfl) (by rfl)))) (Zj (d:=(.str [108,101,97,100])) (by rfl) (by rfl)) (Zl Yo (Zj (d:=(.str [108,101,97,100,32])) (by rfl) (by rfl)) (YJ T.fl_lead (Zd 0 (by rfl))))))
 (Zt (XC 2 (by rfl) (Zl Yo (Zj (d:=(.str [102,105,114,115,116,32])) (by rfl) (by rfl)) (ZX UE (Ze (YJ T.fl_first (Zd 0 (by rfl))) Zk))))
 (Zt (XQ (ZeQ (YJ T.fl_homes (Zd 0 (by rfl))) (YJ T.fl_ways (Zd 0 (by rfl)))) (JX (UF 3 (by rfl) (by rfl) (UF 4 (by rfl) (by rfl) JW))) (Zgf 2 (by rfl) (ZdH [] (by rfl) (Ze (Zd 3 (by rfl)) (Ze (Zd 4 (by rfl)) Zk)))))
 (VS.frz (ow1:=[]) 2 (ZM (Uf QB (Zj (d:=(.str [10])) (by rfl) (by rfl)) (Ze (Zd 2 (by rfl)) Zk))) (by rfl) (by rfl) (by rfl) (by rfl)))))))
theorem Qd(T:Txt K mg t):FnOk P w K mg base CX0 1 t.a_QD t.d_QD ["row", "name", "many"] (spD ⟨t.c,K⟩ 3 Xh):=by
 refine Z9 (φ:=f_QD) T.f_QD ZgX (by conv=>lhs;whnf) (by conv=>lhs;whnf) (λcdv A outer s H E hr => ?_) rfl rfl;refine⟨_,(Zs (ZN (i:=3) nd6 (by rfl) (by first|exact Or.inl rfl|exact Or.inr rfl) (YF (K:=K) PySem.F.plainAttrs_str PySem.F.slot_str_split PySem.F.type_str_split ZbE (pv 0) (Zc (ZV [32] (by decide +kernel)) Zi)))
 (Zs (Yv (PW.pt (YO (Yg (Xz (cA:=⟨t.c,K⟩) (hr.units)) (ZA (ZB (K:=K)) (pv 3) Zo (λ_ _=>rfl)) (pv 1) (Yp _)) (Xk (Yg (Xz (cA:=⟨t.c,K⟩) (hr.units)) (ZP (Yj (K:=K)) (by rfl) T.n_len boot_len (Zc (pv 3) Zi)) (ZL (Yb (K:=K)) (pv 2) Zo) (Yp _))))) (Zv (ZJ Y7)) Yu)
 (Zv (ZJ (Zdu (Zih (K:=K)) (pv 3) (ZeA Zo) Zez))))),[],?_⟩
 unfold f_QD;exact(Zt (show VS _ _ [] _ _ _ _ from(Z1 3 (Uf ZbF (Zd 0 (by rfl)) (Ze (Zj (d:=(.str [32])) (by rfl) (by rfl)) Zk)) (by rfl) (by rfl) (by rfl) (by rfl)))
 (Zt (Yy (YR (Yk (Zl XA (Zl ZD (Zd 3 (by rfl)) (Zj (d:=(.int 0)) (by rfl) (by rfl))) (Zd 1 (by rfl)))) (Yk (Zl XA (ZX Yl (Ze (Zd 3 (by rfl)) Zk)) (Zl Yo (Zd 2 (by rfl)) (Zj (d:=(.int 1)) (by rfl) (by rfl)))))) (ZM (Zj (d:=.non) (by rfl) (by rfl))) Yx)
 (ZM (ZgL (Or.inl rfl) (Zd 3 (by rfl)) (ZeK (Zj (d:=(.int 1)) (by rfl) (by rfl))) ZeJ))))
theorem ZfN(T:Txt K mg t):FnOk P w K mg base CX0 1 t.a_QX t.d_QX ["word"] (spD ⟨t.c,K⟩ 1 UN):=by
 refine Z9 (φ:=f_QX) T.f_QX ZgY (by conv=>lhs;whnf) (by conv=>lhs;whnf) (λcdv A outer s H E hr => ?_) rfl rfl;refine⟨_,(Zv (ZJ (ZdY (Jm Jl (ZP (Yj (K:=K)) (by rfl) T.n_len boot_len (Zc (pv 0) Zi)) Zo (Yp _)) (ZdX (ZP (Zfw (K:=K)) (by rfl) T.n_all boot_all (Zc (VD (by rfl) (CompSc.mk' (tn:=["sign"]) (cn:=[]) (js:=[]) (osc:=defScope X2) (oN:=["word"]) (by rfl) (by rfl) (by rfl) (by decide +kernel)) (Xx (K:=K) (pv 0)) (λC s₂ H₂ fp=>Ye (i:=0) nd0) (λC s₂ H₂ fp=>XN) (λC s₂ H₂ fp=>(Jm (Qu (K:=K)) (pv 0) (Jb (by rfl) T.g_MARK_SIGNS T.r_MARK_SIGNS) (by rfl)))) Zi)))))),[],?_⟩
 unfold f_QX;exact(ZM (Zeb (Zl VN (ZX Yl (Ze (Zd 0 (by rfl)) Zk)) (Zj (d:=(.int 0)) (by rfl) (by rfl))) (ZX Zed (Ze (VF.cl (Vd (by rfl) (XD (Zd 0 (by rfl))) (YM 0 (by rfl) (by rfl)) XO (Zl Qx (Zd 0 (by rfl)) (Zj (d:=.str cs_MARK_SIGNS) (by rfl) (by rfl))))) Zk))))
theorem ZfO(T:Txt K mg t):FnOk P w K mg base CX0 2 t.a_QP t.d_QP ["word", "places"] (spD ⟨t.c,K⟩ 2 U9):=by
 have G_QR:=(Zeu (P:=P) (w:=w) (base:=base) T).mono (k:=1) (by decide);refine Z9 (φ:=f_QP) T.f_QP ZgZ (by conv=>lhs;whnf) (by conv=>lhs;whnf) (λcdv A outer s H E hr => ?_) rfl rfl;refine⟨_,(Zs (ZN (i:=2) nd7 (by rfl) (by first|exact Or.inl rfl|exact Or.inr rfl) (ZC (G_QR) hr (by rfl) T.g_QR T.k_QR T.b_QR .nil Zy (Zc (pv 0) (Zc Zo Zi))))
 (Zv (ZJ (V5 (PW.pt (Jd (VB (Zcm (pv 2))) (Jc (Yg Jk (pv 2) (pv 1) (Yp _))))) (pv 2) Y7)))),[],?_⟩
 unfold f_QP;exact(Zt (show VS _ _ [] _ _ _ _ from(Z1 2 (ZE [] (by rfl) (Ze (Zd 0 (by rfl)) (Ze (Zj (d:=(.int 6)) (by rfl) (by rfl)) Zk))) (by rfl) (by rfl) (by rfl) (by rfl)))
 (ZM (Ua (JS (Yq (Zcw (Zd 2 (by rfl)))) (Yk (Zl VN (Zd 2 (by rfl)) (Zd 1 (by rfl))))) (Zd 2 (by rfl)) (Zj (d:=.non) (by rfl) (by rfl)))))
theorem Zhl(T:Txt K mg t):FnOk P w K mg base CX0 2 t.a_QT t.d_QT ["row"] (spD ⟨t.c,K⟩ 1 QN):=by
 have G_QR:=(Zeu (P:=P) (w:=w) (base:=base) T).mono (k:=1) (by decide);have G_QD:=(Qd (P:=P) (w:=w) (base:=base) T).mono (k:=1) (by decide);refine Z9 (φ:=f_QT) T.f_QT Zg0 (by conv=>lhs;whnf) (by conv=>lhs;whnf) (λcdv A outer s H E hr => ?_) rfl rfl;refine⟨_,(Zs (ZN (i:=1) nd8 (by rfl) (by first|exact Or.inl rfl|exact Or.inr rfl) (ZC (G_QD) hr (by rfl) T.g_QD T.k_QD T.b_QD .nil Zy (Zc (pv 0) (Zc (ZV [116,97,98,108,101] (by decide +kernel)) (Zc Zo Zi)))))
 (Zs (Yv (VB (Uu (pv 1))) (Zv (ZJ Y7)) Yu)
 (Zs (ZcB (i:=2) nd8 (by rfl) (by rfl) (by rfl) (CompSc.mk' (tn:=["word"]) (cn:=[]) (js:=[]) (osc:=defScope X3) (oN:=["row", "words", "numbers"]) (by rfl) (by rfl) (by rfl) (by decide +kernel)) (Xx (K:=K) (pv 1)) (λC s₂ H₂ fp=>Ye (i:=0) nd9) (λC s₂ H₂ fp=>XN) (λC s₂ H₂ fp=>(ZC (G_QR) hr (by rfl) T.g_QR T.k_QR T.b_QR .nil Zy (Zc (pv 0) (Zc Zo Zi)))))
 (Zs (Yv (PW.pt (YO (Yg (Qu (K:=K)) Y7 (pv 2) (by rfl)) (Xk (Yg (Qu (K:=K)) Zo (UT (Zc (ZA (ZB (K:=K)) (pv 2) Zo (λ_ _=>rfl)) (Zc (ZA (ZB (K:=K)) (pv 2) Zo (λ_ _=>rfl)) (Zc (ZA (ZB (K:=K)) (pv 2) Zo (λ_ _=>rfl)) Zi)))) (by rfl))))) (Zv (ZJ Y7)) Yu)
 (Zv (ZJ (pv 2))))))),[],?_⟩
 unfold f_QT;exact(Zt (show VS _ _ [] _ _ _ _ from(Z1 1 (ZE [] (by rfl) (Ze (Zd 0 (by rfl)) (Ze (Zj (d:=(.str [116,97,98,108,101])) (by rfl) (by rfl)) (Ze (Zj (d:=(.int 4)) (by rfl) (by rfl)) Zk)))) (by rfl) (by rfl) (by rfl) (by rfl)))
 (Zt (Yy (Yq (UD (Zd 1 (by rfl)))) (ZM (Zj (d:=.non) (by rfl) (by rfl))) Yx)
 (Zt (show VS _ _ [] _ _ _ _ from(Z1 2 (VF.cl (Vd (by rfl) (XD (Zd 1 (by rfl))) (YM 0 (by rfl) (by rfl)) XO (ZE [] (by rfl) (Ze (Zd 0 (by rfl)) (Ze (Zj (d:=(.int 6)) (by rfl) (by rfl)) Zk))))) (by rfl) (by rfl) (by rfl) (by rfl)))
 (Zt (Yy (YR (Yk (Zl Qx (Zj (d:=.non) (by rfl) (by rfl)) (Zd 2 (by rfl)))) (Yk (Zl Qx (Zj (d:=(.int 0)) (by rfl) (by rfl)) (Qy (Ze (Zl ZD (Zd 2 (by rfl)) (Zj (d:=(.int 0)) (by rfl) (by rfl))) (Ze (Zl ZD (Zd 2 (by rfl)) (Zj (d:=(.int 1)) (by rfl) (by rfl))) (Ze (Zl ZD (Zd 2 (by rfl)) (Zj (d:=(.int 3)) (by rfl) (by rfl))) Zk))))))) (ZM (Zj (d:=.non) (by rfl) (by rfl))) Yx)
 (ZM (Zd 2 (by rfl)))))))
theorem Zhm(T:Txt K mg t):FnOk P w K mg base CX0 2 t.a_QV t.d_QV ["row"] (spD ⟨t.c,K⟩ 1 QO):=by
 have G_QX:=(ZfN (P:=P) (w:=w) (base:=base) T).mono (k:=1) (by decide);have G_QD:=(Qd (P:=P) (w:=w) (base:=base) T).mono (k:=1) (by decide);refine Z9 (φ:=f_QV) T.f_QV Zg1 (by conv=>lhs;whnf) (by conv=>lhs;whnf) (λcdv A outer s H E hr => ?_) rfl rfl;refine⟨_,(Zs (Yv (Yg (JO (cA:=⟨t.c,K⟩) (hr.units)) (pv 0) (ZV [108,101,97,100] (by decide +kernel)) (Yp _)) (Zv (ZJ (ZV [] (by decide +kernel)))) Yu)
 (Zs (ZN (i:=1) Zh4 (by rfl) (by first|exact Or.inl rfl|exact Or.inr rfl) (ZC (G_QD) hr (by rfl) T.g_QD T.k_QD T.b_QD .nil Zy (Zc (pv 0) (Zc (ZV [108,101,97,100] (by decide +kernel)) (Zc Zo Zi)))))
 (Zv (ZJ (V5 (PW.pt (Jd (VB (Zcm (pv 1))) (Jc (Y2 (ZC (G_QX) hr (by rfl) T.g_QX T.k_QX T.b_QX .nil Zy (Zc (ZA (ZB (K:=K)) (pv 1) Zo (λ_ _=>rfl)) Zi)))))) (ZA (ZB (K:=K)) (pv 1) Zo (λ_ _=>rfl)) Y7))))),[],?_⟩
 unfold f_QV;exact(Zt (Yy (Yk (Zl JP (Zd 0 (by rfl)) (Zj (d:=(.str [108,101,97,100])) (by rfl) (by rfl)))) (ZM (Zj (d:=(.str [])) (by rfl) (by rfl))) Yx)
 (Zt (show VS _ _ [] _ _ _ _ from(Z1 1 (ZE [] (by rfl) (Ze (Zd 0 (by rfl)) (Ze (Zj (d:=(.str [108,101,97,100])) (by rfl) (by rfl)) (Ze (Zj (d:=(.int 1)) (by rfl) (by rfl)) Zk)))) (by rfl) (by rfl) (by rfl) (by rfl)))
 (ZM (Ua (JS (Yq (Zcw (Zd 1 (by rfl)))) (Yq (ZE [] (by rfl) (Ze (Zl ZD (Zd 1 (by rfl)) (Zj (d:=(.int 0)) (by rfl) (by rfl))) Zk)))) (Zl ZD (Zd 1 (by rfl)) (Zj (d:=(.int 0)) (by rfl) (by rfl))) (Zj (d:=.non) (by rfl) (by rfl))))))
theorem Zhn(T:Txt K mg t):FnOk P w K mg base CX0 3 t.a_QQ t.d_QQ ["row", "places"] (spD ⟨t.c,K⟩ 2 QP):=by
 have G_QP:=(ZfO (P:=P) (w:=w) (base:=base) T).mono (k:=2) (by decide);have G_QD:=(Qd (P:=P) (w:=w) (base:=base) T).mono (k:=2) (by decide);refine Z9 (φ:=f_QQ) T.f_QQ Zg2 (by conv=>lhs;whnf) (by conv=>lhs;whnf) (λcdv A outer s H E hr => ?_) rfl rfl;refine⟨_,(Zs (ZN (i:=2) Zim (by rfl) (by first|exact Or.inl rfl|exact Or.inr rfl) (ZC (G_QD) hr (by rfl) T.g_QD T.k_QD T.b_QD .nil Zy (Zc (pv 0) (Zc (ZV [102,105,114,115,116] (by decide +kernel)) (Zc Zo Zi)))))
 (Zv (ZJ (V5 (VB (Uu (pv 2))) Y7 (ZC (G_QP) hr (by rfl) T.g_QP T.k_QP T.b_QP .nil Zy (Zc (ZA (ZB (K:=K)) (pv 2) Zo (λ_ _=>rfl)) (Zc (pv 1) Zi))))))),[],?_⟩
 unfold f_QQ;exact(Zt (show VS _ _ [] _ _ _ _ from(Z1 2 (ZE [] (by rfl) (Ze (Zd 0 (by rfl)) (Ze (Zj (d:=(.str [102,105,114,115,116])) (by rfl) (by rfl)) (Ze (Zj (d:=(.int 1)) (by rfl) (by rfl)) Zk)))) (by rfl) (by rfl) (by rfl) (by rfl)))
 (ZM (Ua (Yq (UD (Zd 2 (by rfl)))) (Zj (d:=.non) (by rfl) (by rfl)) (ZE [] (by rfl) (Ze (Zl ZD (Zd 2 (by rfl)) (Zj (d:=(.int 0)) (by rfl) (by rfl))) (Ze (Zd 1 (by rfl)) Zk))))))
theorem Zho(T:Txt K mg t):FnOk P w K mg base CX0 2 t.a_QU t.d_QU ["row"] (spD ⟨t.c,K⟩ 1 QQ):=by
 have G_QR:=(Zeu (P:=P) (w:=w) (base:=base) T).mono (k:=1) (by decide);have G_QD:=(Qd (P:=P) (w:=w) (base:=base) T).mono (k:=1) (by decide);refine Z9 (φ:=f_QU) T.f_QU Zg3 (by conv=>lhs;whnf) (by conv=>lhs;whnf) (λcdv A outer s H E hr => ?_) rfl rfl;refine⟨_,(Zs (ZN (i:=1) Zh4 (by rfl) (by first|exact Or.inl rfl|exact Or.inr rfl) (ZC (G_QD) hr (by rfl) T.g_QD T.k_QD T.b_QD .nil Zy (Zc (pv 0) (Zc (ZV [112,108,97,99,101] (by decide +kernel)) (Zc Zo Zi)))))
 (Zv (ZJ (V5 (VB (Uu (pv 1))) Y7 (ZC (G_QR) hr (by rfl) T.g_QR T.k_QR T.b_QR .nil Zy (Zc (ZA (ZB (K:=K)) (pv 1) Zo (λ_ _=>rfl)) (Zc Zo Zi))))))),[],?_⟩
 unfold f_QU;exact(Zt (show VS _ _ [] _ _ _ _ from(Z1 1 (ZE [] (by rfl) (Ze (Zd 0 (by rfl)) (Ze (Zj (d:=(.str [112,108,97,99,101])) (by rfl) (by rfl)) (Ze (Zj (d:=(.int 1)) (by rfl) (by rfl)) Zk)))) (by rfl) (by rfl) (by rfl) (by rfl)))
 (ZM (Ua (Yq (UD (Zd 1 (by rfl)))) (Zj (d:=.non) (by rfl) (by rfl)) (ZE [] (by rfl) (Ze (Zl ZD (Zd 1 (by rfl)) (Zj (d:=(.int 0)) (by rfl) (by rfl))) (Ze (Zj (d:=(.int 6)) (by rfl) (by rfl)) Zk))))))
theorem Zhp(T:Txt K mg t):FnOk P w K mg base CX0 3 t.a_QY t.d_QY ["row", "length", "places"] (spD ⟨t.c,K⟩ 3 QR):=by
 have G_QX:=(ZfN (P:=P) (w:=w) (base:=base) T).mono (k:=2) (by decide);have G_QP:=(ZfO (P:=P) (w:=w) (base:=base) T).mono (k:=2) (by decide);have G_QD:=(Qd (P:=P) (w:=w) (base:=base) T).mono (k:=2) (by decide);refine Z9 (φ:=f_QY) T.f_QY Zg4 (by conv=>lhs;whnf) (by conv=>lhs;whnf) (λcdv A outer s H E hr => ?_) rfl rfl;refine⟨_,(Zs (ZN (i:=3) Zh5 (by rfl) (by first|exact Or.inl rfl|exact Or.inr rfl) (ZC (G_QD) hr (by rfl) T.g_QD T.k_QD T.b_QD .nil Zy (Zc (pv 0) (Zc (ZV [119,97,121] (by decide +kernel)) (Zc Zo Zi)))))
 (Zs (Yv (PW.pt (YO (VB (Uu (pv 3))) (YO (Yg (Xz (cA:=⟨t.c,K⟩) (hr.units)) (ZP (Yj (K:=K)) (by rfl) T.n_len boot_len (Zc (ZA (ZB (K:=K)) (pv 3) Zo (λ_ _=>rfl)) Zi)) (pv 1) (Yp _)) (Xk (Y8 (Y2 (ZC (G_QX) hr (by rfl) T.g_QX T.k_QX T.b_QX .nil Zy (Zc (ZA (ZB (K:=K)) (pv 3) Zo (λ_ _=>rfl)) Zi)))))))) (Zv (ZJ Y7)) Yu)
 (Zs (ZN (i:=4) Zh5 (by rfl) (by first|exact Or.inl rfl|exact Or.inr rfl) (ZC (G_QP) hr (by rfl) T.g_QP T.k_QP T.b_QP .nil Zy (Zc (ZA (ZB (K:=K)) (pv 3) Zo (λ_ _=>rfl)) (Zc (pv 2) Zi))))
 (Zv (ZJ (V5 (VB (Uu (pv 4))) Y7 (UT (Zc (ZA (ZB (K:=K)) (pv 3) Zo (λ_ _=>rfl)) (Zc (pv 4) Zi))))))))),[],?_⟩
 unfold f_QY;exact(Zt (show VS _ _ [] _ _ _ _ from(Z1 3 (ZE [] (by rfl) (Ze (Zd 0 (by rfl)) (Ze (Zj (d:=(.str [119,97,121])) (by rfl) (by rfl)) (Ze (Zj (d:=(.int 2)) (by rfl) (by rfl)) Zk)))) (by rfl) (by rfl) (by rfl) (by rfl)))
 (Zt (Yy (YR (Yq (UD (Zd 3 (by rfl)))) (YR (Yk (Zl XA (ZX Yl (Ze (Zl ZD (Zd 3 (by rfl)) (Zj (d:=(.int 0)) (by rfl) (by rfl))) Zk)) (Zd 1 (by rfl)))) (Xb (Yq (ZE [] (by rfl) (Ze (Zl ZD (Zd 3 (by rfl)) (Zj (d:=(.int 0)) (by rfl) (by rfl))) Zk)))))) (ZM (Zj (d:=.non) (by rfl) (by rfl))) Yx)
 (Zt (show VS _ _ [] _ _ _ _ from(Z1 4 (ZE [] (by rfl) (Ze (Zl ZD (Zd 3 (by rfl)) (Zj (d:=(.int 1)) (by rfl) (by rfl))) (Ze (Zd 2 (by rfl)) Zk))) (by rfl) (by rfl) (by rfl) (by rfl)))
 (ZM (Ua (Yq (UD (Zd 4 (by rfl)))) (Zj (d:=.non) (by rfl) (by rfl)) (Qy (Ze (Zl ZD (Zd 3 (by rfl)) (Zj (d:=(.int 0)) (by rfl) (by rfl))) (Ze (Zd 4 (by rfl)) Zk))))))))
theorem ZfP(T:Txt K mg t):FnOk P w K mg base CX0 1 t.a_QF t.d_QF ["rows", "number"] (spD ⟨t.c,K⟩ 2 XX):=by
 refine Z9 (φ:=f_QF) T.f_QF Zg5 (by conv=>lhs;whnf) (by conv=>lhs;whnf) (λcdv A outer s H E hr => ?_) rfl rfl;refine⟨_,(Zv (ZJ (V5 (Yg ZgD (pv 1) (ZP (Yj (K:=K)) (by rfl) T.n_len boot_len (Zc (pv 0) Zi)) (Yp _)) (ZA (ZB (K:=K)) (pv 0) (ZL Zd1 (pv 1) Zo) (λ_ _=>rfl)) (ZV [] (by decide +kernel))))),[],?_⟩;unfold f_QF;exact(ZM (Ua (Yk (Zl VN (Zd 1 (by rfl)) (ZX Yl (Ze (Zd 0 (by rfl)) Zk)))) (Zl ZD (Zd 0 (by rfl)) (Zl Zea (Zd 1 (by rfl)) (Zj (d:=(.int 1)) (by rfl) (by rfl)))) (Zj (d:=(.str [])) (by rfl) (by rfl))))
theorem ZfQ(T:Txt K mg t):FnOk P w K mg base CX0 1 t.a_QW t.d_QW ["number", "said"] (spD ⟨t.c,K⟩ 2 Xv):=by
 refine Z9 (φ:=f_QW) T.f_QW Zg6 (by conv=>lhs;whnf) (by conv=>lhs;whnf) (λcdv A outer s H E hr => ?_) rfl rfl;refine⟨_,(Zs (Yv (VB (Uu (pv 1))) (Zv Zbm) Yu)
 (Zv (ZJ (pv 1)))),[],?_⟩
 unfold f_QW;exact(Zt (Yy (Yq (UD (Zd 1 (by rfl)))) Zby Yx)
 (ZM (Zd 1 (by rfl))))
theorem Zhq(T:Txt K mg t):FnOk P w K mg base CX0 4 t.a_QS t.d_QS ["rows", "number", "head"] (spD ⟨t.c,K⟩ 3 Qa):=by
 have G_QF:=(ZfP (P:=P) (w:=w) (base:=base) T).mono (k:=3) (by decide);have G_QW:=(ZfQ (P:=P) (w:=w) (base:=base) T).mono (k:=3) (by decide);have G_QY:=(Zhp (P:=P) (w:=w) (base:=base) T).mono (k:=3) (by decide);refine Z9 (φ:=f_QS) T.f_QS Zg7 (by conv=>lhs;whnf) (by conv=>lhs;whnf) (λcdv A outer s H E hr => ?_) rfl rfl;refine⟨_,(Zs (ZN (i:=3) Zh6 (by rfl) (by first|exact Or.inl rfl|exact Or.inr rfl) (Y9 Zi))
 (Zs ((XI PassesOwn.never (by rfl) (ZcX (by rfl) T.n_range (Zc (pv 1) (Zc (ZL (Yb (K:=K)) (pv 1) (ZA (ZB (K:=K)) (pv 2) Zo (λ_ _=>rfl))) Zi))) (Ye (i:=4) Zh6) (Zv (Xl (YF (K:=K) PySem.F.plainAttrs_list PySem.F.slot_list_append PySem.F.type_list_append Xw (pv 3) (Zc (ZC (G_QW) hr (by rfl) T.g_QW T.k_QW T.b_QW .nil Zy (Zc (pv 4) (Zc (ZC (G_QY) hr (by rfl) T.g_QY T.k_QY T.b_QY .nil Zy (Zc (ZC (G_QF) hr (by rfl) T.g_QF T.k_QF T.b_QF .nil Zy (Zc (pv 0) (Zc (pv 4) Zi))) (Zc (ZA (ZB (K:=K)) (pv 2) Zo (λ_ _=>rfl)) (Zc (ZA (ZB (K:=K)) (pv 2) Zo (λ_ _=>rfl)) Zi)))) Zi))) Zi))))))
 (Zv (ZJ (pv 3))))),[],?_⟩
 unfold f_QS;exact(Zt (show VS _ _ [3] _ _ _ _ from(Ud 3 (Xd Zk) (by rfl) (by rfl) (by rfl) (by rfl)))
 (Zt (XQ (ZeH (Ze (Zd 1 (by rfl)) (Ze (Zl Yo (Zd 1 (by rfl)) (Zl ZD (Zd 2 (by rfl)) (Zj (d:=(.int 0)) (by rfl) (by rfl)))) Zk)) Zij) (YM 4 (by rfl) (by rfl)) (XC 3 (by rfl) (ZE [] (by rfl) (Ze (Zd 4 (by rfl)) (Ze (ZE [] (by rfl) (Ze (ZE [] (by rfl) (Ze (Zd 0 (by rfl)) (Ze (Zd 4 (by rfl)) Zk))) (Ze (Zl ZD (Zd 2 (by rfl)) (Zj (d:=(.int 1)) (by rfl) (by rfl))) (Ze (Zl ZD (Zd 2 (by rfl)) (Zj (d:=(.int 3)) (by rfl) (by rfl))) Zk)))) Zk)))))
 (VS.frz (ow1:=[]) 3 (ZM (Zd 3 (by rfl))) (by rfl) (by rfl) (by rfl) (by rfl))))
theorem Zhr(T:Txt K mg t):FnOk P w K mg base CX0 5 t.a_QK t.d_QK ["text"] (spD ⟨t.c,K⟩ 1 QS):=by
 have GM_QJ:=(ZfK (P:=P) (w:=w) (base:=base) T).mono (k:=3) (by decide);have G_QQ:=(Zhn (P:=P) (w:=w) (base:=base) T).mono (k:=4) (by decide);have G_QT:=(Zhl (P:=P) (w:=w) (base:=base) T).mono (k:=4) (by decide);have G_QU:=(Zho (P:=P) (w:=w) (base:=base) T).mono (k:=4) (by decide);have G_QV:=(Zhm (P:=P) (w:=w) (base:=base) T).mono (k:=4) (by decide)
 have G_QF:=(ZfP (P:=P) (w:=w) (base:=base) T).mono (k:=4) (by decide);have G_QW:=(ZfQ (P:=P) (w:=w) (base:=base) T).mono (k:=4) (by decide);have G_QS:=(Zhq (P:=P) (w:=w) (base:=base) T).mono (k:=4) (by decide);refine Z9 (φ:=f_QK) T.f_QK Zg8 (by conv=>lhs;whnf) (by conv=>lhs;whnf) (λcdv A outer s H E hr => ?_) rfl rfl;refine⟨_,(Zs (ZN (i:=1) Vy (by rfl) (by first|exact Or.inl rfl|exact Or.inr rfl) (YF (K:=K) PySem.F.plainAttrs_str PySem.F.slot_str_split PySem.F.type_str_split ZbE (pv 0) (Zc (ZV [10] (by decide +kernel)) Zi)))
 (Zs (ZN (i:=2) Vy (by rfl) (by first|exact Or.inl rfl|exact Or.inr rfl) (ZC (G_QW) hr (by rfl) T.g_QW T.k_QW T.b_QW .nil Zy (Zc Zo (Zc (ZC (G_QT) hr (by rfl) T.g_QT T.k_QT T.b_QT .nil Zy (Zc (ZA (ZB (K:=K)) (pv 1) Zo (λ_ _=>rfl)) Zi)) Zi))))
 (Zs (ZN (i:=3) Vy (by rfl) (by first|exact Or.inl rfl|exact Or.inr rfl) (ZC (G_QW) hr (by rfl) T.g_QW T.k_QW T.b_QW .nil Zy (Zc Zo (Zc (ZC (G_QV) hr (by rfl) T.g_QV T.k_QV T.b_QV .nil Zy (Zc (ZC (G_QF) hr (by rfl) T.g_QF T.k_QF T.b_QF .nil Zy (Zc (pv 1) (Zc Zo Zi))) Zi)) Zi))))
 (Zs (ZN (i:=4) Vy (by rfl) (by first|exact Or.inl rfl|exact Or.inr rfl) (ZC (G_QW) hr (by rfl) T.g_QW T.k_QW T.b_QW .nil Zy (Zc Zo (Zc (ZC (G_QQ) hr (by rfl) T.g_QQ T.k_QQ T.b_QQ .nil Zy (Zc (ZC (G_QF) hr (by rfl) T.g_QF T.k_QF T.b_QF .nil Zy (Zc (pv 1) (Zc Zo Zi))) (Zc (ZA (ZB (K:=K)) (pv 2) Zo (λ_ _=>rfl)) Zi))) Zi))))
 (Zs (ZN (i:=5) Vy (by rfl) (by first|exact Or.inl rfl|exact Or.inr rfl) (Y9 Zi))
 (Zs (ZN (i:=6) Vy (by rfl) (by first|exact Or.inl rfl|exact Or.inr rfl) (Y9 Zi))
 (Zs (ZN (i:=7) Vy (by rfl) (by first|exact Or.inl rfl|exact Or.inr rfl) Zo)
 (Zs ((XI PassesOwn.never (by rfl) (V6 (by rfl) T.n_range (Zc (ZA (ZB (K:=K)) (pv 2) Zo (λ_ _=>rfl)) Zi)) (Ye (i:=8) Vy) (Zs (Xl (YF (K:=K) PySem.F.plainAttrs_list PySem.F.slot_list_append PySem.F.type_list_append Xw (pv 5) (Zc (ZC (G_QW) hr (by rfl) T.g_QW T.k_QW T.b_QW .nil Zy (Zc (pv 7) (Zc (ZC (G_QU) hr (by rfl) T.g_QU T.k_QU T.b_QU .nil Zy (Zc (ZC (G_QF) hr (by rfl) T.g_QF T.k_QF T.b_QF .nil Zy (Zc (pv 1) (Zc (pv 7) Zi))) Zi)) Zi))) Zi)))
 (Zs (Xl (YF (K:=K) PySem.F.plainAttrs_list PySem.F.slot_list_append PySem.F.type_list_append Xw (pv 6) (Zc (ZC (G_QS) hr (by rfl) T.g_QS T.k_QS T.b_QS .nil Zy (Zc (pv 1) (Zc (ZL (Yb (K:=K)) (pv 7) Zo) (Zc (pv 2) Zi)))) Zi)))
 (Zv (ZN (i:=7) Vy (by rfl) (by first|exact Or.inl rfl|exact Or.inr rfl) (ZL (Yb (K:=K)) (ZL (Yb (K:=K)) (pv 7) Zo) (ZA (ZB (K:=K)) (pv 2) Zo (λ_ _=>rfl)))))))))
 (Zs (Yv (Yg ZgE (ZP (Yj (K:=K)) (by rfl) T.n_len boot_len (Zc (pv 1) Zi)) (pv 7) (Yp _)) (Zv Zbm) Yu)
 (Zv (ZJ (Zcq T.mk_Table (GM_QJ) hr (by rfl) T.g_Table T.b_QJ .nil Zy (Zc (pv 3) (Zc (pv 4) (Zc (ZA (ZB (K:=K)) (pv 2) Zo (λ_ _=>rfl)) (Zc (pv 5) (Zc (pv 6) Zi))))))))))))))))),[],?_⟩
 unfold f_QK;exact(Zt (show VS _ _ [] _ _ _ _ from(Z1 1 (Uf ZbF (Zd 0 (by rfl)) (Ze (Zj (d:=(.str [10])) (by rfl) (by rfl)) Zk)) (by rfl) (by rfl) (by rfl) (by rfl)))
 (Zt (show VS _ _ [] _ _ _ _ from(Z1 2 (ZE [] (by rfl) (Ze (Zj (d:=(.int 1)) (by rfl) (by rfl)) (Ze (ZE [] (by rfl) (Ze (Zl ZD (Zd 1 (by rfl)) (Zj (d:=(.int 0)) (by rfl) (by rfl))) Zk)) Zk))) (by rfl) (by rfl) (by rfl) (by rfl)))
 (Zt (show VS _ _ [] _ _ _ _ from(Z1 3 (ZE [] (by rfl) (Ze (Zj (d:=(.int 2)) (by rfl) (by rfl)) (Ze (ZE [] (by rfl) (Ze (ZE [] (by rfl) (Ze (Zd 1 (by rfl)) (Ze (Zj (d:=(.int 2)) (by rfl) (by rfl)) Zk))) Zk)) Zk))) (by rfl) (by rfl) (by rfl) (by rfl)))
 (Zt (show VS _ _ [] _ _ _ _ from(Z1 4 (ZE [] (by rfl) (Ze (Zj (d:=(.int 3)) (by rfl) (by rfl)) (Ze (ZE [] (by rfl) (Ze (ZE [] (by rfl) (Ze (Zd 1 (by rfl)) (Ze (Zj (d:=(.int 3)) (by rfl) (by rfl)) Zk))) (Ze (Zl ZD (Zd 2 (by rfl)) (Zj (d:=(.int 3)) (by rfl) (by rfl))) Zk))) Zk))) (by rfl) (by rfl) (by rfl) (by rfl)))
 (Zt (show VS _ _ [5] _ _ _ _ from(Ud 5 (Xd Zk) (by rfl) (by rfl) (by rfl) (by rfl)))
 (Zt (show VS _ _ [5,6] _ _ _ _ from(Ud 6 (Xd Zk) (by rfl) (by rfl) (by rfl) (by rfl)))
 (Zt (show VS _ _ [5,6] _ _ _ _ from(Z1 7 (Zj (d:=(.int 4)) (by rfl) (by rfl)) (by rfl) (by rfl) (by rfl) (by rfl)))
 (Zt (XQ (Ue (Ze (Zl ZD (Zd 2 (by rfl)) (Zj (d:=(.int 3)) (by rfl) (by rfl))) Zk) VV) (YM 8 (by rfl) (by rfl)) (Zt (XC 5 (by rfl) (ZE [] (by rfl) (Ze (Zd 7 (by rfl)) (Ze (ZE [] (by rfl) (Ze (ZE [] (by rfl) (Ze (Zd 1 (by rfl)) (Ze (Zd 7 (by rfl)) Zk))) Zk)) Zk))))
 (Zt (XC 6 (by rfl) (ZE [] (by rfl) (Ze (Zd 1 (by rfl)) (Ze (Zl Yo (Zd 7 (by rfl)) (Zj (d:=(.int 1)) (by rfl) (by rfl))) (Ze (Zd 2 (by rfl)) Zk)))))
 (show VS _ _ [5,6] _ _ _ _ from(Z1 7 (Zl Yo (Zl Yo (Zd 7 (by rfl)) (Zj (d:=(.int 1)) (by rfl) (by rfl))) (Zl ZD (Zd 2 (by rfl)) (Zj (d:=(.int 0)) (by rfl) (by rfl)))) (by rfl) (by rfl) (by rfl) (by rfl))))))
 (VS.frz (ow1:=[5]) 6 (VS.frz (ow1:=[]) 5 (Zt (Yy (Yk (Zl VN (ZX Yl (Ze (Zd 1 (by rfl)) Zk)) (Zd 7 (by rfl)))) Zby Yx)
 (ZM (ZcA (c:="Table") [] (by rfl) (Ze (Zd 3 (by rfl)) (Ze (Zd 4 (by rfl)) (Ze (Zl ZD (Zd 2 (by rfl)) (Zj (d:=(.int 2)) (by rfl) (by rfl))) (Ze (Zd 5 (by rfl)) (Ze (Zd 6 (by rfl)) Zk)))))))) (by rfl) (by rfl) (by rfl) (by rfl)) (by rfl) (by rfl) (by rfl) (by rfl))))))))))
theorem Zhs(T:Txt K mg t):FnOk P w K mg base CX0 1 t.a_QE t.d_QE ["script", "k"] (spD ⟨t.c,K⟩ 2 Z6):=by
 refine Z9 (φ:=f_QE) T.f_QE Zg9 (by conv=>lhs;whnf) (by conv=>lhs;whnf) (λcdv A outer s H E hr => ?_) rfl rfl;refine⟨_,(Zs (Yv (Yg Jk (pv 1) (ZP (Yj (K:=K)) (by rfl) T.n_len boot_len (Zc (pv 0) Zi)) (Yp _)) (Zv (ZJ (ZA (ZB (K:=K)) (pv 0) (pv 1) (λ_ _=>rfl)))) Yu)
 (Zv (ZJ Zo))),[],?_⟩
 unfold f_QE;exact(Zt (Yy (Yk (Zl VN (Zd 1 (by rfl)) (ZX Yl (Ze (Zd 0 (by rfl)) Zk)))) (ZM (Zl ZD (Zd 0 (by rfl)) (Zd 1 (by rfl)))) Yx)
 (ZM (Zj (d:=(.int 0)) (by rfl) (by rfl))))
theorem ZfR(T:Txt K mg t):FnOk P w K mg base CX0 1 t.a_QC t.d_QC ["found"] (spD ⟨t.c,K⟩ 1 V2):=by
 refine Z9 (φ:=f_QC) T.f_QC Zha (by conv=>lhs;whnf) (by conv=>lhs;whnf) (λcdv A outer s H E hr => ?_) rfl rfl;refine⟨_,(Zv (ZJ (ZdY (ZP (XR (K:=K)) (by rfl) T.n_isinstance boot_isinstance (Zc (pv 0) (Zc (X8 (v:=.ty "int") (by rfl) T.n_int boot_int rfl) Zi))) (ZdX (ZfY (ZP (XR (K:=K)) (by rfl) T.n_isinstance boot_isinstance (Zc (pv 0) (Zc (X8 (v:=.ty "bool") (by rfl) T.n_bool boot_bool rfl) Zi)))))))),[],?_⟩
 unfold f_QC;exact(ZM (Zeb (XS (λ_ h=>h) T.isi_int (Zd 0 (by rfl))) (Zgb (XS (λ_ h=>h) T.isi_bool (Zd 0 (by rfl))))))
theorem Zht(T:Txt K mg t):FnOk P w K mg base CX0 1 t.a_QO t.d_QO ["lead", "first", "ahead", "homes", "ways"] (spD ⟨t.c,K⟩ 5 QT):=by
 refine Z9 (φ:=f_QO) T.f_QO Zhb (by conv=>lhs;whnf) (by conv=>lhs;whnf) (λcdv A outer s H E hr => ?_) rfl rfl;refine⟨_,(Zs (ZN (i:=5) Qb (by rfl) (by first|exact Or.inl rfl|exact Or.inr rfl) (Y9 (Zc (ZP (Yj (K:=K)) (by rfl) T.n_len boot_len (Zc (ZA (ZB (K:=K)) (pv 4) Zo (λ_ _=>rfl)) Zi)) (Zc (ZP (Yj (K:=K)) (by rfl) T.n_len boot_len (Zc (ZA (ZB (K:=K)) (ZA (ZB (K:=K)) (ZA (ZB (K:=K)) (pv 4) Zo (λ_ _=>rfl)) Zo (λ_ _=>rfl)) Zo (λ_ _=>rfl)) Zi)) (Zc (pv 2) (Zc (ZP (Yj (K:=K)) (by rfl) T.n_len boot_len (Zc (pv 3) Zi)) Zi))))))
 (Zs (ZN (i:=6) Qb (by rfl) (by first|exact Or.inl rfl|exact Or.inr rfl) (Y9 (Zc (ZL (Yb (K:=K)) (ZV [116,97,98,108,101,32] (by decide +kernel)) (YF (K:=K) PySem.F.plainAttrs_str PySem.F.slot_str_join PySem.F.type_str_join (QA (K:=K)) (ZV [32] (by decide +kernel)) (Zc (VD (by rfl) (CompSc.mk' (tn:=["number"]) (cn:=[]) (js:=[]) (osc:=defScope X4) (oN:=["lead", "first", "ahead", "homes", "ways", "head", "rows", "place", "block", "there"]) (by rfl) (by rfl) (by rfl) (by decide +kernel)) (Xx (K:=K) (pv 5)) (λC s₂ H₂ fp=>Ye (i:=0) nd5) (λC s₂ H₂ fp=>XN) (λC s₂ H₂ fp=>(YX UB (by rfl) T.n_str boot_str (Zc (pv 0) Zi)))) Zi))) Zi)))
 (Zs (Xl (YF (K:=K) PySem.F.plainAttrs_list PySem.F.slot_list_append PySem.F.type_list_append Xw (pv 6) (Zc (ZgQ (K:=K) PySem.F.plainAttrs_str PySem.F.slot_str_strip PySem.F.type_str_strip ZdJ (ZL (Yb (K:=K)) (ZV [108,101,97,100,32] (by decide +kernel)) (pv 0))) Zi)))
 (Zs (Xl (YF (K:=K) PySem.F.plainAttrs_list PySem.F.slot_list_append PySem.F.type_list_append Xw (pv 6) (Zc (ZL (Yb (K:=K)) (ZV [102,105,114,115,116,32] (by decide +kernel)) (YX UB (by rfl) T.n_str boot_str (Zc (pv 1) Zi))) Zi)))
 (Zs ((XI PassesOwn.never (by rfl) (V6 (by rfl) T.n_range (Zc (ZP (Yj (K:=K)) (by rfl) T.n_len boot_len (Zc (pv 3) Zi)) Zi)) (Ye (i:=7) Qb) (Zs (Xl (YF (K:=K) PySem.F.plainAttrs_list PySem.F.slot_list_append PySem.F.type_list_append Xw (pv 6) (Zc (ZL (Yb (K:=K)) (ZV [112,108,97,99,101,32] (by decide +kernel)) (YX UB (by rfl) T.n_str boot_str (Zc (ZA (ZB (K:=K)) (pv 3) (pv 7) (λ_ _=>rfl)) Zi))) Zi)))
 (Zv ((XI PassesOwn.never (by rfl) (Xx (K:=K) (ZA (ZB (K:=K)) (pv 4) (pv 7) (λ_ _=>rfl))) (JL (K:=K) (n:=2) (Uw (Ye (i:=8) Qb) (Uw (Ye (i:=9) Qb) Jg))) (Zv (Xl (YF (K:=K) PySem.F.plainAttrs_list PySem.F.slot_list_append PySem.F.type_list_append Xw (pv 6) (Zc (ZL (Yb (K:=K)) (ZL (Yb (K:=K)) (ZL (Yb (K:=K)) (ZV [119,97,121,32] (by decide +kernel)) (pv 8)) (ZV [32] (by decide +kernel))) (YX UB (by rfl) T.n_str boot_str (Zc (pv 9) Zi))) Zi))))))))))
 (Zv (ZJ (YF (K:=K) PySem.F.plainAttrs_str PySem.F.slot_str_join PySem.F.type_str_join (QA (K:=K)) (ZV [10] (by decide +kernel)) (Zc (pv 6) Zi))))))))),[],?_⟩
 unfold f_QO;exact(Zt (show VS _ _ [] _ _ _ _ from(Z1 5 (VF.cl (Xd (Ze (ZX Yl (Ze (Zl ZD (Zd 4 (by rfl)) (Zj (d:=(.int 0)) (by rfl) (by rfl))) Zk)) (Ze (ZX Yl (Ze (Zl ZD (Zl ZD (Zl ZD (Zd 4 (by rfl)) (Zj (d:=(.int 0)) (by rfl) (by rfl))) (Zj (d:=(.int 0)) (by rfl) (by rfl))) (Zj (d:=(.int 0)) (by rfl) (by rfl))) Zk)) (Ze (Zd 2 (by rfl)) (Ze (ZX Yl (Ze (Zd 3 (by rfl)) Zk)) Zk)))))) (by rfl) (by rfl) (by rfl) (by rfl)))
 (Zt (show VS _ _ [6] _ _ _ _ from(Ud 6 (Xd (Ze (Zl Yo (Zj (d:=(.str [116,97,98,108,101,32])) (by rfl) (by rfl)) (Uf QB (Zj (d:=(.str [32])) (by rfl) (by rfl)) (Ze (VF.cl (Vd (by rfl) (XD (Zd 5 (by rfl))) (YM 0 (by rfl) (by rfl)) XO (ZX UE (Ze (Zd 0 (by rfl)) Zk)))) Zk))) Zk)) (by rfl) (by rfl) (by rfl) (by rfl)))
 (Zt (XC 6 (by rfl) (Zgi ZdK (Zl Yo (Zj (d:=(.str [108,101,97,100,32])) (by rfl) (by rfl)) (Zd 0 (by rfl)))))
 (Zt (XC 6 (by rfl) (Zl Yo (Zj (d:=(.str [102,105,114,115,116,32])) (by rfl) (by rfl)) (ZX UE (Ze (Zd 1 (by rfl)) Zk))))
 (Zt (XQ (Ue (Ze (ZX Yl (Ze (Zd 3 (by rfl)) Zk)) Zk) VV) (YM 7 (by rfl) (by rfl)) (Zt (XC 6 (by rfl) (Zl Yo (Zj (d:=(.str [112,108,97,99,101,32])) (by rfl) (by rfl)) (ZX UE (Ze (Zl ZD (Zd 3 (by rfl)) (Zd 7 (by rfl))) Zk))))
 (XQ (XD (Zl ZD (Zd 4 (by rfl)) (Zd 7 (by rfl)))) (JX (UF 8 (by rfl) (by rfl) (UF 9 (by rfl) (by rfl) JW))) (XC 6 (by rfl) (Zl Yo (Zl Yo (Zl Yo (Zj (d:=(.str [119,97,121,32])) (by rfl) (by rfl)) (Zd 8 (by rfl))) (Zj (d:=(.str [32])) (by rfl) (by rfl))) (ZX UE (Ze (Zd 9 (by rfl)) Zk)))))))
 (VS.frz (ow1:=[]) 6 (ZM (Uf QB (Zj (d:=(.str [10])) (by rfl) (by rfl)) (Ze (Zd 6 (by rfl)) Zk))) (by rfl) (by rfl) (by rfl) (by rfl)))))))
theorem Zhu(T:Txt K mg t):FnOk P w K mg base CX0 1 t.a_QM t.d_QM ["cell", "many"] (spD ⟨t.c,K⟩ 2 UO):=by
 refine Z9 (φ:=f_QM) T.f_QM Zhc (by conv=>lhs;whnf) (by conv=>lhs;whnf) (λcdv A outer s H E hr => ?_) rfl rfl;refine⟨_,(Zs (ZN (i:=2) Qc (by rfl) (by first|exact Or.inl rfl|exact Or.inr rfl) (ZV [97,98,99,100,101,102,103,104,105,106,107,108,109,110,111,112,113,114,115,116,117,118,119,120,121,122,48,49,50,51,52,53,54,55,56,57] (by decide +kernel)))
 (Zs (ZN (i:=3) Qc (by rfl) (by first|exact Or.inl rfl|exact Or.inr rfl) (ZV [] (by decide +kernel)))
 (Zs ((XI PassesOwn.never (by rfl) (V6 (by rfl) T.n_range (Zc (pv 1) Zi)) (Ye (i:=4) Qc) (Zs (ZN (i:=3) Qc (by rfl) (by first|exact Or.inl rfl|exact Or.inr rfl) (ZL (Yb (K:=K)) (pv 3) (ZA (ZB (K:=K)) (pv 2) (ZL Vb (pv 0) (ZP (Yj (K:=K)) (by rfl) T.n_len boot_len (Zc (pv 2) Zi))) (λ_ _=>rfl))))
 (Zv (ZN (i:=0) Qc (by rfl) (by first|exact Or.inl rfl|exact Or.inr rfl) (ZL QE (pv 0) (ZP (Yj (K:=K)) (by rfl) T.n_len boot_len (Zc (pv 2) Zi))))))))
 (Zv (ZJ (pv 3)))))),[],?_⟩
 unfold f_QM;exact(Zt (show VS _ _ [] _ _ _ _ from(Z1 2 (Zj (d:=(.str [97,98,99,100,101,102,103,104,105,106,107,108,109,110,111,112,113,114,115,116,117,118,119,120,121,122,48,49,50,51,52,53,54,55,56,57])) (by rfl) (by rfl)) (by rfl) (by rfl) (by rfl) (by rfl)))
 (Zt (show VS _ _ [] _ _ _ _ from(Z1 3 (Zj (d:=(.str [])) (by rfl) (by rfl)) (by rfl) (by rfl) (by rfl) (by rfl)))
 (Zt (XQ (Ue (Ze (Zd 1 (by rfl)) Zk) VV) (YM 4 (by rfl) (by rfl)) (Zt (show VS _ _ [] _ _ _ _ from(Z1 3 (Zl Yo (Zd 3 (by rfl)) (Zl ZD (Zd 2 (by rfl)) (Zl Ve (Zd 0 (by rfl)) (ZX Yl (Ze (Zd 2 (by rfl)) Zk))))) (by rfl) (by rfl) (by rfl) (by rfl)))
 (show VS _ _ [] _ _ _ _ from(Z1 0 (Zl QF (Zd 0 (by rfl)) (ZX Yl (Ze (Zd 2 (by rfl)) Zk))) (by rfl) (by rfl) (by rfl) (by rfl)))))
 (ZM (Zd 3 (by rfl))))))
theorem Zhv(T:Txt K mg t):FnOk P w K mg base CX0 1 t.a_QH t.d_QH ["cell"] (spD ⟨t.c,K⟩ 1 UP):=by
 refine Z9 (φ:=f_QH) T.f_QH Zhd (by conv=>lhs;whnf) (by conv=>lhs;whnf) (λcdv A outer s H E hr => ?_) rfl rfl;refine⟨_,(Zv (ZJ (ZL Vb (ZL QE (pv 0) Zo) (ZA (ZB (K:=K)) (Y9 (Zc Zo (Zc Zo (Zc Zo (Zc Zo (Zc Zo (Zc Zo Zi))))))) (ZL Vb (pv 0) Zo) (λ_ _=>rfl))))),[],?_⟩;unfold f_QH;exact(ZM (Zl Ve (Zl QF (Zd 0 (by rfl)) (Zj (d:=(.int 6)) (by rfl) (by rfl))) (Zl ZD (VF.cl (Xd (Ze (Zj (d:=(.int 10)) (by rfl) (by rfl)) (Ze (Zj (d:=(.int 100)) (by rfl) (by rfl)) (Ze (Zj (d:=(.int 1000)) (by rfl) (by rfl)) (Ze (Zj (d:=(.int 10000)) (by rfl) (by rfl)) (Ze (Zj (d:=(.int 100000)) (by rfl) (by rfl)) (Ze (Zj (d:=(.int 1000000)) (by rfl) (by rfl)) Zk)))))))) (Zl Ve (Zd 0 (by rfl)) (Zj (d:=(.int 6)) (by rfl) (by rfl))))))
theorem Zhw(T:Txt K mg t):FnOk P w K mg base CX0 2 t.a_QB t.d_QB ["found", "ways"] (spD ⟨t.c,K⟩ 2 QU):=by
 have G_QC:=(ZfR (P:=P) (w:=w) (base:=base) T).mono (k:=1) (by decide);refine Z9 (φ:=f_QB) T.f_QB Zhe (by conv=>lhs;whnf) (by conv=>lhs;whnf) (λcdv A outer s H E hr => ?_) rfl rfl;refine⟨_,(Zs (Yv (PW.pt (YO (Y8 (Y2 (ZP (XR (K:=K)) (by rfl) T.n_isinstance boot_isinstance (Zc (pv 0) (Zc (X8 (v:=.ty "tuple") (by rfl) T.n_tuple boot_tuple rfl) Zi))))) (Xk (Yg (Xz (cA:=⟨t.c,K⟩) (hr.units)) (ZP (Yj (K:=K)) (by rfl) T.n_len boot_len (Zc (pv 0) Zi)) (ZP (Yj (K:=K)) (by rfl) T.n_len boot_len (Zc (pv 1) Zi)) (Yp _))))) (Zv (ZJ X7)) Yu)
 (Zs ((XI PassesOwn.never (by rfl) (V6 (by rfl) T.n_range (Zc (ZP (Yj (K:=K)) (by rfl) T.n_len boot_len (Zc (pv 1) Zi)) Zi)) (Ye (i:=2) Zh7) (Zs (Yv (PW.pt (YO (Y8 (Y2 (ZP (XR (K:=K)) (by rfl) T.n_isinstance boot_isinstance (Zc (ZA (ZB (K:=K)) (pv 0) (pv 2) (λ_ _=>rfl)) (Zc (X8 (v:=.ty "tuple") (by rfl) T.n_tuple boot_tuple rfl) Zi))))) (Xk (Yg (Xz (cA:=⟨t.c,K⟩) (hr.units)) (ZA (ZB (K:=K)) (pv 0) (pv 2) (λ_ _=>rfl)) (YX (UX (K:=K)) (by rfl) T.n_tuple boot_tuple (Zc (ZA (ZB (K:=K)) (pv 1) (pv 2) (λ_ _=>rfl)) Zi)) (Yp _))))) (Zv (ZJ X7)) Yu)
 (Zv ((XI PassesOwn.never (by rfl) (Xx (K:=K) (ZA (ZB (K:=K)) (pv 0) (pv 2) (λ_ _=>rfl))) (Ye (i:=3) Zh7) (Zv (Yv (PW.pt (YO (Y8 (Y2 (ZP (XR (K:=K)) (by rfl) T.n_isinstance boot_isinstance (Zc (pv 3) (Zc (X8 (v:=.ty "tuple") (by rfl) T.n_tuple boot_tuple rfl) Zi))))) (YO (Y8 (Y2 (ZP (XR (K:=K)) (by rfl) T.n_isinstance boot_isinstance (Zc (ZA (ZB (K:=K)) (pv 3) Zo (λ_ _=>rfl)) (Zc (X8 (v:=.ty "str") (by rfl) T.n_str boot_str rfl) Zi))))) (Xk (Y8 (Y2 (ZC (G_QC) hr (by rfl) T.g_QC T.k_QC T.b_QC .nil Zy (Zc (ZA (ZB (K:=K)) (pv 3) Zo (λ_ _=>rfl)) Zi)))))))) (Zv (ZJ X7)) Yu))))))))
 (Zv (ZJ X7)))),[],?_⟩
 unfold f_QB;exact(Zt (Yy (YR (Xb (Yq (XS (λ_ h=>h) T.isi_tuple (Zd 0 (by rfl))))) (Yk (Zl XA (ZX Yl (Ze (Zd 0 (by rfl)) Zk)) (ZX Yl (Ze (Zd 1 (by rfl)) Zk))))) (ZM (Zj (d:=(.bl false)) (by rfl) (by rfl))) Yx)
 (Zt (XQ (Ue (Ze (ZX Yl (Ze (Zd 1 (by rfl)) Zk)) Zk) VV) (YM 2 (by rfl) (by rfl)) (Zt (Yy (YR (Xb (Yq (XS (λ_ h=>h) T.isi_tuple (Zl ZD (Zd 0 (by rfl)) (Zd 2 (by rfl)))))) (Yk (Zl XA (Zl ZD (Zd 0 (by rfl)) (Zd 2 (by rfl))) (U0 (Ze (Zl ZD (Zd 1 (by rfl)) (Zd 2 (by rfl))) Zk))))) (ZM (Zj (d:=(.bl false)) (by rfl) (by rfl))) Yx)
 (XQ (XD (Zl ZD (Zd 0 (by rfl)) (Zd 2 (by rfl)))) (YM 3 (by rfl) (by rfl)) (Yy (YR (Xb (Yq (XS (λ_ h=>h) T.isi_tuple (Zd 3 (by rfl))))) (YR (Xb (Yq (XS (λ_ h=>h) T.isi_str (Zl ZD (Zd 3 (by rfl)) (Zj (d:=(.int 0)) (by rfl) (by rfl)))))) (Xb (Yq (ZE [] (by rfl) (Ze (Zl ZD (Zd 3 (by rfl)) (Zj (d:=(.int 1)) (by rfl) (by rfl))) Zk)))))) (ZM (Zj (d:=(.bl false)) (by rfl) (by rfl))) Yx))))
 (ZM (Zj (d:=(.bl true)) (by rfl) (by rfl)))))
theorem Zhx(T:Txt K mg t):FnOk P w K mg base CX0 3 t.a_QN t.d_QN ["found", "lead", "first", "ahead", "homes", "ways"] (spD ⟨t.c,K⟩ 6 QV):=by
 have G_QA:=(ZfM (P:=P) (w:=w) (base:=base) T).mono (k:=2) (by decide);have G_QG:=(ZfL (P:=P) (w:=w) (base:=base) T).mono (k:=2) (by decide);have G_QC:=(ZfR (P:=P) (w:=w) (base:=base) T).mono (k:=2) (by decide);have G_QB:=(Zhw (P:=P) (w:=w) (base:=base) T).mono (k:=2) (by decide);refine Z9 (φ:=f_QN) T.f_QN Zhf (by conv=>lhs;whnf) (by conv=>lhs;whnf) (λcdv A outer s H E hr => ?_) rfl rfl
 refine⟨_,(Zs (Yv (PW.pt (YO (Y8 (Y2 (ZP (XR (K:=K)) (by rfl) T.n_isinstance boot_isinstance (Zc (pv 0) (Zc (Jb (v:=.ref (t.c "Table")) (by rfl) T.g_Table (by rfl)) Zi))))) (YO (Y8 (Y2 (ZP (XR (K:=K)) (by rfl) T.n_isinstance boot_isinstance (Zc (YE (K:=K) (pv 0)) (Zc (X8 (v:=.ty "str") (by rfl) T.n_str boot_str rfl) Zi))))) (Xk (Yg (Xz (cA:=⟨t.c,K⟩) (hr.units)) (YE (K:=K) (pv 0)) (pv 1) (Yp _)))))) (Zv (ZJ X7)) Yu)
 (Zs (Yv (PW.pt (YO (Y8 (Y2 (ZC (G_QC) hr (by rfl) T.g_QC T.k_QC T.b_QC .nil Zy (Zc (YE (K:=K) (pv 0)) Zi)))) (YO (Y8 (Y2 (ZC (G_QC) hr (by rfl) T.g_QC T.k_QC T.b_QC .nil Zy (Zc (YE (K:=K) (pv 0)) Zi)))) (Xk (Y8 (Y2 (ZP (XR (K:=K)) (by rfl) T.n_isinstance boot_isinstance (Zc (YE (K:=K) (pv 0)) (Zc (X8 (v:=.ty "tuple") (by rfl) T.n_tuple boot_tuple rfl) Zi))))))))) (Zv (ZJ X7)) Yu)
 (Zs (Yv (PW.pt (YO (Yg (Xz (cA:=⟨t.c,K⟩) (hr.units)) (Y9 (Zc (YE (K:=K) (pv 0)) (Zc (YE (K:=K) (pv 0)) Zi))) (Y9 (Zc (pv 2) (Zc (pv 3) Zi))) (Yp _)) (Xk (Yg (Xz (cA:=⟨t.c,K⟩) (hr.units)) (YX (J6 (K:=K)) (by rfl) T.n_list boot_list (Zc (YE (K:=K) (pv 0)) Zi)) (pv 4) (Yp _))))) (Zv (ZJ X7)) Yu)
 (Zs (Yv (PW.pt (YO (Yg (Xz (cA:=⟨t.c,K⟩) (hr.units)) (QC (cA:=⟨t.c,K⟩) (tab:=Ur) (m:="signs") ⟨⟨t.a_QG,t.d_QG,["self"],T.cl_Table,T.me_Table_signs,G_QG,T.b_QG⟩,trivial⟩ hr (pv 0)) (ZP (Yj (K:=K)) (by rfl) T.n_len boot_len (Zc (ZA (ZB (K:=K)) (pv 5) Zo (λ_ _=>rfl)) Zi)) (Yp _)) (Xk (Yg (Xz (cA:=⟨t.c,K⟩) (hr.units)) (QC (cA:=⟨t.c,K⟩) (tab:=Uq) (m:="block_length") ⟨⟨t.a_QA,t.d_QA,["self"],T.cl_Table,T.me_Table_block_length,G_QA,T.b_QA⟩,trivial⟩ hr (pv 0)) (ZP (Yj (K:=K)) (by rfl) T.n_len boot_len (Zc (ZA (ZB (K:=K)) (ZA (ZB (K:=K)) (ZA (ZB (K:=K)) (pv 5) Zo (λ_ _=>rfl)) Zo (λ_ _=>rfl)) Zo (λ_ _=>rfl)) Zi)) (Yp _))))) (Zv (ZJ X7)) Yu)
 (Zv (ZJ (ZC (G_QB) hr (by rfl) T.g_QB T.k_QB T.b_QB .nil Zy (Zc (YE (K:=K) (pv 0)) (Zc (pv 5) Zi))))))))),[],?_⟩
 unfold f_QN;exact(Zt (Yy (YR (Xb (Yq (XS (λ_ h=>h) T.isi_Table (Zd 0 (by rfl))))) (YR (Xb (Yq (XS (λ_ h=>h) T.isi_str (YJ T.fl_lead (Zd 0 (by rfl)))))) (Yk (Zl XA (YJ T.fl_lead (Zd 0 (by rfl))) (Zd 1 (by rfl)))))) (ZM (Zj (d:=(.bl false)) (by rfl) (by rfl))) Yx)
 (Zt (Yy (YR (Xb (Yq (ZE [] (by rfl) (Ze (YJ T.fl_first (Zd 0 (by rfl))) Zk)))) (YR (Xb (Yq (ZE [] (by rfl) (Ze (YJ T.fl_ahead (Zd 0 (by rfl))) Zk)))) (Xb (Yq (XS (λ_ h=>h) T.isi_tuple (YJ T.fl_homes (Zd 0 (by rfl)))))))) (ZM (Zj (d:=(.bl false)) (by rfl) (by rfl))) Yx)
 (Zt (Yy (YR (Yk (Zl XA (VF.cl (Xd (Ze (YJ T.fl_first (Zd 0 (by rfl))) (Ze (YJ T.fl_ahead (Zd 0 (by rfl))) Zk)))) (VF.cl (Xd (Ze (Zd 2 (by rfl)) (Ze (Zd 3 (by rfl)) Zk)))))) (Yk (Zl XA (VF.cl (J7 (Or.inl rfl) (Ze (YJ T.fl_homes (Zd 0 (by rfl))) Zk))) (Zd 4 (by rfl))))) (ZM (Zj (d:=(.bl false)) (by rfl) (by rfl))) Yx)
 (Zt (Yy (YR (Yk (Zl XA (QD (Zd 0 (by rfl)) Zk) (ZX Yl (Ze (Zl ZD (Zd 5 (by rfl)) (Zj (d:=(.int 0)) (by rfl) (by rfl))) Zk)))) (Yk (Zl XA (QD (Zd 0 (by rfl)) Zk) (ZX Yl (Ze (Zl ZD (Zl ZD (Zl ZD (Zd 5 (by rfl)) (Zj (d:=(.int 0)) (by rfl) (by rfl))) (Zj (d:=(.int 0)) (by rfl) (by rfl))) (Zj (d:=(.int 0)) (by rfl) (by rfl))) Zk))))) (ZM (Zj (d:=(.bl false)) (by rfl) (by rfl))) Yx)
 (ZM (ZE [] (by rfl) (Ze (YJ T.fl_ways (Zd 0 (by rfl))) (Ze (Zd 5 (by rfl)) Zk))))))))
theorem Zhy(T:Txt K mg t):FnOk P w K mg base CX0 6 t.a_QZ t.d_QZ ["script"] (spD ⟨t.c,K⟩ 1 QW):=by
 have GM_QJ:=(ZfK (P:=P) (w:=w) (base:=base) T).mono (k:=4) (by decide);have G_QE:=(Zhs (P:=P) (w:=w) (base:=base) T).mono (k:=5) (by decide);have G_QN:=(Zhx (P:=P) (w:=w) (base:=base) T).mono (k:=5) (by decide);have G_QH:=(Zhv (P:=P) (w:=w) (base:=base) T).mono (k:=5) (by decide);have G_QM:=(Zhu (P:=P) (w:=w) (base:=base) T).mono (k:=5) (by decide)
 have G_QO:=(Zht (P:=P) (w:=w) (base:=base) T).mono (k:=5) (by decide);have G_QK:=(Zhr (P:=P) (w:=w) (base:=base) T).mono (k:=5) (by decide);have G_QL:=(Zhk (P:=P) (w:=w) (base:=base) T).mono (k:=5) (by decide);refine Z9 (φ:=f_QZ) T.f_QZ Zhg (by conv=>lhs;whnf) (by conv=>lhs;whnf) (λcdv A outer s H E hr => ?_) rfl rfl;refine⟨_,(Zs (ZN (i:=1) Y1 (by rfl) (by first|exact Or.inl rfl|exact Or.inr rfl) (ZL (Yb (K:=K)) Zo (ZL Vb (ZC (G_QE) hr (by rfl) T.g_QE T.k_QE T.b_QE .nil Zy (Zc (pv 0) (Zc Zo Zi))) Zo)))
 (Zs (ZN (i:=2) Y1 (by rfl) (by first|exact Or.inl rfl|exact Or.inr rfl) (ZL (Yb (K:=K)) Zo (ZL Vb (ZC (G_QE) hr (by rfl) T.g_QE T.k_QE T.b_QE .nil Zy (Zc (pv 0) (Zc Zo Zi))) Zo)))
 (Zs (ZN (i:=3) Y1 (by rfl) (by first|exact Or.inl rfl|exact Or.inr rfl) (ZL (Yb (K:=K)) Zo (ZL Vb (ZC (G_QE) hr (by rfl) T.g_QE T.k_QE T.b_QE .nil Zy (Zc (pv 0) (Zc Zo Zi))) Zo)))
 (Zs (ZN (i:=4) Y1 (by rfl) (by first|exact Or.inl rfl|exact Or.inr rfl) (ZC (G_QM) hr (by rfl) T.g_QM T.k_QM T.b_QM .nil Zy (Zc (ZL QE (ZC (G_QE) hr (by rfl) T.g_QE T.k_QE T.b_QE .nil Zy (Zc (pv 0) (Zc Zo Zi))) Zo) (Zc (ZL Vb (ZC (G_QE) hr (by rfl) T.g_QE T.k_QE T.b_QE .nil Zy (Zc (pv 0) (Zc Zo Zi))) Zo) Zi))))
 (Zs (ZN (i:=5) Y1 (by rfl) (by first|exact Or.inl rfl|exact Or.inr rfl) (ZL Vb (ZC (G_QE) hr (by rfl) T.g_QE T.k_QE T.b_QE .nil Zy (Zc (pv 0) (Zc Zo Zi))) (pv 1)))
 (Zs (ZN (i:=6) Y1 (by rfl) (by first|exact Or.inl rfl|exact Or.inr rfl) (ZC (G_QH) hr (by rfl) T.g_QH T.k_QH T.b_QH .nil Zy (Zc (ZC (G_QE) hr (by rfl) T.g_QE T.k_QE T.b_QE .nil Zy (Zc (pv 0) (Zc Zo Zi))) Zi)))
 (Zs (ZcB (i:=7) Y1 (by rfl) (by rfl) (by rfl) (CompSc.mk' (tn:=["k"]) (cn:=["script"]) (js:=[0]) (osc:=defScope Y6) (oN:=["script", "many", "n", "q", "lead", "first", "ahead", "homes", "ways", "place", "row", "sign", "cell", "handed", "table", "text"]) (by rfl) (by rfl) (by rfl) (by decide +kernel)) (V6 (by rfl) T.n_range (Zc (pv 1) Zi)) (λC s₂ H₂ fp=>Ye (i:=0) Zin) (λC s₂ H₂ fp=>XN) (λC s₂ H₂ fp=>(ZC (G_QH) hr (by rfl) T.g_QH T.k_QH T.b_QH .nil Zy (Zc (ZC (G_QE) hr (by rfl) T.g_QE T.k_QE T.b_QE .nil Zy (Zc (pv 1) (Zc (ZL (Yb (K:=K)) Zo (pv 0)) Zi))) Zi))))
 (Zs (ZN (i:=8) Y1 (by rfl) (by first|exact Or.inl rfl|exact Or.inr rfl) (Y9 Zi))
 (Zs ((XI PassesOwn.never (by rfl) (V6 (by rfl) T.n_range (Zc (pv 1) Zi)) (Ye (i:=9) Y1) (Zs (ZN (i:=10) Y1 (by rfl) (by first|exact Or.inl rfl|exact Or.inr rfl) (Y9 Zi))
 (Zs ((XI PassesOwn.never (by rfl) (V6 (by rfl) T.n_range (Zc (pv 2) Zi)) (Ye (i:=11) Y1) (Zs (ZN (i:=12) Y1 (by rfl) (by first|exact Or.inl rfl|exact Or.inr rfl) (ZC (G_QE) hr (by rfl) T.g_QE T.k_QE T.b_QE .nil Zy (Zc (pv 0) (Zc (ZL (Yb (K:=K)) (ZL (Yb (K:=K)) Zo (ZL (Zeg (K:=K)) (pv 9) (pv 2))) (pv 11)) Zi))))
 (Zv (Xl (YF (K:=K) PySem.F.plainAttrs_list PySem.F.slot_list_append PySem.F.type_list_append Xw (pv 10) (Zc (UT (Zc (ZC (G_QM) hr (by rfl) T.g_QM T.k_QM T.b_QM .nil Zy (Zc (ZL QE (pv 12) (pv 1)) (Zc (pv 3) Zi))) (Zc (ZL Vb (pv 12) (pv 1)) Zi))) Zi)))))))
 (Zv (Xl (YF (K:=K) PySem.F.plainAttrs_list PySem.F.slot_list_append PySem.F.type_list_append Xw (pv 8) (Zc (pv 10) Zi))))))))
 (Zs (ZN (i:=13) Y1 (by rfl) (by first|exact Or.inl rfl|exact Or.inr rfl) (UT (Zc (YX (J6 (K:=K)) (by rfl) T.n_list boot_list (Zc (pv 7) Zi)) (Zc (VD (by rfl) (CompSc.mk' (tn:=["row"]) (cn:=[]) (js:=[]) (osc:=defScope Y6) (oN:=["script", "many", "n", "q", "lead", "first", "ahead", "homes", "ways", "place", "row", "sign", "cell", "handed", "table", "text"]) (by rfl) (by rfl) (by rfl) (by decide +kernel)) (Xx (K:=K) (pv 8)) (λC s₂ H₂ fp=>Ye (i:=0) Zio) (λC s₂ H₂ fp=>XN) (λC s₂ H₂ fp=>(YX (J6 (K:=K)) (by rfl) T.n_list boot_list (Zc (pv 0) Zi)))) Zi))))
 (Zs (ZN (i:=14) Y1 (by rfl) (by first|exact Or.inl rfl|exact Or.inr rfl) (Zcq T.mk_Table (GM_QJ) hr (by rfl) T.g_Table T.b_QJ .nil Zy (Zc (pv 4) (Zc (pv 5) (Zc (pv 6) (Zc (ZA (ZB (K:=K)) (pv 13) Zo (λ_ _=>rfl)) (Zc (ZA (ZB (K:=K)) (pv 13) Zo (λ_ _=>rfl)) Zi)))))))
 (Zs (Zd0 (ZL (Yb (K:=K)) Zo (ZA (ZB (K:=K)) (pv 7) Zo (λ_ _=>rfl))) (ZdZ (ZA (ZB (K:=K)) (pv 13) Zo (λ_ _=>rfl)) Zo Zbp))
 (Zs (Zd0 (UT (Zc (ZL (Zeg (K:=K)) (ZV [98] (by decide +kernel)) (pv 3)) (Zc (ZL Zd1 (pv 1) Zo) Zi))) (ZdZ (ZA (ZB (K:=K)) (ZA (ZB (K:=K)) (pv 13) Zo (λ_ _=>rfl)) Zo (λ_ _=>rfl)) Zo Zbp))
 (Zs (ZN (i:=15) Y1 (by rfl) (by first|exact Or.inl rfl|exact Or.inr rfl) (ZC (G_QL) hr (by rfl) T.g_QL T.k_QL T.b_QL .nil Zy (Zc (pv 14) Zi)))
 (Zs (Yv (PW.pt (YO (Y8 (Y2 (ZP (XR (K:=K)) (by rfl) T.n_isinstance boot_isinstance (Zc (pv 15) (Zc (X8 (v:=.ty "str") (by rfl) T.n_str boot_str rfl) Zi))))) (Xk (Yg (Xz (cA:=⟨t.c,K⟩) (hr.units)) (pv 15) (ZC (G_QO) hr (by rfl) T.g_QO T.k_QO T.b_QO .nil Zy (Zc (pv 4) (Zc (pv 5) (Zc (pv 6) (Zc (pv 7) (Zc (pv 8) Zi)))))) (Yp _))))) (Zv (ZJ X7)) Yu)
 (Zv (ZJ (ZC (G_QN) hr (by rfl) T.g_QN T.k_QN T.b_QN .nil Zy (Zc (ZC (G_QK) hr (by rfl) T.g_QK T.k_QK T.b_QK .nil Zy (Zc (pv 15) Zi)) (Zc (pv 4) (Zc (pv 5) (Zc (pv 6) (Zc (pv 7) (Zc (pv 8) Zi)))))))))))))))))))))))),[],?_⟩
 unfold f_QZ;exact(Zt (show VS _ _ [] _ _ _ _ from(Z1 1 (Zl Yo (Zj (d:=(.int 1)) (by rfl) (by rfl)) (Zl Ve (ZE [] (by rfl) (Ze (Zd 0 (by rfl)) (Ze (Zj (d:=(.int 0)) (by rfl) (by rfl)) Zk))) (Zj (d:=(.int 6)) (by rfl) (by rfl)))) (by rfl) (by rfl) (by rfl) (by rfl)))
 (Zt (show VS _ _ [] _ _ _ _ from(Z1 2 (Zl Yo (Zj (d:=(.int 1)) (by rfl) (by rfl)) (Zl Ve (ZE [] (by rfl) (Ze (Zd 0 (by rfl)) (Ze (Zj (d:=(.int 1)) (by rfl) (by rfl)) Zk))) (Zj (d:=(.int 4)) (by rfl) (by rfl)))) (by rfl) (by rfl) (by rfl) (by rfl)))
 (Zt (show VS _ _ [] _ _ _ _ from(Z1 3 (Zl Yo (Zj (d:=(.int 1)) (by rfl) (by rfl)) (Zl Ve (ZE [] (by rfl) (Ze (Zd 0 (by rfl)) (Ze (Zj (d:=(.int 2)) (by rfl) (by rfl)) Zk))) (Zj (d:=(.int 4)) (by rfl) (by rfl)))) (by rfl) (by rfl) (by rfl) (by rfl)))
 (Zt (show VS _ _ [] _ _ _ _ from(Z1 4 (ZE [] (by rfl) (Ze (Zl QF (ZE [] (by rfl) (Ze (Zd 0 (by rfl)) (Ze (Zj (d:=(.int 3)) (by rfl) (by rfl)) Zk))) (Zj (d:=(.int 7)) (by rfl) (by rfl))) (Ze (Zl Ve (ZE [] (by rfl) (Ze (Zd 0 (by rfl)) (Ze (Zj (d:=(.int 3)) (by rfl) (by rfl)) Zk))) (Zj (d:=(.int 7)) (by rfl) (by rfl))) Zk))) (by rfl) (by rfl) (by rfl) (by rfl)))
 (Zt (show VS _ _ [] _ _ _ _ from(Z1 5 (Zl Ve (ZE [] (by rfl) (Ze (Zd 0 (by rfl)) (Ze (Zj (d:=(.int 4)) (by rfl) (by rfl)) Zk))) (Zd 1 (by rfl))) (by rfl) (by rfl) (by rfl) (by rfl)))
 (Zt (show VS _ _ [] _ _ _ _ from(Z1 6 (ZE [] (by rfl) (Ze (ZE [] (by rfl) (Ze (Zd 0 (by rfl)) (Ze (Zj (d:=(.int 5)) (by rfl) (by rfl)) Zk))) Zk)) (by rfl) (by rfl) (by rfl) (by rfl)))
 (Zt (show VS _ _ [] _ _ _ _ from(Z1 7 (VF.cl (Vd (by rfl) (Ue (Ze (Zd 1 (by rfl)) Zk) VV) (YM 0 (by rfl) (by rfl)) XO (ZE [] (by rfl) (Ze (ZE [] (by rfl) (Ze (Zd 1 (by rfl)) (Ze (Zl Yo (Zj (d:=(.int 6)) (by rfl) (by rfl)) (Zd 0 (by rfl))) Zk))) Zk)))) (by rfl) (by rfl) (by rfl) (by rfl)))
 (Zt (show VS _ _ [8] _ _ _ _ from(Ud 8 (Xd Zk) (by rfl) (by rfl) (by rfl) (by rfl)))
 (Zt (XQ (Ue (Ze (Zd 1 (by rfl)) Zk) VV) (YM 9 (by rfl) (by rfl)) (Zt (show VS _ _ [8,10] _ _ _ _ from(Ud 10 (Xd Zk) (by rfl) (by rfl) (by rfl) (by rfl)))
 (Zt (XQ (Ue (Ze (Zd 2 (by rfl)) Zk) VV) (YM 11 (by rfl) (by rfl)) (Zt (show VS _ _ [8,10] _ _ _ _ from(Z1 12 (ZE [] (by rfl) (Ze (Zd 0 (by rfl)) (Ze (Zl Yo (Zl Yo (Zj (d:=(.int 12)) (by rfl) (by rfl)) (Zl ZcD (Zd 9 (by rfl)) (Zd 2 (by rfl)))) (Zd 11 (by rfl))) Zk))) (by rfl) (by rfl) (by rfl) (by rfl)))
 (XC 10 (by rfl) (Qy (Ze (ZE [] (by rfl) (Ze (Zl QF (Zd 12 (by rfl)) (Zd 1 (by rfl))) (Ze (Zd 3 (by rfl)) Zk))) (Ze (Zl Ve (Zd 12 (by rfl)) (Zd 1 (by rfl))) Zk))))))
 (VS.frz (ow1:=[8]) 10 (XC 8 (by rfl) (Zd 10 (by rfl))) (by rfl) (by rfl) (by rfl) (by rfl)))))
 (VS.frz (ow1:=[]) 8 (ZdL (ow:=[]) 13 14 (by decide) (by rfl) (by rfl) (by rfl) (by rfl) (J7 (Or.inl rfl) (Ze (Zd 7 (by rfl)) Zk)) (Zdl (by rfl) (XD (Zd 8 (by rfl))) (YM 0 (by rfl) (by rfl)) XO (J7 (Or.inl rfl) (Ze (Zd 0 (by rfl)) Zk))) (ZcA (c:="Table") [] (by rfl) (Ze (Zd 4 (by rfl)) (Ze (Zd 5 (by rfl)) (Ze (Zd 6 (by rfl)) (Ze (Zl ZD (Zd 13 (by rfl)) (Zj (d:=(.int 0)) (by rfl) (by rfl))) (Ze (Zl ZD (Zd 13 (by rfl)) (Zj (d:=(.int 1)) (by rfl) (by rfl))) Zk)))))) (Zl Yo (Zj (d:=(.int 1)) (by rfl) (by rfl)) (Zl ZD (Zd 7 (by rfl)) (Zj (d:=(.int 0)) (by rfl) (by rfl)))) (Qy (Ze (Zl ZcD (Zj (d:=(.str [98])) (by rfl) (by rfl)) (Zd 3 (by rfl))) (Ze (Zl Zea (Zd 1 (by rfl)) (Zj (d:=(.int 1)) (by rfl) (by rfl))) Zk)))
 (Zt (show VS _ _ [] _ _ _ _ from(Z1 15 (ZE [] (by rfl) (Ze (Zd 14 (by rfl)) Zk)) (by rfl) (by rfl) (by rfl) (by rfl)))
 (Zt (Yy (YR (Xb (Yq (XS (λ_ h=>h) T.isi_str (Zd 15 (by rfl))))) (Yk (Zl XA (Zd 15 (by rfl)) (ZE [] (by rfl) (Ze (Zd 4 (by rfl)) (Ze (Zd 5 (by rfl)) (Ze (Zd 6 (by rfl)) (Ze (Zd 7 (by rfl)) (Ze (Zd 8 (by rfl)) Zk))))))))) (ZM (Zj (d:=(.bl false)) (by rfl) (by rfl))) Yx)
 (ZM (ZE [] (by rfl) (Ze (ZE [] (by rfl) (Ze (Zd 15 (by rfl)) Zk)) (Ze (Zd 4 (by rfl)) (Ze (Zd 5 (by rfl)) (Ze (Zd 6 (by rfl)) (Ze (Zd 7 (by rfl)) (Ze (Zd 8 (by rfl)) Zk))))))))))) (by rfl) (by rfl) (by rfl) (by rfl)))))))))))
end
end K49
namespace K49
open DL L2
theorem V3(ns:List Int)(k:Nat):Z6 [.lst (ns.map D.int),.int k]=some (.int (ns.getD k 0)):=by
 by_cases h:k<ns.length
 · have hz : atI (ns.map D.int) (k : Int) = some (.int (ns.getD k 0)) := by
    refine UV ?_;rw [List.getElem?_map,List.getElem?_eq_getElem h,List.getD_eq_getElem?_getD,List.getElem?_eq_getElem h];rfl
   simp [Z6,f_QE,h,hz,DL.run,DL.runI,Zh,sIf,Zq,Zfz,sNext,Zp,ZfA,YZ,ZfB,sNever,xB,bD,ZW,Xc,xOr,Za,eC,eOp,VP,eOr,UC,eIf,YH,XB,Ub,Zec,eUn,ZhZ,eNil,Zb,ZU,YY,eCB,lenD,Zh0,Zh1,Zm,XT,YU,Zw,eSl,xP,xNoP,addD,subD,ZhX,Zfx,ZhY,YL,ixD,isD,eBM,Z8,UH,kind,plainKinds,Zbd,Ui,ZcI,Zcd,Zce,Zcf,Uj,U7,Zej,Zek,Zel,List.lookup,UR,CMul,PySem.sizeLine_eq,List.replicate]
 · have hz:ns.getD k 0=0:=by rw [List.getD_eq_getElem?_getD,List.getElem?_eq_none (by omega)];rfl
   simp [Z6,f_QE,h,hz,DL.run,DL.runI,Zh,sIf,Zq,Zfz,sNext,Zp,ZfA,YZ,ZfB,sNever,xB,bD,ZW,Xc,xOr,Za,eC,eOp,VP,eOr,UC,eIf,YH,XB,Ub,Zec,eUn,ZhZ,eNil,Zb,ZU,YY,eCB,lenD,Zh0,Zh1,Zm,XT,YU,Zw,eSl,xP,xNoP,addD,subD,ZhX,Zfx,ZhY,YL,ixD,isD,eBM,Z8,UH,kind,plainKinds,Zbd,Ui,ZcI,Zcd,Zce,Zcf,Uj,U7,Zej,Zek,Zel,List.lookup,UR,CMul,PySem.sizeLine_eq,List.replicate]
theorem Us(i:Int){m:Nat}(h:0<m):∃a:Nat,modW (.int i) (.int (m:Int))=some (.int (a:Int))/\a<m:=by
 obtain⟨h1,h2⟩:=ZeU (a:=i) (b:=(m:Int)) (by omega);obtain⟨a,ha⟩:=Zgm h1;exact⟨a,by rw [ZeT (by omega),ha],by omega⟩
abbrev nD(a:Nat):D := .int (a:Int)
theorem V4{α:Type}{γ:D->DL.Env->Option DL.Env}{ε:DL.Env->Option D}{δ0:DL.Env}(g f:α->D):∀(xs:List α),(∀x∈xs,∃δ1,γ (g x) δ0=some δ1/\ε δ1=some (f x))->Yn γ (λ_=>some true) ε δ0 (xs.map g)=some (xs.map f)
 | [],_=>rfl
 |x::xs,h=>by
  obtain⟨δ1,h1,h2⟩:=h x List.mem_cons_self;have ih:=V4 g f xs λy hy=>h y (List.mem_cons_of_mem _ hy)
  rw [List.map_cons,List.map_cons];unfold Yn;rw [h1];dsimp only;rw [h2,ih]
structure Num(n:Nat)(w:List Nat):Prop where
 ne:w≠[]
 fig:∀c∈w,48<=c/\c<=57
 val:Uy w=n
 ld:0<n->w.head? ≠ some 48
 z0:n=0->w.length=1
theorem ZaA:∀d,d<10->(Nat.digitChar d).toNat=48+d:=by decide
theorem Zb8{n:Nat}(h:n<10):Zf n=[48+n]:=by
 unfold Zf;rw [Nat.toDigits_of_lt_base h,List.map_cons,List.map_nil,ZaA n h]
theorem ZdO{n:Nat}(h:10<=n):Zf n=Zf (n / 10)++[48+n % 10]:=by
 unfold Zf;rw [Nat.toDigits_of_base_le (by decide) h,List.map_append,List.map_cons,List.map_nil,ZaA (n % 10) (by omega)]
theorem ZbJ(n:Nat):Num n (Zf n):=by
 induction n using Nat.strongRecOn with
 |ind n ih=>
  by_cases h:n<10
  · rw [Zb8 h]
    refine⟨by simp,λc hc => ?_,?_,λh0 z => ?_,λ_=>rfl⟩
    · rw [List.mem_singleton.mp hc];omega
    · show 0*10+(48+n-48)=n
      omega
    · have z:48+n=48:=Option.some.inj z
      omega
  · have i:=ih (n / 10) (by omega)
    rw [ZdO (by omega)];refine⟨by simp,λc hc => ?_,?_,λ_ z => ?_,λz=>by omega⟩
    · rcases List.mem_append.mp hc with z|z
      · exact i.fig c z
      · rw [List.mem_singleton.mp z];omega
    · have hv:=i.val
      unfold Uy at hv ⊢;rw [List.foldl_append,hv];show n / 10*10+(48+n % 10-48)=n;omega
    · have hne:=i.ne
      cases hw:Zf (n / 10)with
      |nil=>exact hne hw
      |cons c r=>
       rw [hw]at z;have:=i.ld (by omega);rw [hw]at this;exact this z
theorem Xi{n:Nat}(h:n<1000000):(Zf n).length<=6:=by
 unfold Zf;rw [List.length_map];have e:(10:Nat) ^ 6=1000000:=by decide
 exact(Nat.length_toDigits_le_iff (b:=10) (k:=6) (by decide) (by decide)).mpr (by rw [e];exact h)
theorem Qe{n:Nat}(h:n<1000000):strD [nD n]=some (.str (Zf n)):=by
 unfold strD;dsimp only;rw [if_pos ⟨by omega,by omega⟩,Int.toNat_natCast]
theorem ZcN{n:Nat}(h:n<1000000):Y3 (nD n)=some (.str (Zf n)):=by
 unfold Y3;dsimp only;rw [if_pos ⟨by omega,by omega⟩,Int.toNat_natCast]
noncomputable def wiC:DL.Env->Option D:=Z5 (ZQ (Za 0)) (Zx 0) (λ_=>some true) (eOp (inD false) (Za 0) (eC (.str cs_FIGURES))) 1 []
theorem bools_of(f:Nat->Bool):∀w:List Nat,VR (w.map λc=>D.bl (f c))=some (w.map f)
 | []=>rfl
 |c::w=>by rw [List.map_cons,VR,bools_of f w];rfl
theorem Zen(cs:List Nat)(w:List Nat)(hl:w.length<=1000)(hw:∀c∈w,c∈cs){ε:DL.Env->Option D}{δ:DL.Env}(hε:ε δ=some (.str w)) :
 eCB (Uc λbs=>bs.all id) (Zb (Z5 (ZQ ε) (Zx 0) (λ_=>some true) (eOp (inD false) (Za 0) (eC (.str cs))) 1 []) eNil) δ=some (.bl true):=by
 have hc:Yn (Zx 0) (λ_=>some true) (eOp (inD false) (Za 0) (eC (.str cs))) [none] (w.map λc=>D.str [c])=some (w.map λc=>D.bl true):=by
  refine V4 (λc=>D.str [c]) (λ_=>D.bl true) w λc hcw=>⟨_,rfl,(Zn rfl rfl).trans ?_⟩
  show some (D.bl (false != decide (c∈cs)))=_;rw [decide_eq_true (hw c hcw)];rfl
 have hi:ZQ ε δ=some (w.map λc=>D.str [c]):=by unfold ZQ;rw [hε]
 rw [Z0 (Zg (V0 hi rfl hc (by rw [List.length_map];omega)) nil_of)];unfold Uc;dsimp only;rw [bools_of (λ_=>true)];dsimp only;rw [List.all_map]
 congr 2
 exact List.all_eq_true.mpr λ_ _=>rfl
noncomputable def wi1:DL.Env->Option Out:=(sIf (xOr (xB (eOp (YL λi j=>decide (i<j)) (eCB lenD (Zb (Za 0) eNil)) (eC (.int 1)))) (xB (eOp (YL λi j=>decide (j<i)) (eCB lenD (Zb (Za 0) eNil)) (Za 1)))) (Zq (eC .non)) sNext)
noncomputable def wi2:DL.Env->Option Out:=(sIf (ZW (xB (eCB (Uc λbs=>bs.all id) (Zb wiC eNil)))) (Zq (eC .non)) sNext)
noncomputable def wi3:DL.Env->Option Out:=(sIf (Xc (xB (eOp (YL λi j=>decide (j<i)) (eCB lenD (Zb (Za 0) eNil)) (eC (.int 1)))) (xB (eOp eqD (eOp ixD (Za 0) (eC (.int 0))) (eC (.str [48]))))) (Zq (eC .non)) sNext)
theorem Zhz:f_QR=Zh wi1 (Zh wi2 (Zh wi3 (Zq (eCB intD (Zb (Za 0) eNil))))):=rfl
theorem Zgn{c:Nat}(h:48<=c/\c<=57):c∈cs_FIGURES:=by
 have:∀d,d<10->48+d∈cs_FIGURES:=by decide
 have:=this (c-48) (by omega)
 rwa [show 48+(c-48)=c by omega]at this
theorem ZeW{c:Nat}(h:48<=c/\c<=57):V9 c=true:=by
 have:∀d,d<10->V9 (48+d)=true:=by decide
 have:=this (c-48) (by omega)
 rwa [show 48+(c-48)=c by omega]at this
theorem whole_in{n:Nat}(hn:n<1000000):Uo [.str (Zf n),.int 6]=some (nD n):=by
 have N:=ZbJ n;have hl:=Xi hn;generalize Zf n=w at *
 obtain⟨c,r,rfl⟩:∃c r,w=c::r:=by
  cases w with
  |nil=>exact(N.ne rfl).elim
  |cons c r=>exact⟨c,r,rfl⟩
 have hlen:eCB lenD (Zb (Za 0) eNil) [some (.str (c::r)),some (.int 6)]=some (.int ((c::r).length:Int)):=(Z0 (Zg (x:=.str (c::r)) rfl nil_of)).trans (len_str (by omega))
 have t1:wi1 [some (.str (c::r)),some (.int 6)]=some (.nx [some (.str (c::r)),some (.int 6)]):=by
  refine(YA (YV (ZH ((Zn hlen rfl).trans (show _=some (D.bl false)from ?_))) (ZH ((Zn hlen rfl).trans (show _=some (D.bl false)from ?_))))).trans rfl
  · show some (D.bl (decide (((c::r).length:Int)<1)))=_
    rw [decide_eq_false (by rw [List.length_cons];omega)]
  · show some (D.bl (decide ((6:Int)<((c::r).length:Int))))=_
    rw [decide_eq_false (by omega)]
 have t2:wi2 [some (.str (c::r)),some (.int 6)]=some (.nx [some (.str (c::r)),some (.int 6)]):=
  (YA (Xg (b:=true) (ZH (Zen cs_FIGURES (c::r) (by omega) (λd hd=>Zgn (N.fig d hd)) rfl)))).trans rfl
 have t3:wi3 [some (.str (c::r)),some (.int 6)]=some (.nx [some (.str (c::r)),some (.int 6)]):=by
  have e1:eOp (YL λi j=>decide (j<i)) (eCB lenD (Zb (Za 0) eNil)) (eC (.int 1)) [some (.str (c::r)),some (.int 6)]=some (.bl (decide ((1:Int)<((c::r).length:Int)))):=(Zn hlen rfl).trans rfl;have e2:eOp eqD (eOp ixD (Za 0) (eC (.int 0))) (eC (.str [48])) [some (.str (c::r)),some (.int 6)]=some (.bl (decide ([c]=[48]))):=(Zn (x:=.str [c]) ((Zn (x:=.str (c::r)) (y:=nD 0) rfl rfl).trans (ix_str rfl (by omega))) rfl).trans (Ui _ _)
  by_cases h1:(1:Int)<((c::r).length:Int)
  · rw [decide_eq_true h1]at e1
    have hc:¬ [c]=[48]:=λz=>by
     have z:c=48:=by injection z
     subst z;have hn0:¬0<n:=λh0=>N.ld h0 rfl
     have:=N.z0 (by omega);omega
    rw [decide_eq_false hc]at e2;exact(YA (ZaE (ZH e1) (ZH e2))).trans rfl
  · rw [decide_eq_false h1]at e1
    exact(YA (ZeS (ZH e1))).trans rfl
 refine Yc (δ:=[some (.str (c::r)),some (.int 6)]) rfl ?_;rw [Zhz,Zu t1,Zu t2,Zu t3];refine Yz ((Z0 (Zg (x:=.str (c::r)) rfl nil_of)).trans ?_);show(if(c::r).length<=640/\(c::r)≠[]/\(c::r).all V9=true then some (D.int (Uy (c::r):Nat))else none)=_;rw [if_pos ⟨by omega,by simp,List.all_eq_true.mpr λd hd=>ZeW (N.fig d hd)⟩,N.val]
end K49
namespace K49
open DL L2
def Zr(nm:List Nat)(ws:List (List Nat)):List Nat:=Yw [32] (nm::ws)
abbrev Ys:List Nat:=[116,97,98,108,101]
abbrev LEAD:List Nat:=[108,101,97,100]
abbrev YB:List Nat:=[102,105,114,115,116]
abbrev YK:List Nat:=[112,108,97,99,101]
abbrev WAY:List Nat:=[119,97,121]
theorem QX(c:Nat):∀l:List (List Nat),(Yw [c] l).length<=(l.map List.length).sum+l.length
 | []=>Nat.le_refl _
 | [x]=>by simp [Yw]
 |x::y::r=>by
  have:=QX c (y::r);rw [Yw,List.length_append,List.length_append];simp only [List.map_cons,List.sum_cons,List.length_cons,List.length_nil]at this ⊢;omega
theorem Zch{m:Nat}:∀{l:List (List Nat)},(∀r∈l,r.length<=m)->(l.map List.length).sum<=m*l.length
 | [],_=>Nat.le_refl _
 |x::l,h=>by
  have ih:=Zch (l:=l) λr hr=>h r (List.mem_cons_of_mem _ hr)
  have:=h x List.mem_cons_self;rw [List.map_cons,List.sum_cons,List.length_cons,Nat.mul_add];omega
theorem ZbK{c:Nat}:∀{l:List (List Nat)}{s:List Nat},c∈Yw s l->c∈s\/∃w∈l,c∈w
 | [],_,h=>nomatch h
 | [x],_,h => .inr ⟨x,List.mem_cons_self,h⟩
 |x::y::r,s,h=>by
  rw [Yw]at h;rcases List.mem_append.mp h with h|h
  · rcases List.mem_append.mp h with h|h
    · exact .inr ⟨x,List.mem_cons_self,h⟩
    · exact .inl h
  · rcases ZbK h with z|⟨w,h1,h2⟩
    · exact .inl z
    · exact .inr ⟨w,List.mem_cons_of_mem _ h1,h2⟩
structure Wd1(w:List Nat):Prop where
 ln:w.length<=8
 cd:∀c∈w,48<=c/\c<=122
theorem Wd1.no{w:List Nat}(h:Wd1 w){c:Nat}(hc:c<48):c∉w:=λz=>by
 have:=h.cd c z;omega
theorem Xj{n:Nat}(h:n<1000000):Wd1 (Zf n):=⟨Nat.le_trans (Xi h) (by decide),λc hc=>by
 have:=(ZbJ n).fig c hc;omega⟩
theorem wd_names:Wd1 Ys/\Wd1 LEAD/\Wd1 YB/\Wd1 YK/\Wd1 WAY:=⟨⟨by decide,by decide⟩,⟨by decide,by decide⟩,⟨by decide,by decide⟩,⟨by decide,by decide⟩,⟨by decide,by decide⟩⟩
theorem ZcO{nm:List Nat}{ws:List (List Nat)}(h:∀w∈nm::ws,Wd1 w)(hl:ws.length<=4):(Zr nm ws).length<=45:=by
 have h1:=QX 32 (nm::ws);have h2:=Zch (m:=8) (l:=nm::ws) λr hr=>(h r hr).ln
 unfold Zr;rw [List.length_cons]at h1 h2;omega
theorem Zgo{nm:List Nat}{ws:List (List Nat)}(h:∀w∈nm::ws,Wd1 w):10∉Zr nm ws:=λz=>by
 rcases ZbK z with z|⟨w,h1,h2⟩
 · exact absurd (List.mem_singleton.mp z) (by decide)
 · exact(h w h1).no (by decide) h2
noncomputable def wb1:DL.Env->Option Out:=(Zp 3 (eBM splitD (Za 0) (Zb (eC (.str [32])) eNil)))
noncomputable def wb2:DL.Env->Option Out:=(sIf (xOr (xB (eOp neD (eOp ixD (Za 3) (eC (.int 0))) (Za 1))) (xB (eOp neD (eCB lenD (Zb (Za 3) eNil)) (eOp addX (Za 2) (eC (.int 1)))))) (Zq (eC .non)) sNext)
theorem ZhA:f_QD=Zh wb1 (Zh wb2 (Zq (eSl (Za 3) (xP (eC (.int 1))) xNoP))):=rfl
theorem ZaG{nm:List Nat}{ws:List (List Nat)}(h:∀w∈nm::ws,Wd1 w)(hl:ws.length<=4)(k:Nat)(hk:ws.length=k):Xh [.str (Zr nm ws),.str nm,nD k]=some (.lst (ws.map D.str)):=by
 have hrl:=ZcO h hl
 have t1:wb1 [some (.str (Zr nm ws)),some (.str nm),some (nD k),none]=some (.nx [some (.str (Zr nm ws)),some (.str nm),some (nD k),some (.lst ((nm::ws).map D.str))]):=by
  refine ZO ((UL (s:=Zr nm ws) rfl (Zg (x:=.str [32]) rfl nil_of)).trans ?_);show(if(Zr nm ws).length+2<=PySem.sizeLine then some (D.lst ((Z2 32 (Zr nm ws)).map D.str))else none)=_;rw [if_pos (by rw [PySem.sizeLine_eq];omega)];unfold Zr;rw [JD 32 (nm::ws) (by simp) λp hp=>(h p hp).no (by decide)]
 have t2:wb2 [some (.str (Zr nm ws)),some (.str nm),some (nD k),some (.lst ((nm::ws).map D.str))]=some (.nx [some (.str (Zr nm ws)),some (.str nm),some (nD k),some (.lst ((nm::ws).map D.str))]):=by
  have e1:eOp neD (eOp ixD (Za 3) (eC (.int 0))) (Za 1) [some (.str (Zr nm ws)),some (.str nm),some (nD k),some (.lst ((nm::ws).map D.str))]=some (.bl false):=by
   refine(Zn (x:=.str nm) (y:=.str nm) ((Zn (x:=.lst ((nm::ws).map D.str)) (y:=nD 0) rfl rfl).trans (Yr rfl)) rfl).trans ?_;rw [U7,decide_eq_true rfl];rfl
  have e2:eOp neD (eCB lenD (Zb (Za 3) eNil)) (eOp addX (Za 2) (eC (.int 1))) [some (.str (Zr nm ws)),some (.str nm),some (nD k),some (.lst ((nm::ws).map D.str))]=some (.bl false):=by
   refine(Zn (x:=.int (((nm::ws).map D.str).length:Int)) (y:=.int ((k:Int)+1)) ((Z0 (Zg (x:=.lst ((nm::ws).map D.str)) rfl nil_of)).trans Um) ((Zn (x:=nD k) (y:=.int 1) rfl rfl).trans (add_int _ _))).trans ?_;rw [Uj,decide_eq_true (by rw [List.length_map,List.length_cons];omega)];rfl
  exact(YA (YV (ZH e1) (ZH e2))).trans rfl
 refine Yc (δ:=[some (.str (Zr nm ws)),some (.str nm),some (nD k),none]) rfl ?_;rw [ZhA,Zu t1,Zu t2];refine Yz ?_;show some (D.lst (cutL ((nm::ws).map D.str) (some ((1:Nat):Int)) none))=_;rw [Zdx];rfl
theorem Za0{w:List Nat}(h1:0<w.length)(h2:w.length<=100)(h3:∀c∈w,c∈cs_MARK_SIGNS):UN [.str w]=some (.bl true):=by
 refine Yc (δ:=[some (.str w)]) rfl (Yz (ZcJ ?_ (Zen cs_MARK_SIGNS w (by omega) h3 rfl)));refine(Zn (x:=.int (w.length:Int)) (y:=.int 0) ((Z0 (Zg (x:=.str w) rfl nil_of)).trans (len_str (by omega))) rfl).trans ?_;show some (D.bl (decide ((0:Int)<(w.length:Int))))=_;rw [decide_eq_true (by omega)]
theorem ZdP{i:Nat}{δ:DL.Env}{n:Int}(h:Za i δ=some (.int n)):XB (Za i) δ=some (.bl true):=by unfold XB;rw [h];rfl
theorem ZeX{i:Nat}{δ:DL.Env}{n:Int}(h:Za i δ=some (.int n)):YH (Za i) δ=some (.bl false):=by unfold YH;rw [h];rfl
theorem ZdQ{i:Nat}{δ:DL.Env}{n:List D}(h:Za i δ=some (.lst n)):XB (Za i) δ=some (.bl true):=by unfold XB;rw [h];rfl
theorem QY{i:Nat}{δ:DL.Env}{n:List D}(h:Za i δ=some (.lst n)):YH (Za i) δ=some (.bl false):=by unfold YH;rw [h];rfl
theorem QZ{τ:DL.Env->Option Bool}{a b:DL.Env->Option D}{δ:DL.Env}(h:τ δ=some true):eIf τ a b δ=a δ:=by unfold eIf;rw [h]
theorem Q0{τ:DL.Env->Option Bool}{a b:DL.Env->Option D}{δ:DL.Env}(h:τ δ=some false):eIf τ a b δ=b δ:=by unfold eIf;rw [h]
theorem Zgp(a b:Nat):YL (λi j=>decide (i<j)) (nD a) (nD b)=some (.bl (decide (a<b))):=by
 show some (D.bl (decide ((a:Int)<(b:Int))))=_;rw [decide_eq_decide.mpr (show(a:Int)<(b:Int) ↔ a<b by omega)]
theorem Zao{p m:Nat}(hp:p<m)(hm:m<=6):U9 [.str (Zf p),nD m]=some (nD p):=by
 refine Yc (δ:=[some (.str (Zf p)),some (nD m),none]) rfl ?_;refine(Zu (δ':=[some (.str (Zf p)),some (nD m),some (nD p)]) (ZO ((ZI (n:=2) (Zg (x:=.str (Zf p)) rfl (Zg (x:=.int 6) rfl nil_of)) rfl).trans (whole_in (by omega))))).trans ?_;refine Yz ((QZ (ZaE (ZH (ZdP rfl)) (ZH ((Zn (x:=nD p) (y:=nD m) rfl rfl).trans ((Zgp p m).trans ?_))))).trans rfl);rw [decide_eq_true hp]
end K49
namespace K49
open DL L2
abbrev Pr:=List Nat×Nat
def prD(p:Pr):D := .tup [.str p.1,nD p.2]
def rowLD(ws:List Pr):D := .lst (ws.map prD)
def ZG(ws:List Pr):D := .tup (ws.map prD)
theorem ZcP:∀c∈cs_MARK_SIGNS,48<=c/\c<=122:=by decide
structure PrOk(q m:Nat)(p:Pr):Prop where
 ln:p.1.length=q
 cd:∀c∈p.1,c∈cs_MARK_SIGNS
 lt:p.2<m
theorem ZaH{w:List Nat}(h1:w.length<=8)(h2:∀c∈w,c∈cs_MARK_SIGNS):Wd1 w:=⟨h1,λc hc=>ZcP c (h2 c hc)⟩
noncomputable def hd1:DL.Env->Option Out:=(Zp 1 (Zm 3 Xh [] (Zb (Za 0) (Zb (eC (.str Ys)) (Zb (eC (.int 4)) eNil)))))
noncomputable def hd2:DL.Env->Option Out:=(sIf (xB (YH (Za 1))) (Zq (eC .non)) sNext)
noncomputable def hd3:DL.Env->Option Out:=(Zp 2 (Z5 (ZQ (Za 1)) (Zx 0) (λ_=>some true) (Zm 2 Uo [] (Zb (Za 0) (Zb (eC (.int 6)) eNil))) 1 []))
noncomputable def hd4:DL.Env->Option Out:=(sIf (xOr (xB (eOp (inD false) (eC .non) (Za 2))) (xB (eOp (inD false) (eC (.int 0)) (YY (Zb (eOp ixD (Za 2) (eC (.int 0))) (Zb (eOp ixD (Za 2) (eC (.int 1))) (Zb (eOp ixD (Za 2) (eC (.int 3))) eNil))))))) (Zq (eC .non)) sNext)
theorem ZeY:f_QT=Zh hd1 (Zh hd2 (Zh hd3 (Zh hd4 (Zq (Za 2))))):=rfl
def hdD(n q a m:Nat):D := .lst [nD n,nD q,nD a,nD m]
theorem ZeZ{n q m:Nat}(hn:0<n)(hq:0<q)(hm:0<m):inD false (.int 0) (.tup [nD n,nD q,nD m])=some (.bl false):=by
 show some (D.bl (((n:Int) == 0)||(((q:Int) == 0)||(((m:Int) == 0)||false))))=_;rw [beq_false_of_ne (show(n:Int)≠0 by omega),beq_false_of_ne (show(q:Int)≠0 by omega),beq_false_of_ne (show(m:Int)≠0 by omega)];rfl
theorem Ze0{n q a m:Nat}(hn:0<n)(hn2:n<1000000)(hq:0<q)(hq2:q<1000000)(ha:a<1000000)(hm:0<m)(hm2:m<1000000):QN [.str (Zr Ys [Zf n,Zf q,Zf a,Zf m])]=some (hdD n q a m):=by
 have hw:∀w∈Ys::[Zf n,Zf q,Zf a,Zf m],Wd1 w:=λw hw=>by
  simp only [List.mem_cons,List.not_mem_nil,or_false]at hw;rcases hw with rfl|rfl|rfl|rfl|rfl
  · exact wd_names.1
  · exact Xj hn2
  · exact Xj hq2
  · exact Xj ha
  · exact Xj hm2
 have t1:hd1 [some (.str (Zr Ys [Zf n,Zf q,Zf a,Zf m])),none,none]=some (.nx [some (.str (Zr Ys [Zf n,Zf q,Zf a,Zf m])),some (.lst ([Zf n,Zf q,Zf a,Zf m].map D.str)),none]):=
  ZO ((ZI (n:=3) (Zg (x:=.str (Zr Ys [Zf n,Zf q,Zf a,Zf m])) rfl (Zg (x:=.str Ys) rfl (Zg (x:=nD 4) rfl nil_of))) rfl).trans (ZaG hw (by simp) 4 rfl))
 have hc:Yn (Zx 0) (λ_=>some true) (Zm 2 Uo [] (Zb (Za 0) (Zb (eC (.int 6)) eNil))) [none] ([n,q,a,m].map λk=>D.str (Zf k))=some ([n,q,a,m].map nD):=by
  refine V4 (λk=>D.str (Zf k)) nD [n,q,a,m] λk hk=>⟨[some (.str (Zf k))],rfl,(ZI (n:=2) (Zg (x:=.str (Zf k)) rfl (Zg (x:=.int 6) rfl nil_of)) rfl).trans (whole_in ?_)⟩
  simp only [List.mem_cons,List.not_mem_nil,or_false]at hk;rcases hk with rfl|rfl|rfl|rfl<;>assumption
 have t3:hd3 [some (.str (Zr Ys [Zf n,Zf q,Zf a,Zf m])),some (.lst ([Zf n,Zf q,Zf a,Zf m].map D.str)),none]=some (.nx [some (.str (Zr Ys [Zf n,Zf q,Zf a,Zf m])),some (.lst ([Zf n,Zf q,Zf a,Zf m].map D.str)),some (hdD n q a m)]):=
  ZO (V0 (xs:=[n,q,a,m].map λk=>D.str (Zf k)) rfl rfl hc (by simp))
 generalize Zr Ys [Zf n,Zf q,Zf a,Zf m]=R at *;generalize hG:D.lst ([Zf n,Zf q,Zf a,Zf m].map D.str)=G at *
 have t2:hd2 [some (.str R),some G,none]=some (.nx [some (.str R),some G,none]):=by
  rw [<-hG];exact(YA (ZH (QY rfl))).trans rfl
 have ht:YY (Zb (eOp ixD (Za 2) (eC (.int 0))) (Zb (eOp ixD (Za 2) (eC (.int 1))) (Zb (eOp ixD (Za 2) (eC (.int 3))) eNil))) [some (.str R),some G,some (hdD n q a m)]=some (.tup [nD n,nD q,nD m]):=
  QH (Zg ((Zn (x:=hdD n q a m) (y:=nD 0) rfl rfl).trans (Yr rfl)) (Zg ((Zn (x:=hdD n q a m) (y:=nD 1) rfl rfl).trans (Yr rfl)) (Zg ((Zn (x:=hdD n q a m) (y:=nD 3) rfl rfl).trans (Yr rfl)) nil_of))) (by simp)
 have t4:hd4 [some (.str R),some G,some (hdD n q a m)]=some (.nx [some (.str R),some G,some (hdD n q a m)]):=
  (YA (YV (ZH ((Zn (x:=.non) (y:=hdD n q a m) rfl rfl).trans rfl)) (ZH ((Zn (x:=.int 0) rfl ht).trans (ZeZ hn hq hm))))).trans rfl
 refine Yc (δ:=[some (.str R),none,none]) rfl ?_;rw [ZeY,Zu t1,Zu t2,Zu t3,Zu t4];rfl
def YC(lead:List Nat):List Nat:=if lead=[]then LEAD else Zr LEAD [lead]
theorem Zci{nm w:List Nat}(h1:Wd1 nm)(h2:Wd1 w):Xh [.str (Zr nm [w]),.str nm,nD 1]=some (.lst [.str w]):=
 ZaG (ws:=[w]) (λx hx=>by
  simp only [List.mem_cons,List.not_mem_nil,or_false]at hx;rcases hx with rfl|rfl<;>assumption) (by simp) 1 rfl
noncomputable def le1:DL.Env->Option Out:=(sIf (xB (eOp eqD (Za 0) (eC (.str LEAD)))) (Zq (eC (.str []))) sNext)
noncomputable def le2:DL.Env->Option Out:=(Zp 1 (Zm 3 Xh [] (Zb (Za 0) (Zb (eC (.str LEAD)) (Zb (eC (.int 1)) eNil)))))
theorem ZcQ:f_QV=Zh le1 (Zh le2 (Zq (eIf (Xc (xB (XB (Za 1))) (xB (Zm 1 UN [] (Zb (eOp ixD (Za 1) (eC (.int 0))) eNil)))) (eOp ixD (Za 1) (eC (.int 0))) (eC .non)))):=rfl
theorem Ze1{lead:List Nat}(h1:lead.length<=6)(h2:∀c∈lead,c∈cs_MARK_SIGNS):QO [.str (YC lead)]=some (.str lead):=by
 unfold YC
 by_cases h:lead=[]
 · rw [if_pos h]
   subst h;refine Yc (δ:=[some (.str LEAD),none]) rfl ?_;rw [ZcQ];refine Zgj ((Zgk (ZH ((Zn (x:=.str LEAD) (y:=.str LEAD) rfl rfl).trans ?_))).trans rfl);rw [Ui,decide_eq_true rfl]
 · rw [if_neg h]
   have hne:Zr LEAD [lead]≠LEAD:=λz=>by
    have:=congrArg List.length z
    have e:(Zr LEAD [lead]).length=4+1+lead.length:=by
     show(LEAD++[32]++lead).length=_;rw [List.length_append];rfl
    rw [e]at this;have:4+1+lead.length=4:=this;omega
   have t1:le1 [some (.str (Zr LEAD [lead])),none]=some (.nx [some (.str (Zr LEAD [lead])),none]):=by
    refine(YA (ZH ((Zn (x:=.str (Zr LEAD [lead])) (y:=.str LEAD) rfl rfl).trans ?_))).trans rfl;rw [Ui,decide_eq_false hne]
   have t2:le2 [some (.str (Zr LEAD [lead])),none]=some (.nx [some (.str (Zr LEAD [lead])),some (.lst [.str lead])]):=
    ZO ((ZI (n:=3) (Zg (x:=.str (Zr LEAD [lead])) rfl (Zg (x:=.str LEAD) rfl (Zg (x:=nD 1) rfl nil_of))) rfl).trans (Zci wd_names.2.1 (ZaH (by omega) h2)))
   have e0:eOp ixD (Za 1) (eC (.int 0)) [some (.str (Zr LEAD [lead])),some (.lst [.str lead])]=some (.str lead):=(Zn (x:=.lst [.str lead]) (y:=nD 0) rfl rfl).trans (Yr rfl);refine Yc (δ:=[some (.str (Zr LEAD [lead])),none]) rfl ?_;rw [ZcQ,Zu t1,Zu t2];refine Yz ((QZ (ZaE (ZH (ZdQ rfl)) (ZH ((ZI (n:=1) (Zg e0 nil_of) rfl).trans (Za0 ?_ (by omega) h2))))).trans e0);cases lead with
   |nil=>exact(h rfl).elim
   |cons _ _=>exact Nat.succ_pos _
theorem ZdR{f m:Nat}(hf:f<m)(hm:m<=6):QP [.str (Zr YB [Zf f]),nD m]=some (nD f):=by
 have t1:Zp 2 (Zm 3 Xh [] (Zb (Za 0) (Zb (eC (.str YB)) (Zb (eC (.int 1)) eNil)))) [some (.str (Zr YB [Zf f])),some (nD m),none]=some (.nx [some (.str (Zr YB [Zf f])),some (nD m),some (.lst [.str (Zf f)])]):=
  ZO ((ZI (n:=3) (Zg (x:=.str (Zr YB [Zf f])) rfl (Zg (x:=.str YB) rfl (Zg (x:=nD 1) rfl nil_of))) rfl).trans (Zci wd_names.2.2.1 (Xj (by omega))))
 have e0:eOp ixD (Za 2) (eC (.int 0)) [some (.str (Zr YB [Zf f])),some (nD m),some (.lst [.str (Zf f)])]=some (.str (Zf f)):=(Zn (x:=.lst [.str (Zf f)]) (y:=nD 0) rfl rfl).trans (Yr rfl);refine Yc (δ:=[some (.str (Zr YB [Zf f])),some (nD m),none]) rfl ((Zu t1).trans (Yz ?_));exact(Q0 (ZH (QY rfl))).trans ((ZI (n:=2) (Zg e0 (Zg (x:=nD m) rfl nil_of)) rfl).trans (Zao hf hm))
theorem Ze2{h:Nat}(hh:h<1000000):QQ [.str (Zr YK [Zf h])]=some (nD h):=by
 have t1:Zp 1 (Zm 3 Xh [] (Zb (Za 0) (Zb (eC (.str YK)) (Zb (eC (.int 1)) eNil)))) [some (.str (Zr YK [Zf h])),none]=some (.nx [some (.str (Zr YK [Zf h])),some (.lst [.str (Zf h)])]):=
  ZO ((ZI (n:=3) (Zg (x:=.str (Zr YK [Zf h])) rfl (Zg (x:=.str YK) rfl (Zg (x:=nD 1) rfl nil_of))) rfl).trans (Zci wd_names.2.2.2.1 (Xj hh)))
 have e0:eOp ixD (Za 1) (eC (.int 0)) [some (.str (Zr YK [Zf h])),some (.lst [.str (Zf h)])]=some (.str (Zf h)):=(Zn (x:=.lst [.str (Zf h)]) (y:=nD 0) rfl rfl).trans (Yr rfl);refine Yc (δ:=[some (.str (Zr YK [Zf h])),none]) rfl ((Zu t1).trans (Yz ?_));exact(Q0 (ZH (QY rfl))).trans ((ZI (n:=2) (Zg e0 (Zg (x:=.int 6) rfl nil_of)) rfl).trans (whole_in hh))
def Yd(p:Pr):List Nat:=Zr WAY [p.1,Zf p.2]
noncomputable def wy1:DL.Env->Option Out:=(Zp 3 (Zm 3 Xh [] (Zb (Za 0) (Zb (eC (.str WAY)) (Zb (eC (.int 2)) eNil)))))
noncomputable def wy2:DL.Env->Option Out:=(sIf (xOr (xB (YH (Za 3))) (xOr (xB (eOp neD (eCB lenD (Zb (eOp ixD (Za 3) (eC (.int 0))) eNil)) (Za 1))) (ZW (xB (Zm 1 UN [] (Zb (eOp ixD (Za 3) (eC (.int 0))) eNil)))))) (Zq (eC .non)) sNext)
noncomputable def wy3:DL.Env->Option Out:=(Zp 4 (Zm 2 U9 [] (Zb (eOp ixD (Za 3) (eC (.int 1))) (Zb (Za 2) eNil))))
theorem Zgq:f_QY=Zh wy1 (Zh wy2 (Zh wy3 (Zq (eIf (xB (YH (Za 4))) (eC .non) (YY (Zb (eOp ixD (Za 3) (eC (.int 0))) (Zb (Za 4) eNil))))))):=rfl
theorem Zeo{q m:Nat}{p:Pr}(h:PrOk q m p)(hq:q<=4)(hm:m<=6):∀w∈WAY::[p.1,Zf p.2],Wd1 w:=λw hw=>by
 simp only [List.mem_cons,List.not_mem_nil,or_false]at hw;have:=h.lt;have:=h.ln;rcases hw with rfl|rfl|rfl
 · exact wd_names.2.2.2.2
 · exact ZaH (by omega) h.cd
 · exact Xj (by omega)
theorem Zgr{q m:Nat}{p:Pr}(h:PrOk q m p)(hq0:0<q)(hq:q<=4)(hm:m<=6):QR [.str (Yd p),nD q,nD m]=some (prD p):=by
 have hw:=Zeo h hq hm;have hln:=h.ln
 have t1:wy1 [some (.str (Yd p)),some (nD q),some (nD m),none,none]=some (.nx [some (.str (Yd p)),some (nD q),some (nD m),some (.lst [.str p.1,.str (Zf p.2)]),none]):=
  ZO ((ZI (n:=3) (Zg (x:=.str (Yd p)) rfl (Zg (x:=.str WAY) rfl (Zg (x:=nD 2) rfl nil_of))) rfl).trans (ZaG hw (by simp) 2 rfl))
 generalize Yd p=R at *;have e0:∀v4,eOp ixD (Za 3) (eC (.int 0)) [some (.str R),some (nD q),some (nD m),some (.lst [.str p.1,.str (Zf p.2)]),v4]=some (.str p.1):=λv4=>(Zn (x:=.lst [.str p.1,.str (Zf p.2)]) (y:=nD 0) rfl rfl).trans (Yr rfl)
 have e1:eOp ixD (Za 3) (eC (.int 1)) [some (.str R),some (nD q),some (nD m),some (.lst [.str p.1,.str (Zf p.2)]),none]=some (.str (Zf p.2)):=(Zn (x:=.lst [.str p.1,.str (Zf p.2)]) (y:=nD 1) rfl rfl).trans (Yr rfl)
 have t2:wy2 [some (.str R),some (nD q),some (nD m),some (.lst [.str p.1,.str (Zf p.2)]),none]=some (.nx [some (.str R),some (nD q),some (nD m),some (.lst [.str p.1,.str (Zf p.2)]),none]):=by
  refine(YA (YV (ZH (QY rfl)) (YV (ZH ((Zn (x:=.int (p.1.length:Int)) (y:=nD q) ((Z0 (Zg (e0 none) nil_of)).trans (len_str (by omega))) rfl).trans ?_)) (Xg (b:=true) (ZH ((ZI (n:=1) (Zg (e0 none) nil_of) rfl).trans (Za0 (by omega) (by omega) h.cd))))))).trans rfl;rw [Uj,decide_eq_true (by omega)];rfl
 have t3:wy3 [some (.str R),some (nD q),some (nD m),some (.lst [.str p.1,.str (Zf p.2)]),none]=some (.nx [some (.str R),some (nD q),some (nD m),some (.lst [.str p.1,.str (Zf p.2)]),some (nD p.2)]):=
  ZO ((ZI (n:=2) (Zg e1 (Zg (x:=nD m) rfl nil_of)) rfl).trans (Zao h.lt hm))
 refine Yc (δ:=[some (.str R),some (nD q),some (nD m),none,none]) rfl ?_;rw [Zgq,Zu t1,Zu t2,Zu t3];exact Yz ((Q0 (ZH (ZeX rfl))).trans (QH (Zg (e0 _) (Zg rfl nil_of)) (by simp)))
theorem Q1{RR:List (List Nat)}{j:Nat}{r:List Nat}(h:RR[j]? = some r):XX [.lst (RR.map D.str),nD (j+1)]=some (.str r):=by
 have hj:=(List.getElem?_eq_some_iff.mp h).1;refine Yc (δ:=[some (.lst (RR.map D.str)),some (nD (j+1))]) rfl (Yz ((QZ (ZH ((Zn (x:=nD (j+1)) (y:=.int ((RR.map D.str).length:Int)) rfl ((Z0 (Zg (x:=.lst (RR.map D.str)) rfl nil_of)).trans Um)).trans ?_))).trans ?_))
 · show some (D.bl (decide (((j+1:Nat):Int)<=((RR.map D.str).length:Int))))=_
   rw [decide_eq_true (by rw [List.length_map];omega)]
 · refine(Zn (x:=.lst (RR.map D.str)) (y:=nD j) rfl ((Zn (x:=nD (j+1)) (y:=.int 1) rfl rfl).trans ?_)).trans (Yr (by rw [List.getElem?_map,h];rfl))
   show some (D.int (((j+1:Nat):Int)-1))=_;rw [show((j+1:Nat):Int)-1=(j:Int) by omega]
theorem Qf{x y:D}(h:Ub y=false):Xv [x,y]=some y:=by
 have e:YH (Za 1) [some x,some y]=some (.bl false):=by
  show some (D.bl (Ub y))=_;rw [h]
 exact Yc (δ:=[some x,some y]) rfl ((Zu ((YA (ZH e)).trans rfl)).trans rfl)
end K49
namespace K49
open DL L2
structure T where
 lead:List Nat
 f:Nat
 a:Nat
 n:Nat
 q:Nat
 m:Nat
 hs:List Nat
 W:List (List Pr)
structure T.Ok(t:T):Prop where
 m0:0<t.m
 m6:t.m<=6
 n0:0<t.n
 n4:t.n<=4
 q0:0<t.q
 q4:t.q<=4
 fm:t.f<t.m
 am:t.a<1000000
 hl:t.hs.length=t.m
 hb:∀h∈t.hs,h<1000000
 wl:t.W.length=t.m
 rl:∀ws∈t.W,ws.length=t.n
 pr:∀ws∈t.W,∀p∈ws,PrOk t.q t.m p
 ll:t.lead.length<=6
 lc:∀c∈t.lead,c∈cs_MARK_SIGNS
def blk(h:Nat)(ws:List Pr):List (List Nat):=Zr YK [Zf h]::ws.map Yd
def Z7:List Nat->List (List Pr)->List (List Nat)
 |h::hs,ws::W=>blk h ws++Z7 hs W
 |_,_=>[]
def T.rows(t:T):List (List Nat):=Zr Ys [Zf t.n,Zf t.q,Zf t.a,Zf t.m]::YC t.lead::Zr YB [Zf t.f]::Z7 t.hs t.W
theorem blk_len{n h:Nat}{ws:List Pr}(hw:ws.length=n):(blk h ws).length=n+1:=by
 unfold blk;rw [List.length_cons,List.length_map,hw]
theorem ZbL{n:Nat}:∀(hs:List Nat)(W:List (List Pr))(i s:Nat){h:Nat}{ws:List Pr},(∀ws∈W,ws.length=n)->hs[i]? = some h->W[i]? = some ws->s<n+1->(Z7 hs W)[i*(n+1)+s]? = (blk h ws)[s]?
 | [],_,_,_,_,_,_,h1,_,_=>by simp at h1
 |_::_,[],_,_,_,_,_,_,h2,_=>by simp at h2
 |h0::hs,w0::W,0,s,h,ws,hn,h1,h2,h3=>by
  cases h1;cases h2;rw [Nat.zero_mul,Nat.zero_add];show(blk h0 w0++Z7 hs W)[s]? = _;rw [List.getElem?_append_left (by rw [blk_len (hn w0 List.mem_cons_self)];exact h3)]
 |h0::hs,w0::W,i+1,s,h,ws,hn,h1,h2,h3=>by
  have hl:=blk_len (h:=h0) (hn w0 List.mem_cons_self);show(blk h0 w0++Z7 hs W)[(i+1)*(n+1)+s]? = _;rw [List.getElem?_append_right (by rw [hl,Nat.succ_mul];omega),hl,show(i+1)*(n+1)+s-(n+1)=i*(n+1)+s by rw [Nat.succ_mul];omega];exact ZbL hs W i s (λx hx=>hn x (List.mem_cons_of_mem _ hx)) h1 h2 h3
theorem Zah{n:Nat}:∀(hs:List Nat)(W:List (List Pr)),(∀ws∈W,ws.length=n)->hs.length=W.length->(Z7 hs W).length=hs.length*(n+1)
 | [],_,_,_=>by show 0=_;rw [List.length_nil,Nat.zero_mul]
 |_::_,[],_,h=>by simp at h
 |h0::hs,w0::W,hn,h=>by
  show(blk h0 w0++Z7 hs W).length=_;rw [List.length_append,blk_len (hn w0 List.mem_cons_self),Zah hs W (λx hx=>hn x (List.mem_cons_of_mem _ hx)) (by simpa using h),List.length_cons,Nat.succ_mul];omega
theorem T.rows_len{t:T}(o:t.Ok):t.rows.length=3+t.m*(t.n+1):=by
 unfold T.rows;rw [List.length_cons,List.length_cons,List.length_cons,Zah t.hs t.W o.rl (by rw [o.hl,o.wl]),o.hl];omega
theorem T.rows_at{t:T}(o:t.Ok){i s h:Nat}{ws:List Pr}(h1:t.hs[i]? = some h)(h2:t.W[i]? = some ws)(h3:s<t.n+1):t.rows[3+i*(t.n+1)+s]? = (blk h ws)[s]? := by
 unfold T.rows;rw [show 3+i*(t.n+1)+s=i*(t.n+1)+s+1+1+1 by omega,List.getElem?_cons_succ,List.getElem?_cons_succ,List.getElem?_cons_succ];exact ZbL t.hs t.W i s o.rl h1 h2 h3
def Qg(r:List Nat):Prop:=r.length<=45/\10∉r
theorem ZaI{nm:List Nat}{ws:List (List Nat)}(h:∀w∈nm::ws,Wd1 w)(hl:ws.length<=4):Qg (Zr nm ws):=⟨ZcO h hl,Zgo h⟩
theorem Zcj{nm w:List Nat}(h1:Wd1 nm)(h2:Wd1 w):Qg (Zr nm [w]):=ZaI (λx hx=>by
 simp only [List.mem_cons,List.not_mem_nil,or_false]at hx;rcases hx with rfl|rfl<;>assumption) (by simp)
theorem ZcR{q m:Nat}(hq:q<=4)(hm:m<=6):∀(hs:List Nat)(W:List (List Pr)),(∀h∈hs,h<1000000)->(∀ws∈W,∀p∈ws,PrOk q m p)->∀r∈Z7 hs W,Qg r
 | [],_,_,_,r,hr=>nomatch hr
 |_::_,[],_,_,r,hr=>nomatch hr
 |h0::hs,w0::W,h1,h2,r,hr=>by
  rcases List.mem_append.mp (show r∈blk h0 w0++Z7 hs W from hr)with z|z
  · rcases List.mem_cons.mp z with rfl|z
    · exact Zcj wd_names.2.2.2.1 (Xj (h1 h0 List.mem_cons_self))
    · obtain⟨p,hp,rfl⟩:=List.mem_map.mp z
      exact ZaI (Zeo (h2 w0 List.mem_cons_self p hp) hq hm) (by simp)
  · exact ZcR hq hm hs W (λx hx=>h1 x (List.mem_cons_of_mem _ hx)) (λx hx=>h2 x (List.mem_cons_of_mem _ hx)) r z
theorem ZhB{lead:List Nat}(h1:lead.length<=6)(h2:∀c∈lead,c∈cs_MARK_SIGNS):Qg (YC lead):=by
 unfold YC
 by_cases h:lead=[]
 · rw [if_pos h]
   exact⟨by decide,by decide⟩
 · rw [if_neg h]
   exact Zcj wd_names.2.1 (ZaH (by omega) h2)
theorem T.head_wd{t:T}(o:t.Ok):∀w∈Ys::[Zf t.n,Zf t.q,Zf t.a,Zf t.m],Wd1 w:=λw hw=>by
 have:=o.n4;have:=o.q4;have:=o.m6;simp only [List.mem_cons,List.not_mem_nil,or_false]at hw;rcases hw with rfl|rfl|rfl|rfl|rfl
 · exact wd_names.1
 · exact Xj (by omega)
 · exact Xj (by omega)
 · exact Xj o.am
 · exact Xj (by omega)
theorem T.rows_ok{t:T}(o:t.Ok):∀r∈t.rows,Qg r:=λr hr=>by
 have:=o.fm;have:=o.m6;unfold T.rows at hr;rcases List.mem_cons.mp hr with rfl|hr
 · exact ZaI (T.head_wd o) (by simp)
 rcases List.mem_cons.mp hr with rfl|hr
 · exact ZhB o.ll o.lc
 rcases List.mem_cons.mp hr with rfl|hr
 · exact Zcj wd_names.2.2.1 (Xj (by omega))
 · exact ZcR o.q4 o.m6 t.hs t.W o.hb o.pr r hr
def T.text(t:T):List Nat:=Yw [10] t.rows
theorem T.rows_few{t:T}(o:t.Ok):t.rows.length<=33:=by
 rw [t.rows_len o];have h1:=o.m6;have h2:=o.n4;have:t.m*(t.n+1)<=6*5:=Nat.mul_le_mul h1 (by omega);omega
theorem T.sum_ok{t:T}(o:t.Ok):(t.rows.map List.length).sum<=1485:=by
 have h1:=Zch (m:=45) (l:=t.rows) λr hr=>(t.rows_ok o r hr).1
 have h2:=t.rows_few o;have:45*t.rows.length<=45*33:=Nat.mul_le_mul_left 45 h2;omega
theorem T.text_len{t:T}(o:t.Ok):t.text.length<=2000:=by
 have h0:=QX 10 t.rows;have h1:=t.sum_ok o;have h2:=t.rows_few o;unfold T.text;omega
theorem T.split_ok{t:T}(o:t.Ok):Z2 10 t.text=t.rows:=JD 10 t.rows (by unfold T.rows;simp) λp hp=>(t.rows_ok o p hp).2
theorem T.join_ok{t:T}(o:t.Ok):joinD [10] [.lst (t.rows.map D.str)]=some (.str t.text):=by
 have h1:=t.sum_ok o;have h2:=t.rows_few o;unfold joinD;dsimp only;rw [ZbB];dsimp only;rw [if_pos (by rw [PySem.sizeLine_eq];simp only [List.length_singleton];omega)];rfl
theorem ZdS{lo n j:Nat}{x:D}(h:(ZR (lo:Int) 1 n)[j]? = some x):j<n/\x=nD (lo+j):=by
 have hj:j<n:=by have:=(List.getElem?_eq_some_iff.mp h).1;simpa [ZR]using this
 refine⟨hj,?_⟩;unfold ZR at h;rw [List.getElem?_map,List.getElem?_range hj]at h;have:=Option.some.inj h;rw [<-this];show D.int ((lo:Int)+(j:Int)*1)=D.int ((lo+j:Nat):Int);rw [show((lo:Int)+(j:Int)*1)=((lo+j:Nat):Int) by omega]
theorem Qh{α:Type}{l:List α}{j:Nat}{x:α}(h:l[j]? = some x):l.take (j+1)=l.take j++[x]:=by
 rw [List.take_add_one,h];rfl
noncomputable def wsB:DL.Env->Option Out:=(Z3 3 (Zm 2 Xv [] (Zb (Za 4) (Zb (Zm 3 QR [] (Zb (Zm 2 XX [] (Zb (Za 0) (Zb (Za 4) eNil))) (Zb (eOp ixD (Za 2) (eC (.int 1))) (Zb (eOp ixD (Za 2) (eC (.int 3))) eNil)))) eNil))))
theorem Ze3:f_QS=Zh (Zp 3 (ZU eNil)) (Zh (Z4 (ZY (Zb (Za 1) (Zb (eOp addX (Za 1) (eOp ixD (Za 2) (eC (.int 0)))) eNil))) (Zx 4) wsB) (Zq (Za 3))):=rfl
theorem Qi(n q a m:Nat):ixD (hdD n q a m) (nD 0)=some (nD n)/\ixD (hdD n q a m) (nD 1)=some (nD q)/\ixD (hdD n q a m) (nD 2)=some (nD a)/\ixD (hdD n q a m) (nD 3)=some (nD m):=⟨Yr rfl,Yr rfl,Yr rfl,Yr rfl⟩
theorem Ze4{RR:List (List Nat)}{n q a m b:Nat}{ws:List Pr}(hn:ws.length=n)(hn4:n<=4)(hq0:0<q)(hq:q<=4)(hm:m<=6)(hb:b<=1000)(hp:∀p∈ws,PrOk q m p)(hR:∀s p,ws[s]? = some p->RR[b+s]? = some (Yd p)) :
 Qa [.lst (RR.map D.str),nD (b+1),hdD n q a m]=some (rowLD ws):=by
 obtain⟨h0,h1,_,h3⟩:=Qi n q a m
 obtain⟨δ',g1,v4,e⟩:=Uk (γ:=Zx 4) (φ:=wsB) (λk δ=>∃v4,δ=[some (.lst (RR.map D.str)),some (nD (b+1)),some (hdD n q a m),some (rowLD (ws.take k)),v4]) (ZR ((b+1:Nat):Int) 1 n) 0 [some (.lst (RR.map D.str)),some (nD (b+1)),some (hdD n q a m),some (rowLD (ws.take 0)),none] ⟨none,rfl⟩ (by
  intro j x δ hx ⟨v4,e⟩;subst e;obtain⟨hj,rfl⟩:=ZdS hx;rw [Nat.zero_add];have hw:ws[j]? = some ws[j]:=List.getElem?_eq_getElem (by omega);refine⟨_,rfl,_,?_,some (nD (b+1+j)),rfl⟩;have e1:=Q1 (hR j _ hw);rw [show b+j+1=b+1+j by omega]at e1;have e2:=Zgr (hp _ (List.mem_of_getElem? hw)) hq0 hq hm;refine(XG (xs:=(ws.take j).map prD) (d:=prD ws[j]) rfl ((ZI (n:=2) (Zg (x:=nD (b+1+j)) rfl (Zg ((ZI (n:=3) (Zg ((ZI (n:=2) (Zg (x:=.lst (RR.map D.str)) rfl (Zg (x:=nD (b+1+j)) rfl nil_of)) rfl).trans e1) (Zg ((Zn (x:=hdD n q a m) (y:=nD 1) rfl rfl).trans h1) (Zg ((Zn (x:=hdD n q a m) (y:=nD 3) rfl rfl).trans h3) nil_of))) rfl).trans e2) nil_of)) rfl).trans (Qf rfl)) (by rw [List.length_map,List.length_take];omega)).trans ?_
  rw [Qh hw];unfold rowLD;rw [List.map_append];rfl)
 subst e;have et:ws.take n=ws:=List.take_of_length_le (by omega);rw [Ul,Nat.zero_add,et]at g1
 have ei:ZY (Zb (Za 1) (Zb (eOp addX (Za 1) (eOp ixD (Za 2) (eC (.int 0)))) eNil)) [some (.lst (RR.map D.str)),some (nD (b+1)),some (hdD n q a m),some (rowLD (ws.take 0)),none]=some (ZR ((b+1:Nat):Int) 1 n):=by
  rw [Zgl (i:=((b+1:Nat):Int)) (j:=((b+1:Nat):Int)+(n:Int)) (Zg rfl (Zg ((Zn (x:=nD (b+1)) rfl ((Zn (x:=hdD n q a m) (y:=nD 0) rfl rfl).trans h0)).trans (add_int _ _)) nil_of)) (by omega) (by omega) (by omega) (by omega),show(((b+1:Nat):Int)+(n:Int)-((b+1:Nat):Int)).toNat=n by omega]
 have t2:Z4 (ZY (Zb (Za 1) (Zb (eOp addX (Za 1) (eOp ixD (Za 2) (eC (.int 0)))) eNil))) (Zx 4) wsB [some (.lst (RR.map D.str)),some (nD (b+1)),some (hdD n q a m),some (rowLD (ws.take 0)),none]=some (.nx [some (.lst (RR.map D.str)),some (nD (b+1)),some (hdD n q a m),some (rowLD ws),v4]):=XU ei g1;refine Yc (δ:=[some (.lst (RR.map D.str)),some (nD (b+1)),some (hdD n q a m),none,none]) rfl ?_
 rw [Ze3,Zu (δ':=[some (.lst (RR.map D.str)),some (nD (b+1)),some (hdD n q a m),some (rowLD (ws.take 0)),none]) (ZO rfl),Zu t2];rfl
end K49
namespace K49
open DL L2
def T.obj(t:T):D := .obj "Table" ["lead", "first", "ahead", "homes", "ways"] [.str t.lead,nD t.f,nD t.a,.tup (t.hs.map nD),.tup (t.W.map ZG)]
noncomputable def inC:DL.Env->Option D:=(eCB YS (Zb (Z5 (ZQ (Za 0)) (Zx 0) (λ_=>some true) (eCB YS (Zb (Za 0) eNil)) 1 []) eNil))
theorem Zgs(ws:List Pr)(hl:ws.length<=100):inC [some (rowLD ws)]=some (ZG ws):=by
 have hc:Yn (Zx 0) (λ_=>some true) (eCB YS (Zb (Za 0) eNil)) [none] (ws.map prD)=some (ws.map prD):=V4 prD prD ws λp _=>⟨[some (prD p)],rfl,(Z0 (Zg (x:=prD p) rfl nil_of)).trans rfl⟩
 exact(Z0 (Zg (V0 (xs:=ws.map prD) rfl rfl hc (by rw [List.length_map];omega)) nil_of)).trans rfl
theorem ZcS{t:T}(o:t.Ok):UM [.obj "Table" [] [],.str t.lead,nD t.f,nD t.a,.lst (t.hs.map nD),.lst (t.W.map rowLD)]=some t.obj:=by
 have hw:=o.wl;have h6:=o.m6;have hn:=o.n4;have hc:Yn (Zx 0) (λ_=>some true) inC [none] (t.W.map rowLD)=some (t.W.map ZG):=V4 rowLD ZG t.W λws hws=>⟨[some (rowLD ws)],rfl,Zgs ws (by have:=o.rl ws hws;omega)⟩
 have he:∀x0,eCB YS (Zb (Z5 (ZQ (Za 5)) (Zx 0) (λ_=>some true) inC 1 []) eNil) [x0,some (.str t.lead),some (nD t.f),some (nD t.a),some (.lst (t.hs.map nD)),some (.lst (t.W.map rowLD))]=some (.tup (t.W.map ZG)):=λx0=>
  (Z0 (Zg (V0 (xs:=t.W.map rowLD) rfl rfl hc (by rw [List.length_map];omega)) nil_of)).trans rfl
 have hf:f_QJ [some (.obj "Table" [] []),some (.str t.lead),some (nD t.f),some (nD t.a),some (.lst (t.hs.map nD)),some (.lst (t.W.map rowLD))]=some (.nx [some t.obj,some (.str t.lead),some (nD t.f),some (nD t.a),some (.lst (t.hs.map nD)),some (.lst (t.W.map rowLD))]):=by
  show Zh (YZ 0 Y5 "lead" (Za 1)) (Zh (YZ 0 Xs "first" (Za 2)) (Zh (YZ 0 Xr "ahead" (Za 3)) (Zh (YZ 0 Y0 "homes" (eCB YS (Zb (Za 4) eNil))) (YZ 0 Xu "ways" (eCB YS (Zb (Z5 (ZQ (Za 5)) (Zx 0) (λ_=>some true) inC 1 []) eNil)))))) _=_;rw [Zu (δ':=[some (.obj "Table" ["lead"] [.str t.lead]),some (.str t.lead),some (nD t.f),some (nD t.a),some (.lst (t.hs.map nD)),some (.lst (t.W.map rowLD))]) rfl]
  rw [Zu (δ':=[some (.obj "Table" ["lead", "first"] [.str t.lead,nD t.f]),some (.str t.lead),some (nD t.f),some (nD t.a),some (.lst (t.hs.map nD)),some (.lst (t.W.map rowLD))]) rfl];rw [Zu (δ':=[some (.obj "Table" ["lead", "first", "ahead"] [.str t.lead,nD t.f,nD t.a]),some (.str t.lead),some (nD t.f),some (nD t.a),some (.lst (t.hs.map nD)),some (.lst (t.W.map rowLD))]) rfl];rw [Zu (δ':=[some (.obj "Table" ["lead", "first", "ahead", "homes"] [.str t.lead,nD t.f,nD t.a,.tup (t.hs.map nD)]),some (.str t.lead),some (nD t.f),some (nD t.a),some (.lst (t.hs.map nD)),some (.lst (t.W.map rowLD))]) rfl]
  unfold YZ;rw [he];rfl
 show(match f_QJ ([DL.D.obj "Table" [] [],.str t.lead,nD t.f,nD t.a,.lst (t.hs.map nD),.lst (t.W.map rowLD)].map some++List.replicate (6-6) none)with
  |some (.nx δ)=>Za 0 δ
  |_=>none)=_
 rw [show([DL.D.obj "Table" [] [],.str t.lead,nD t.f,nD t.a,.lst (t.hs.map nD),.lst (t.W.map rowLD)].map some++List.replicate (6-6) none)=[some (.obj "Table" [] []),some (.str t.lead),some (nD t.f),some (nD t.a),some (.lst (t.hs.map nD)),some (.lst (t.W.map rowLD))]from rfl,hf];rfl
noncomputable def rd1:DL.Env->Option Out:=(Zp 1 (eBM splitD (Za 0) (Zb (eC (.str [10])) eNil)))
noncomputable def rd2:DL.Env->Option Out:=(Zp 2 (Zm 2 Xv [] (Zb (eC (.int 1)) (Zb (Zm 1 QN [] (Zb (eOp ixD (Za 1) (eC (.int 0))) eNil)) eNil))))
noncomputable def rd3:DL.Env->Option Out:=(Zp 3 (Zm 2 Xv [] (Zb (eC (.int 2)) (Zb (Zm 1 QO [] (Zb (Zm 2 XX [] (Zb (Za 1) (Zb (eC (.int 2)) eNil))) eNil)) eNil))))
noncomputable def rd4:DL.Env->Option Out:=(Zp 4 (Zm 2 Xv [] (Zb (eC (.int 3)) (Zb (Zm 2 QP [] (Zb (Zm 2 XX [] (Zb (Za 1) (Zb (eC (.int 3)) eNil))) (Zb (eOp ixD (Za 2) (eC (.int 3))) eNil))) eNil))))
noncomputable def Q2:DL.Env->Option Out:=(Z3 5 (Zm 2 Xv [] (Zb (Za 7) (Zb (Zm 1 QQ [] (Zb (Zm 2 XX [] (Zb (Za 1) (Zb (Za 7) eNil))) eNil)) eNil))))
noncomputable def Q3:DL.Env->Option Out:=(Z3 6 (Zm 3 Qa [] (Zb (Za 1) (Zb (eOp addX (Za 7) (eC (.int 1))) (Zb (Za 2) eNil)))))
noncomputable def Q4:DL.Env->Option Out:=(Zp 7 (eOp addX (eOp addX (Za 7) (eC (.int 1))) (eOp ixD (Za 2) (eC (.int 0)))))
noncomputable def rdF:DL.Env->Option Out:=(Z4 (ZY (Zb (eOp ixD (Za 2) (eC (.int 3))) eNil)) (Zx 8) (Zh Q2 (Zh Q3 Q4)))
noncomputable def rdE:DL.Env->Option Out:=(sIf (xB (eOp (YL λi j=>decide (j<=i)) (eCB lenD (Zb (Za 1) eNil)) (Za 7))) sNever sNext)
noncomputable def rdR:DL.Env->Option Out:=(Zq (XT "Table" 6 UM [] (Zb (Za 3) (Zb (Za 4) (Zb (eOp ixD (Za 2) (eC (.int 2))) (Zb (Za 5) (Zb (Za 6) eNil)))))))
theorem Ze5:f_QK=Zh rd1 (Zh rd2 (Zh rd3 (Zh rd4 (Zh (Zp 5 (ZU eNil)) (Zh (Zp 6 (ZU eNil)) (Zh (Zp 7 (eC (.int 4))) (Zh rdF (Zh rdE rdR)))))))):=rfl
def T.hd(t:T):D:=hdD t.n t.q t.a t.m
abbrev RE(X:D)(t:T)(hs:List Nat)(W:List (List Pr))(k:Nat)(v8:Option D):DL.Env:=[some X,some (.lst (t.rows.map D.str)),some t.hd,some (.str t.lead),some (nD t.f),some (.lst (hs.map nD)),some (.lst (W.map rowLD)),some (nD k),v8]
theorem Ze6{t:T}(o:t.Ok)(X:D){i:Nat}(hi:i<t.m)(v8:Option D):Zh Q2 (Zh Q3 Q4) (RE X t (t.hs.take i) (t.W.take i) (4+i*(t.n+1)) v8)=some (.nx (RE X t (t.hs.take (i+1)) (t.W.take (i+1)) (4+(i+1)*(t.n+1)) v8)):=by
 have h1:t.hs[i]? = some (t.hs[i]'(by rw [o.hl];exact hi)):=List.getElem?_eq_getElem _;have h2:t.W[i]? = some (t.W[i]'(by rw [o.wl];exact hi)):=List.getElem?_eq_getElem _;generalize t.hs[i]'(by rw [o.hl];exact hi)=h at h1;generalize t.W[i]'(by rw [o.wl];exact hi)=ws at h2;have hh:=o.hb h (List.mem_of_getElem? h1);have hws:=List.mem_of_getElem? h2;have hn:=o.rl ws hws;have h6:=o.m6
 have h4:=o.n4;have hsmall:i*(t.n+1)<=6*5:=Nat.mul_le_mul (by omega) (by omega);have r0:=t.rows_at o (s:=0) h1 h2 (by omega);have e1:=Q1 (show t.rows[3+i*(t.n+1)]? = some (Zr YK [Zf h])from r0);rw [show 3+i*(t.n+1)+1=4+i*(t.n+1) by omega]at e1
 have t1:Q2 (RE X t (t.hs.take i) (t.W.take i) (4+i*(t.n+1)) v8)=some (.nx (RE X t (t.hs.take (i+1)) (t.W.take i) (4+i*(t.n+1)) v8)):=by
  refine(XG (xs:=(t.hs.take i).map nD) (d:=nD h) rfl ((ZI (n:=2) (Zg (x:=nD (4+i*(t.n+1))) rfl (Zg ((ZI (n:=1) (Zg ((ZI (n:=2) (Zg (x:=.lst (t.rows.map D.str)) rfl (Zg (x:=nD (4+i*(t.n+1))) rfl nil_of)) rfl).trans e1) nil_of) rfl).trans (Ze2 hh)) nil_of)) rfl).trans (Qf rfl)) (by rw [List.length_map,List.length_take];omega)).trans ?_;rw [Qh h1];unfold RE;rw [List.map_append]
  rfl
 have e2:Qa [.lst (t.rows.map D.str),nD (4+i*(t.n+1)+1),t.hd]=some (rowLD ws):=by
  refine Ze4 hn h4 o.q0 o.q4 h6 (by omega) (o.pr ws hws) λs p hs => ?_
  have hsl:=(List.getElem?_eq_some_iff.mp hs).1;have:=t.rows_at o (s:=s+1) h1 h2 (by omega);rw [show 4+i*(t.n+1)+s=3+i*(t.n+1)+(s+1) by omega,this];show(ws.map Yd)[s]? = _;rw [List.getElem?_map,hs];rfl
 have t2:Q3 (RE X t (t.hs.take (i+1)) (t.W.take i) (4+i*(t.n+1)) v8)=some (.nx (RE X t (t.hs.take (i+1)) (t.W.take (i+1)) (4+i*(t.n+1)) v8)):=by
  refine(XG (xs:=(t.W.take i).map rowLD) (d:=rowLD ws) rfl ((ZI (n:=3) (ds:=[.lst (t.rows.map D.str),nD (4+i*(t.n+1)+1),t.hd]) (Zg rfl (Zg ((Zn (x:=nD (4+i*(t.n+1))) (y:=.int 1) rfl rfl).trans (add_int _ _)) (Zg rfl nil_of))) rfl).trans e2) (by rw [List.length_map,List.length_take];omega)).trans ?_;rw [Qh h2];unfold RE;rw [List.map_append];rfl
 have t3:Q4 (RE X t (t.hs.take (i+1)) (t.W.take (i+1)) (4+i*(t.n+1)) v8)=some (.nx (RE X t (t.hs.take (i+1)) (t.W.take (i+1)) (4+(i+1)*(t.n+1)) v8)):=by
  refine ZO ((Zn (x:=.int (((4+i*(t.n+1):Nat):Int)+1)) (y:=nD t.n) ((Zn (x:=nD (4+i*(t.n+1))) (y:=.int 1) rfl rfl).trans (add_int _ _)) ((Zn (x:=t.hd) (y:=nD 0) rfl rfl).trans (Qi _ _ _ _).1)).trans ((add_int _ _).trans ?_));refine congrArg (λz=>some (D.int z)) ?_;rw [Nat.succ_mul];omega
 rw [Zu t1,Zu t2,t3]
theorem Ze7{t:T}(o:t.Ok):QS [.str t.text]=some t.obj:=by
 have h6:=o.m6;have h4:=o.n4;have h0:=o.q4;have htl:=t.text_len o;have hrl:=t.rows_len o
 have t1:rd1 [some (.str t.text),none,none,none,none,none,none,none,none]=some (.nx [some (.str t.text),some (.lst (t.rows.map D.str)),none,none,none,none,none,none,none]):=by
  refine ZO ((UL (s:=t.text) rfl (Zg (x:=.str [10]) rfl nil_of)).trans ?_);show(if t.text.length+2<=PySem.sizeLine then some (D.lst ((Z2 10 t.text).map D.str))else none)=_;rw [if_pos (by rw [PySem.sizeLine_eq];omega),t.split_ok o]
 generalize D.str t.text=X at *
 have t2:rd2 [some X,some (.lst (t.rows.map D.str)),none,none,none,none,none,none,none]=some (.nx [some X,some (.lst (t.rows.map D.str)),some t.hd,none,none,none,none,none,none]):=by
  have e1:eOp ixD (Za 1) (eC (.int 0)) [some X,some (.lst (t.rows.map D.str)),none,none,none,none,none,none,none]=some (.str (Zr Ys [Zf t.n,Zf t.q,Zf t.a,Zf t.m])):=(Zn (x:=.lst (t.rows.map D.str)) (y:=nD 0) rfl rfl).trans (Yr rfl);exact ZO ((ZI (n:=2) (Zg (x:=.int 1) rfl (Zg ((ZI (n:=1) (Zg e1 nil_of) rfl).trans (Ze0 o.n0 (by omega) o.q0 (by omega) o.am o.m0 (by omega))) nil_of)) rfl).trans (Qf rfl))
 have t3:rd3 [some X,some (.lst (t.rows.map D.str)),some t.hd,none,none,none,none,none,none]=some (.nx [some X,some (.lst (t.rows.map D.str)),some t.hd,some (.str t.lead),none,none,none,none,none]):=
  ZO ((ZI (n:=2) (Zg (x:=.int 2) rfl (Zg ((ZI (n:=1) (Zg ((ZI (n:=2) (Zg (x:=.lst (t.rows.map D.str)) rfl (Zg (x:=nD 2) rfl nil_of)) rfl).trans (Q1 (j:=1) rfl)) nil_of) rfl).trans (Ze1 o.ll o.lc)) nil_of)) rfl).trans (Qf rfl))
 have t4:rd4 [some X,some (.lst (t.rows.map D.str)),some t.hd,some (.str t.lead),none,none,none,none,none]=some (.nx [some X,some (.lst (t.rows.map D.str)),some t.hd,some (.str t.lead),some (nD t.f),none,none,none,none]):=
  ZO ((ZI (n:=2) (Zg (x:=.int 3) rfl (Zg ((ZI (n:=2) (Zg ((ZI (n:=2) (Zg (x:=.lst (t.rows.map D.str)) rfl (Zg (x:=nD 3) rfl nil_of)) rfl).trans (Q1 (j:=2) rfl)) (Zg ((Zn (x:=t.hd) (y:=nD 3) rfl rfl).trans (Qi _ _ _ _).2.2.2) nil_of)) rfl).trans (ZdR o.fm h6)) nil_of)) rfl).trans (Qf rfl))
 obtain⟨δ',g1,v8,e⟩:=Uk (γ:=Zx 8) (φ:=Zh Q2 (Zh Q3 Q4)) (λk δ=>∃v8,δ=RE X t (t.hs.take k) (t.W.take k) (4+k*(t.n+1)) v8) (ZR 0 1 t.m) 0 (RE X t (t.hs.take 0) (t.W.take 0) (4+0*(t.n+1)) none) ⟨none,rfl⟩ (by
  intro j x δ hx ⟨v8,e⟩;subst e;obtain⟨hj,rfl⟩:=U8 hx;rw [Nat.zero_add];exact⟨_,rfl,_,Ze6 o X hj (some (nD j)),_,rfl⟩)
 subst e;have et1:t.hs.take t.m=t.hs:=List.take_of_length_le (by rw [o.hl];exact Nat.le_refl _);have et2:t.W.take t.m=t.W:=List.take_of_length_le (by rw [o.wl];exact Nat.le_refl _);rw [Ul,Nat.zero_add,et1,et2]at g1;have hz:RE X t (t.hs.take 0) (t.W.take 0) (4+0*(t.n+1)) none=RE X t [] [] 4 none:=by rw [Nat.zero_mul];rfl
 rw [hz]at g1
 have ei:ZY (Zb (eOp ixD (Za 2) (eC (.int 3))) eNil) (RE X t [] [] 4 none)=some (ZR 0 1 t.m):=by
  rw [UK (j:=(t.m:Int)) (Zg ((Zn (x:=t.hd) (y:=nD 3) rfl rfl).trans (Qi _ _ _ _).2.2.2) nil_of) (by omega) (by omega),Int.toNat_natCast]
 have t8:rdF (RE X t [] [] 4 none)=some (.nx (RE X t t.hs t.W (4+t.m*(t.n+1)) v8)):=XU ei g1
 have t9:rdE (RE X t t.hs t.W (4+t.m*(t.n+1)) v8)=some (.nx (RE X t t.hs t.W (4+t.m*(t.n+1)) v8)):=by
  refine(YA (ZH ((Zn (x:=.int ((t.rows.map D.str).length:Int)) (y:=nD (4+t.m*(t.n+1))) ((Z0 (Zg (x:=.lst (t.rows.map D.str)) rfl nil_of)).trans Um) rfl).trans ?_))).trans rfl;show some (D.bl (decide (((4+t.m*(t.n+1):Nat):Int)<=((t.rows.map D.str).length:Int))))=_;rw [List.length_map,hrl,decide_eq_false (by omega)]
 refine Yc (δ:=[some X,none,none,none,none,none,none,none,none]) rfl ?_;rw [Ze5,Zu t1,Zu t2,Zu t3,Zu t4,Zu (δ':=[some X,some (.lst (t.rows.map D.str)),some t.hd,some (.str t.lead),some (nD t.f),some (.lst []),none,none,none]) (ZO rfl),Zu (δ':=[some X,some (.lst (t.rows.map D.str)),some t.hd,some (.str t.lead),some (nD t.f),some (.lst []),some (.lst []),none,none]) (ZO rfl),Zu (δ':=RE X t [] [] 4 none) (ZO rfl),Zu t8,Zu t9]
 exact Yz ((ZcM (Zg (x:=.str t.lead) rfl (Zg (x:=nD t.f) rfl (Zg ((Zn (x:=t.hd) (y:=nD 2) rfl rfl).trans (Qi _ _ _ _).2.2.1) (Zg (x:=.lst (t.hs.map nD)) rfl (Zg (x:=.lst (t.W.map rowLD)) rfl nil_of))))) rfl).trans (ZcS o))
end K49
namespace K49
open DL L2
theorem Za1{γ:D->Env->Option Env}{φ:Env->Option Out}{x:D}{r:List D}{δ δ1:Env}(h:γ x δ=some δ1):YI γ φ (x::r) δ=(match φ δ1 with
 |none=>none
 |some (.nx δ2)=>YI γ φ r δ2
 |some (.ct δ2)=>YI γ φ r δ2
 |some (.bk δ2)=>some (.nx δ2)
 |some (.rt d)=>some (.rt d)):=by
 rw [YI,h]
 try rfl
theorem gt2{i j:Nat}{x y:D}{δ:DL.Env}:Xe 2 (Ym i (Ym j gsNil)) (.tup [x,y]) δ=some ((δ.set i (some x)).set j (some y)):=rfl
theorem Ze8{n:Nat}{f:DL.Env->Option Out}{vs:List D}{δ:DL.Env}{d:D}(h1:(vs.map some++List.replicate (n-vs.length) none)=δ)(h2:f δ=some (.rt d)):U5 n f vs=some d:=by
 unfold U5;rw [h1,h2]
theorem Q5{t:T}{i:Nat}{δ:DL.Env}(h:Za i δ=some t.obj):Zw Y5 "lead" (Za i) δ=some (.str t.lead):=by unfold Zw;rw [h];rfl
theorem Zai{t:T}{i:Nat}{δ:DL.Env}(h:Za i δ=some t.obj):Zw Xs "first" (Za i) δ=some (nD t.f):=by unfold Zw;rw [h];rfl
theorem Zaj{t:T}{i:Nat}{δ:DL.Env}(h:Za i δ=some t.obj):Zw Xr "ahead" (Za i) δ=some (nD t.a):=by unfold Zw;rw [h];rfl
theorem Q6{t:T}{i:Nat}{δ:DL.Env}(h:Za i δ=some t.obj):Zw Y0 "homes" (Za i) δ=some (.tup (t.hs.map nD)):=by unfold Zw;rw [h];rfl
theorem Q7{t:T}{i:Nat}{δ:DL.Env}(h:Za i δ=some t.obj):Zw Xu "ways" (Za i) δ=some (.tup (t.W.map ZG)):=by unfold Zw;rw [h];rfl
theorem T.first_row{t:T}(o:t.Ok):∃p0 ws0 W0,t.W=(p0::ws0)::W0/\(p0::ws0).length=t.n/\p0.1.length=t.q:=by
 cases hW:t.W with
 |nil=>have:=o.wl;rw [hW]at this;have:=o.m0;simp at *;omega
 |cons w0 W0=>
  have h1:=o.rl w0 (by rw [hW];exact List.mem_cons_self);cases w0 with
  |nil=>have:=o.n0;simp at h1;omega
  |cons p0 ws0=>exact⟨p0,ws0,W0,rfl,h1,(o.pr _ (by rw [hW];exact List.mem_cons_self) p0 List.mem_cons_self).ln⟩
theorem ZdT{t:T}(o:t.Ok):Zgz [t.obj]=some (nD t.n):=by
 obtain⟨p0,ws0,W0,h1,h2,h3⟩:=t.first_row o;have e:=Q7 (t:=t) (i:=0) (δ:=[some t.obj]) rfl;rw [h1]at e;refine Yc (δ:=[some t.obj]) rfl (Yz ((Z0 (Zg ((Zn e (y:=nD 0) rfl).trans (ix_tup (x:=ZG (p0::ws0)) rfl)) nil_of)).trans ?_));show some (D.int (((p0::ws0).map prD).length:Int))=_;rw [List.length_map,h2]
theorem ZdU{t:T}(o:t.Ok):ZgA [t.obj]=some (nD t.q):=by
 obtain⟨p0,ws0,W0,h1,h2,h3⟩:=t.first_row o;have e:=Q7 (t:=t) (i:=0) (δ:=[some t.obj]) rfl;rw [h1]at e;have h4:=o.q4;refine Yc (δ:=[some t.obj]) rfl (Yz ((Z0 (Zg ((Zn (y:=nD 0) ((Zn (y:=nD 0) ((Zn e (y:=nD 0) rfl).trans (ix_tup (x:=ZG (p0::ws0)) rfl)) rfl).trans (ix_tup (x:=prD p0) rfl)) rfl).trans (ix_tup (x:=.str p0.1) rfl)) nil_of)).trans ?_));rw [len_str (by omega),h3]
theorem ZaB{t:T}(o:t.Ok){i:Nat}{δ:DL.Env}(h:Za i δ=some t.obj):YU "signs" Ur (Za i) eNil δ=some (nD t.n):=by
 unfold YU;rw [h];exact ZdT o
theorem ZaC{t:T}(o:t.Ok){i:Nat}{δ:DL.Env}(h:Za i δ=some t.obj):YU "block_length" Uq (Za i) eNil δ=some (nD t.q):=by
 unfold YU;rw [h];exact ZdU o
theorem UQ{a:DL.Env->Option D}{r:List (DL.Env->Option D)}{acc cs:List Nat}{δ:DL.Env}(h:a δ=some (.str cs))(hl:(acc++cs).length<=100000):xJs (a::r) acc δ=xJs r (acc++cs) δ:=by
 unfold xJs;rw [h];dsimp only;rw [if_pos (by rw [PySem.sizeLine_eq];omega)];cases r<;>rfl
theorem ZhC{as:List (DL.Env->Option D)}{δ:DL.Env}{cs:List Nat}(h:xJs as [] δ=some cs):Vf as δ=some (.str cs):=by
 unfold Vf;rw [h]
theorem Zck{f:D->Option D}{a:DL.Env->Option D}{δ:DL.Env}{d x:D}(h:a δ=some d)(h2:f d=some x):Xf f a δ=some x:=by
 unfold Xf;rw [h];exact h2
theorem Ze9{w:List Nat}(h:w.length<=1000):Y3 (.str w)=some (.str w):=by
 show(if w.length<=PySem.sizeLine then some (D.str w)else none)=_;rw [if_pos (by rw [PySem.sizeLine_eq];omega)]
theorem Zb9(w:List Nat):([]++[112,108,97,99,101,32])++w=Zr YK [w]:=rfl
theorem Zbi(w:List Nat):[112,108,97,99,101,32]++w=Zr YK [w]:=rfl
theorem ZaD(w:List Nat):[102,105,114,115,116,32]++w=Zr YB [w]:=rfl
theorem Za2(w:List Nat):[108,101,97,100,32]++w=Zr LEAD [w]:=rfl
theorem Zca(a b c d:List Nat):[116,97,98,108,101,32]++Yw [32] [a,b,c,d]=Zr Ys [a,b,c,d]:=rfl
theorem ZbM(p:Pr):((([]++[119,97,121,32])++p.1)++[32])++Zf p.2=Yd p:=by
 show _=[119,97,121]++[32]++(p.1++[32]++Zf p.2)
 simp [List.append_assoc]
theorem Zdn(p:Pr):(([119,97,121,32]++p.1)++[32])++Zf p.2=Yd p:=ZbM p
noncomputable def prC:DL.Env->Option D:=(Vf [(eC (.str [119,97,121,32])),(Xf Y3 (Za 0)),(eC (.str [32])),(Xf Y3 (Za 1))])
theorem Zgt{q m:Nat}{p:Pr}(h:PrOk q m p)(hq:q<=4)(hm:m<=6):prC [some (.str p.1),some (nD p.2)]=some (.str (Yd p)):=by
 have hln:=h.ln;have hlt:=h.lt;have hf:=Xi (n:=p.2) (by omega)
 have e:xJs [(eC (.str [119,97,121,32])),(Xf Y3 (Za 0)),(eC (.str [32])),(Xf Y3 (Za 1))] [] [some (.str p.1),some (nD p.2)]=some (Yd p):=by
  rw [UQ (cs:=[119,97,121,32]) rfl (by decide),UQ (cs:=p.1) (Zck (d:=.str p.1) rfl (Ze9 (by omega))) (by simp;omega),UQ (cs:=[32]) rfl (by simp;omega),UQ (cs:=Zf p.2) (Zck (d:=nD p.2) rfl (ZcN (by omega))) (by simp;omega),ZbM];rfl
 unfold prC Vf;rw [e]
theorem Zfa{h:Nat}(hh:h<1000000)(R:D):xJs [(eC (.str [112,108,97,99,101,32])),(Xf Y3 (Za 0))] [] [some (nD h),some R]=some (Zr YK [Zf h]):=by
 have hf:=Xi hh;have hz:=ZcN hh;generalize Zf h=w at *;rw [UQ (cs:=[112,108,97,99,101,32]) rfl (by decide),UQ (cs:=w) (Zck (d:=nD h) rfl hz) (by rw [List.length_append];show 6+_<=_;omega),Zb9];rfl
theorem ZdV{q m:Nat}(hq:q<=4)(hm:m<=6){h:Nat}(hh:h<1000000){ws:List Pr}(hl:ws.length<=4)(hp:∀p∈ws,PrOk q m p):Up [nD h,ZG ws]=some (.lst ((blk h ws).map D.str)):=by
 have hf:=Xi hh;have e0:Vf [(eC (.str [112,108,97,99,101,32])),(Xf Y3 (Za 0))] [some (nD h),some (ZG ws)]=some (.str (Zr YK [Zf h])):=ZhC (Zfa hh (ZG ws));have hc:Yn (Xe 2 (Ym 0 (Ym 1 gsNil))) (λ_=>some true) prC [none,none] (ws.map prD)=some (ws.map λp=>D.str (Yd p)):=V4 prD (λp=>D.str (Yd p)) ws λp hpp=>⟨[some (.str p.1),some (nD p.2)],gt2 (x:=.str p.1) (y:=nD p.2) (δ:=[none,none]),Zgt (hp p hpp) hq hm⟩
 have e1:Z5 (ZQ (Za 1)) (Xe 2 (Ym 0 (Ym 1 gsNil))) (λ_=>some true) prC 2 [] [some (nD h),some (ZG ws)]=some (.lst (ws.map λp=>D.str (Yd p))):=V0 (xs:=ws.map prD) rfl rfl hc (by rw [List.length_map];omega)
 have e2:f_QI [some (nD h),some (ZG ws)]=some (.rt (.lst ((blk h ws).map D.str))):=by
  refine Yz ((Zn (x:=.lst [.str (Zr YK [Zf h])]) (y:=.lst (ws.map λp=>D.str (Yd p))) (VZ (Zg e0 nil_of) (show 1<=1000 by decide)) e1).trans ?_);show addX (.lst [.str (Zr YK [Zf h])]) (.lst (ws.map λp=>D.str (Yd p)))=_;rw [ZeV (by rw [List.length_map];show 1+ws.length<=_;omega)];unfold blk;rw [List.map_cons,List.map_map];rfl
 exact Ze8 (δ:=[some (nD h),some (ZG ws)]) rfl e2
end K49
namespace K49
open DL L2
noncomputable def txF:DL.Env->Option Out:=(Z4 (UJ (Zw Y0 "homes" (Za 0)) (Zw Xu "ways" (Za 0))) (Xe 2 (Ym 3 (Ym 4 gsNil))) (Ug 2 (Zm 2 Up [] (Zb (Za 3) (Zb (Za 4) eNil)))))
noncomputable def nuS(i:Nat):DL.Env->Option D:=(eOp addX (eC (.str [116,97,98,108,101,32])) (eBM joinD (eC (.str [32])) (Zb (Z5 (ZQ (Za i)) (Zx 0) (λ_=>some true) (eCB strD (Zb (Za 0) eNil)) 1 []) eNil)))
noncomputable def tx1:DL.Env->Option Out:=(Zp 1 (ZU (Zb (YU "signs" Ur (Za 0) eNil) (Zb (YU "block_length" Uq (Za 0) eNil) (Zb (Zw Xr "ahead" (Za 0)) (Zb (eCB lenD (Zb (Zw Y0 "homes" (Za 0)) eNil)) eNil))))))
noncomputable def tx2:DL.Env->Option Out:=(Zp 2 (ZU (Zb (nuS 1) eNil)))
noncomputable def tx3:DL.Env->Option Out:=(Z3 2 (eIf (xB (eOp eqD (Zw Y5 "lead" (Za 0)) (eC (.str [])))) (eC (.str [108,101,97,100])) (eOp addX (eC (.str [108,101,97,100,32])) (Zw Y5 "lead" (Za 0)))))
noncomputable def tx4:DL.Env->Option Out:=(Z3 2 (eOp addX (eC (.str [102,105,114,115,116,32])) (eCB strD (Zb (Zw Xs "first" (Za 0)) eNil))))
theorem ZhD:f_QL=Zh tx1 (Zh tx2 (Zh tx3 (Zh tx4 (Zh txF (Zq (eBM joinD (eC (.str [10])) (Zb (Za 2) eNil))))))):=rfl
theorem Zep{t:T}(o:t.Ok){i:Nat}{δ:DL.Env}(h:Za i δ=some t.hd)(hb:YT 1 δ []=[none]):nuS i δ=some (.str (Zr Ys [Zf t.n,Zf t.q,Zf t.a,Zf t.m])):=by
 have hn:=o.n4;have hq:=o.q4;have hm:=o.m6;have ha:=o.am
 have hc:Yn (Zx 0) (λ_=>some true) (eCB strD (Zb (Za 0) eNil)) [none] ([t.n,t.q,t.a,t.m].map nD)=some ([t.n,t.q,t.a,t.m].map λk=>D.str (Zf k)):=by
  refine V4 nD (λk=>D.str (Zf k)) [t.n,t.q,t.a,t.m] λk hk=>⟨[some (nD k)],rfl,(Z0 (Zg (x:=nD k) rfl nil_of)).trans (Qe ?_)⟩
  simp only [List.mem_cons,List.not_mem_nil,or_false]at hk;rcases hk with rfl|rfl|rfl|rfl<;>omega
 have hi:ZQ (Za i) δ=some ([t.n,t.q,t.a,t.m].map nD):=by unfold ZQ;rw [h];rfl
 have e1:Z5 (ZQ (Za i)) (Zx 0) (λ_=>some true) (eCB strD (Zb (Za 0) eNil)) 1 [] δ=some (.lst ([Zf t.n,Zf t.q,Zf t.a,Zf t.m].map D.str)):=V0 hi hb hc (by simp);have h1:=Xi (n:=t.n) (by omega);have h2:=Xi (n:=t.q) (by omega);have h3:=Xi (n:=t.a) ha;have h4:=Xi (n:=t.m) (by omega)
 have e2:joinD [32] [.lst ([Zf t.n,Zf t.q,Zf t.a,Zf t.m].map D.str)]=some (.str (Yw [32] [Zf t.n,Zf t.q,Zf t.a,Zf t.m])):=by
  unfold joinD;dsimp only;rw [ZbB];dsimp only;rw [if_pos (by rw [PySem.sizeLine_eq];simp only [List.map_cons,List.map_nil,List.sum_cons,List.sum_nil,List.length_cons,List.length_nil];omega)]
 have hjl:=QX 32 [Zf t.n,Zf t.q,Zf t.a,Zf t.m];simp only [List.map_cons,List.map_nil,List.sum_cons,List.sum_nil,List.length_cons,List.length_nil]at hjl;refine(Zn (x:=.str [116,97,98,108,101,32]) (y:=.str (Yw [32] [Zf t.n,Zf t.q,Zf t.a,Zf t.m])) rfl ((UL (s:=[32]) rfl (Zg e1 nil_of)).trans e2)).trans ?_;rw [add_str (by show 6+_<=_;omega),Zca]
abbrev TE(t:T)(X:List (List Nat))(v3 v4:Option D):DL.Env:=[some t.obj,some t.hd,some (.lst (X.map D.str)),v3,v4]
theorem Zgu{i:Nat}{ε:DL.Env->Option D}{δ:DL.Env}{xs ys:List D}(h1:Za i δ=some (.lst xs))(h2:ε δ=some (.lst ys))(hl:xs.length+ys.length<=100000):Ug i ε δ=some (.nx (δ.set i (some (.lst (xs++ys))))):=by
 unfold Ug;rw [h1,h2];dsimp only;rw [if_pos (by rw [PySem.sizeLine_eq];omega)]
abbrev TE0(a b:D)(X:List D)(v3 v4:Option D):DL.Env:=[some a,some b,some (.lst X),v3,v4]
theorem Zeq(a b:D){q m:Nat}(hq:q<=4)(hm:m<=6):∀(hs:List Nat)(W:List (List Pr))(X:List (List Nat))(v3 v4:Option D),(∀h∈hs,h<1000000)->(∀ws∈W,ws.length<=4)->(∀ws∈W,∀p∈ws,PrOk q m p)->X.length+5*W.length<=1000 ->
 ∃w3 w4,YI (Xe 2 (Ym 3 (Ym 4 gsNil))) (Ug 2 (Zm 2 Up [] (Zb (Za 3) (Zb (Za 4) eNil)))) (Y4 (hs.map nD) (W.map ZG)) (TE0 a b (X.map D.str) v3 v4)=some (.nx (TE0 a b ((X++Z7 hs W).map D.str) w3 w4))
 | [],W,X,v3,v4,_,_,_,_=>⟨v3,v4,by
  have e:Z7 [] W=[]:=rfl;rw [e,List.append_nil];rfl⟩
 |h::hs,[],X,v3,v4,_,_,_,_=>⟨v3,v4,by
  have e:Z7 (h::hs) []=[]:=rfl;rw [e,List.append_nil];rfl⟩
 |h::hs,ws::W,X,v3,v4,h1,h2,h3,h4=>by
  have hl:=h2 ws List.mem_cons_self;rw [List.length_cons]at h4;have hbl:=blk_len (h:=h) (ws:=ws) rfl;have hpl:=ZdV hq hm (h1 h List.mem_cons_self) hl (h3 ws List.mem_cons_self);obtain⟨w3,w4,ih⟩:=Zeq a b hq hm hs W (X++blk h ws) (some (nD h)) (some (ZG ws)) (λx hx=>h1 x (List.mem_cons_of_mem _ hx)) (λx hx=>h2 x (List.mem_cons_of_mem _ hx)) (λx hx=>h3 x (List.mem_cons_of_mem _ hx)) (by rw [List.length_append,hbl];omega)
  refine⟨w3,w4,?_⟩;have eb:Z7 (h::hs) (ws::W)=blk h ws++Z7 hs W:=rfl;rw [eb,<-List.append_assoc];have ez:Y4 ((h::hs).map nD) ((ws::W).map ZG)=D.tup [nD h,ZG ws]::Y4 (hs.map nD) (W.map ZG):=rfl;rw [ez];generalize blk h ws=B at *;generalize ZG ws=Y at *;generalize nD h=Z at *;have e2:Zm 2 Up [] (Zb (Za 3) (Zb (Za 4) eNil)) (TE0 a b (X.map D.str) (some Z) (some Y))=some (.lst (B.map D.str)):=(ZI (n:=2) (Zg (x:=Z) rfl (Zg (x:=Y) rfl nil_of)) rfl).trans hpl
  have e1:=Zgu (i:=2) (ε:=Zm 2 Up [] (Zb (Za 3) (Zb (Za 4) eNil))) (δ:=TE0 a b (X.map D.str) (some Z) (some Y)) (xs:=X.map D.str) rfl e2 (by rw [List.length_map,List.length_map,hbl];omega);rw [<-List.map_append]at e1;rw [Za1 (δ1:=TE0 a b (X.map D.str) (some Z) (some Y)) (gt2 (x:=Z) (y:=Y) (δ:=TE0 a b (X.map D.str) v3 v4)),e1];exact ih
theorem Zfb{t:T}(o:t.Ok):QM [t.obj]=some (.str t.text):=by
 have hll:=o.ll;have hm6:=o.m6;have hfm:=o.fm
 have t1:tx1 [some t.obj,none,none,none,none]=some (.nx [some t.obj,some t.hd,none,none,none]):=by
  refine ZO (VZ (Zg (ZaB o rfl) (Zg (ZaC o rfl) (Zg (Zaj rfl) (Zg ((Z0 (Zg (Q6 rfl) nil_of)).trans (show _=some (nD t.m)from ?_)) nil_of)))) (show 4<=1000 by decide));rw [ZcL,List.length_map,o.hl]
 have t2:tx2 [some t.obj,some t.hd,none,none,none]=some (.nx (TE t [Zr Ys [Zf t.n,Zf t.q,Zf t.a,Zf t.m]] none none)):=ZO (VZ (Zg (Zep o rfl rfl) nil_of) (show 1<=1000 by decide));generalize hR1:Zr Ys [Zf t.n,Zf t.q,Zf t.a,Zf t.m]=R1 at t2
 have t3:tx3 (TE t [R1] none none)=some (.nx (TE t [R1,YC t.lead] none none)):=by
  refine(XG (xs:=[D.str R1]) (d:=.str (YC t.lead)) rfl ?_ (show 1<=1000000 by decide)).trans rfl;have e:xB (eOp eqD (Zw Y5 "lead" (Za 0)) (eC (.str []))) (TE t [R1] none none)=some (decide (t.lead=[])):=ZH ((Zn (x:=.str t.lead) (y:=.str []) (Q5 rfl) rfl).trans (Ui _ _));unfold YC
  by_cases hz:t.lead=[]
  · rw [decide_eq_true hz]at e
    rw [if_pos hz];exact(QZ e).trans rfl
  · rw [decide_eq_false hz]at e
    rw [if_neg hz];exact(Q0 e).trans ((Zn (x:=.str [108,101,97,100,32]) (y:=.str t.lead) rfl (Q5 rfl)).trans ((add_str (by show 5+_<=_;omega)).trans (by rw [Za2])))
 have hfl:=Xi (n:=t.f) (by omega)
 have t4:tx4 (TE t [R1,YC t.lead] none none)=some (.nx (TE t [R1,YC t.lead,Zr YB [Zf t.f]] none none)):=by
  refine(XG (xs:=[D.str R1,.str (YC t.lead)]) (d:=.str (Zr YB [Zf t.f])) rfl ?_ (show 2<=1000000 by decide)).trans rfl;exact(Zn (x:=.str [102,105,114,115,116,32]) (y:=.str (Zf t.f)) rfl ((Z0 (Zg (Zai rfl) nil_of)).trans (Qe (by omega)))).trans ((add_str (by show 6+_<=_;omega)).trans (by rw [ZaD]))
 obtain⟨w3,w4,g⟩:=Zeq t.obj t.hd o.q4 o.m6 t.hs t.W [R1,YC t.lead,Zr YB [Zf t.f]] none none o.hb (λws hws=>by rw [o.rl ws hws];exact o.n4) o.pr (by rw [o.wl];show 3+_<=_;omega)
 have hi:UJ (Zw Y0 "homes" (Za 0)) (Zw Xu "ways" (Za 0)) (TE t [R1,YC t.lead,Zr YB [Zf t.f]] none none)=some (Y4 (t.hs.map nD) (t.W.map ZG)):=by
  unfold UJ;rw [Q6 (t:=t) rfl,Q7 (t:=t) rfl];rfl
 have hrows:[R1,YC t.lead,Zr YB [Zf t.f]]++Z7 t.hs t.W=t.rows:=by rw [<-hR1];rfl
 rw [hrows]at g;have t5:txF (TE t [R1,YC t.lead,Zr YB [Zf t.f]] none none)=some (.nx (TE t t.rows w3 w4)):=XU hi g;refine Yc (δ:=[some t.obj,none,none,none,none]) rfl ?_;rw [ZhD,Zu t1,Zu t2,Zu t3,Zu t4,Zu t5];exact Yz ((UL (s:=[10]) rfl (Zg (x:=.lst (t.rows.map D.str)) rfl nil_of)).trans (t.join_ok o))
end K49
namespace K49
open PySem DL L2
theorem ZbN(a:List Nat)(lo k:Nat)(h1:(a.takeWhile Unicode.isSpace).length=lo)(h2:((a.drop lo).reverse.takeWhile Unicode.isSpace).length=k):VY a=(a.drop lo).take (a.length-k-lo):=by
 have e1:stripLo Unicode.isSpace true (tx a)=lo:=by unfold stripLo;rw [if_pos rfl,Xp,h1]
 have e2:stripHi Unicode.isSpace true (tx a) lo=a.length-k:=by unfold stripHi;rw [if_pos rfl,Xp,h2,Yh]
 unfold VY Txt.strip Txt.stripBy
 by_cases hs:stripSame Unicode.isSpace true true (tx a)=true
 · rw [if_pos hs,Xp]
   unfold stripSame at hs;rw [e1,e2,Yh,Bool.and_eq_true,beq_iff_eq,beq_iff_eq]at hs;rw [hs.1,hs.2,List.drop_zero,Nat.sub_zero,List.take_length]
 · rw [if_neg hs]
   unfold stripped;rw [e1,e2,JA,Xp]
theorem Zfc:∀c∈cs_MARK_SIGNS,Unicode.isSpace c=false:=by decide +kernel
theorem l_sp:Unicode.isSpace 108=false/\Unicode.isSpace 100=false/\Unicode.isSpace 32=true:=by decide +kernel
theorem Zcb{lead:List Nat}(h:∀c∈lead,c∈cs_MARK_SIGNS):VY ([108,101,97,100,32]++lead)=YC lead:=by
 have h1:(([108,101,97,100,32]++lead).takeWhile Unicode.isSpace).length=0:=by
  show(List.takeWhile Unicode.isSpace (108::([101,97,100,32]++lead))).length=0;rw [List.takeWhile_cons,l_sp.1,if_neg Bool.false_ne_true];rfl
 unfold YC
 by_cases hz:lead=[]
 · subst hz
   rw [if_pos rfl]
   have h2:((([108,101,97,100,32]++([]:List Nat)).drop 0).reverse.takeWhile Unicode.isSpace).length=1:=by
    show(List.takeWhile Unicode.isSpace (32::100::[97,101,108])).length=1;rw [List.takeWhile_cons,l_sp.2.2,if_pos rfl,List.takeWhile_cons,l_sp.2.1,if_neg Bool.false_ne_true];rfl
   rw [ZbN _ 0 1 h1 h2];rfl
 · rw [if_neg hz]
   obtain⟨c,r,hr⟩:∃c r,lead.reverse=c::r:=by
    cases hq:lead.reverse with
    |nil=>exact(hz (List.reverse_eq_nil_iff.mp hq)).elim
    |cons c r=>exact⟨c,r,rfl⟩
   have hc:c∈lead:=List.mem_reverse.mp (by rw [hr];exact List.mem_cons_self)
   have h2:((([108,101,97,100,32]++lead).drop 0).reverse.takeWhile Unicode.isSpace).length=0:=by
    rw [List.drop_zero,List.reverse_append,hr,List.cons_append,List.takeWhile_cons,Zfc c (h c hc),if_neg Bool.false_ne_true];rfl
   rw [ZbN _ 0 0 h1 h2,List.drop_zero,Nat.sub_zero,Nat.sub_zero,List.take_length,Za2]
abbrev XE(a0 a1 a2 a3 a4 a5:Option D)(X:List D)(v7 v8 v9:Option D):DL.Env:=[a0,a1,a2,a3,a4,a5,some (.lst X),v7,v8,v9]
noncomputable def iB:DL.Env->Option Out:=(Z3 6 (eOp addX (eOp addX (eOp addX (eC (.str [119,97,121,32])) (Za 8)) (eC (.str [32]))) (eCB strD (Zb (Za 9) eNil))))
theorem Zer(a0 a1 a2 a3 a4 a5:Option D)(v7:Option D){q m:Nat}(hq:q<=4)(hm:m<=6):∀(ws:List Pr)(X:List (List Nat))(v8 v9:Option D),(∀p∈ws,PrOk q m p)->X.length+ws.length<=1000 ->
 ∃w8 w9,YI (Xe 2 (Ym 8 (Ym 9 gsNil))) iB (ws.map prD) (XE a0 a1 a2 a3 a4 a5 (X.map D.str) v7 v8 v9)=some (.nx (XE a0 a1 a2 a3 a4 a5 ((X++ws.map Yd).map D.str) v7 w8 w9))
 | [],X,v8,v9,_,_=>⟨v8,v9,by rw [show([]:List Pr).map Yd=[]from rfl,List.append_nil];rfl⟩
 |p::ws,X,v8,v9,h1,h2=>by
  rw [List.length_cons]at h2;have hp:=h1 p List.mem_cons_self;have hln:=hp.ln;have hlt:=hp.lt;have hf:=Xi (n:=p.2) (by omega);have hs:=Qe (n:=p.2) (by omega);have hw:=Zdn p;obtain⟨w8,w9,ih⟩:=Zer a0 a1 a2 a3 a4 a5 v7 hq hm ws (X++[Yd p]) (some (.str p.1)) (some (nD p.2)) (λx hx=>h1 x (List.mem_cons_of_mem _ hx)) (by rw [List.length_append,List.length_singleton];omega)
  refine⟨w8,w9,?_⟩;rw [List.append_assoc]at ih;rw [List.map_cons (f:=Yd),List.map_cons (f:=prD)]
  have e1:iB (XE a0 a1 a2 a3 a4 a5 (X.map D.str) v7 (some (.str p.1)) (some (nD p.2)))=some (.nx (XE a0 a1 a2 a3 a4 a5 ((X++[Yd p]).map D.str) v7 (some (.str p.1)) (some (nD p.2)))):=by
   generalize Yd p=Y at *;generalize Zf p.2=w at *;refine(XG (xs:=X.map D.str) (d:=.str Y) rfl ?_ (by rw [List.length_map];omega)).trans ?_
   · refine(Zn (x:=.str (([119,97,121,32]++p.1)++[32])) (y:=.str w) ((Zn (x:=.str ([119,97,121,32]++p.1)) (y:=.str [32]) ((Zn (x:=.str [119,97,121,32]) (y:=.str p.1) rfl rfl).trans (add_str (by show 4+_<=_;omega))) rfl).trans (add_str (by rw [List.length_append];show 4+_+1<=_;omega))) ((Z0 (Zg (x:=nD p.2) rfl nil_of)).trans hs)).trans ((add_str (by rw [List.length_append,List.length_append];show 4+_+1+_<=_;omega)).trans (by rw [hw]))
   · rw [List.map_append]
     rfl
  rw [Za1 (δ1:=XE a0 a1 a2 a3 a4 a5 (X.map D.str) v7 (some (.str p.1)) (some (nD p.2))) (gt2 (x:=.str p.1) (y:=nD p.2) (δ:=XE a0 a1 a2 a3 a4 a5 (X.map D.str) v7 v8 v9)),e1];exact ih
theorem Za3(h:Nat)(ws:List Pr):∀(hs:List Nat)(W:List (List Pr)),hs.length=W.length->Z7 (hs++[h]) (W++[ws])=Z7 hs W++blk h ws
 | [],[],_=>by show blk h ws++[]=[]++blk h ws;rw [List.append_nil];rfl
 | [],_::_,e=>by simp at e
 |_::_,[],e=>by simp at e
 |h0::hs,w0::W,e=>by
  show blk h0 w0++Z7 (hs++[h]) (W++[ws])=(blk h0 w0++Z7 hs W)++blk h ws;rw [Za3 h ws hs W (by simpa using e),List.append_assoc]
noncomputable def lB:DL.Env->Option Out:=(Zh (Z3 6 (eOp addX (eC (.str [112,108,97,99,101,32])) (eCB strD (Zb (eOp ixD (Za 3) (Za 7)) eNil)))) (Z4 (ZQ (eOp ixD (Za 4) (Za 7))) (Xe 2 (Ym 8 (Ym 9 gsNil))) iB))
abbrev LTE(t:T)(X:List (List Nat))(v7 v8 v9:Option D):DL.Env:=XE (some (.str t.lead)) (some (nD t.f)) (some (nD t.a)) (some (.lst (t.hs.map nD))) (some (.lst (t.W.map rowLD))) (some t.hd) (X.map D.str) v7 v8 v9
theorem Zfd{t:T}(o:t.Ok)(B:List (List Nat))(hB:B.length<=3){i:Nat}(hi:i<t.m)(v8 v9:Option D):∃w8 w9,lB (LTE t (B++Z7 (t.hs.take i) (t.W.take i)) (some (nD i)) v8 v9)=some (.nx (LTE t (B++Z7 (t.hs.take (i+1)) (t.W.take (i+1))) (some (nD i)) w8 w9)):=by
 have h6:=o.m6;have h4:=o.n4;have h1:t.hs[i]? = some (t.hs[i]'(by rw [o.hl];exact hi)):=List.getElem?_eq_getElem _;have h2:t.W[i]? = some (t.W[i]'(by rw [o.wl];exact hi)):=List.getElem?_eq_getElem _;generalize t.hs[i]'(by rw [o.hl];exact hi)=h at h1;generalize t.W[i]'(by rw [o.wl];exact hi)=ws at h2;have hh:=o.hb h (List.mem_of_getElem? h1);have hws:=List.mem_of_getElem? h2
 have hn:=o.rl ws hws;have hbl:=Zah (n:=t.n) (t.hs.take i) (t.W.take i) (λx hx=>o.rl x (List.mem_of_mem_take hx)) (by rw [List.length_take,List.length_take,o.hl,o.wl])
 have hbl2:(Z7 (t.hs.take i) (t.W.take i)).length<=6*5:=by
  rw [hbl];exact Nat.mul_le_mul (by rw [List.length_take];omega) (by omega)
 have eb:=Za3 h ws (t.hs.take i) (t.W.take i) (by rw [List.length_take,List.length_take,o.hl,o.wl]);rw [<-Qh h1,<-Qh h2]at eb;rw [eb];generalize Z7 (t.hs.take i) (t.W.take i)=Y at *;have hpf:=Zbi (Zf h);have hs:=Qe hh;have hfl:=Xi hh;unfold blk;generalize Zr YK [Zf h]=R at *;generalize Zf h=w at *
 have t1:Z3 6 (eOp addX (eC (.str [112,108,97,99,101,32])) (eCB strD (Zb (eOp ixD (Za 3) (Za 7)) eNil))) (LTE t (B++Y) (some (nD i)) v8 v9)=some (.nx (LTE t (B++Y++[R]) (some (nD i)) v8 v9)):=by
  refine(XG (xs:=(B++Y).map D.str) (d:=.str R) rfl ?_ (by rw [List.length_map,List.length_append];omega)).trans ?_
  · exact(Zn (x:=.str [112,108,97,99,101,32]) (y:=.str w) rfl ((Z0 (Zg ((Zn (x:=.lst (t.hs.map nD)) (y:=nD i) rfl rfl).trans (Yr (x:=nD h) (by rw [List.getElem?_map,h1];rfl))) nil_of)).trans hs)).trans ((add_str (by show 6+_<=_;omega)).trans (by rw [hpf]))
  · show _=some (Out.nx (XE _ _ _ _ _ _ ((B++Y++[R]).map D.str) _ _ _))
    rw [List.map_append (l₂:=[R])];rfl
 obtain⟨w8,w9,g⟩:=Zer (some (.str t.lead)) (some (nD t.f)) (some (nD t.a)) (some (.lst (t.hs.map nD))) (some (.lst (t.W.map rowLD))) (some t.hd) (some (nD i)) o.q4 o.m6 ws (B++Y++[R]) v8 v9 (o.pr ws hws) (by rw [List.length_append,List.length_append,List.length_singleton];omega);refine⟨w8,w9,?_⟩;have e4:eOp ixD (Za 4) (Za 7) (LTE t (B++Y++[R]) (some (nD i)) v8 v9)=some (rowLD ws):=(Zn (x:=.lst (t.W.map rowLD)) (y:=nD i) rfl rfl).trans (Yr (by rw [List.getElem?_map,h2];rfl))
 have hi4:ZQ (eOp ixD (Za 4) (Za 7)) (LTE t (B++Y++[R]) (some (nD i)) v8 v9)=some (ws.map prD):=by unfold ZQ;rw [e4];rfl
 have t2:Z4 (ZQ (eOp ixD (Za 4) (Za 7))) (Xe 2 (Ym 8 (Ym 9 gsNil))) iB (LTE t (B++Y++[R]) (some (nD i)) v8 v9)=some (.nx (LTE t (B++Y++[R]++ws.map Yd) (some (nD i)) w8 w9)):=XU hi4 g;unfold lB;rw [Zu t1,t2,List.append_assoc (B++Y),List.append_assoc B Y];rfl
noncomputable def lx1:DL.Env->Option Out:=(Zp 5 (ZU (Zb (eCB lenD (Zb (eOp ixD (Za 4) (eC (.int 0))) eNil)) (Zb (eCB lenD (Zb (eOp ixD (eOp ixD (eOp ixD (Za 4) (eC (.int 0))) (eC (.int 0))) (eC (.int 0))) eNil)) (Zb (Za 2) (Zb (eCB lenD (Zb (Za 3) eNil)) eNil))))))
noncomputable def lx2:DL.Env->Option Out:=(Zp 6 (ZU (Zb (nuS 5) eNil)))
noncomputable def lx3:DL.Env->Option Out:=(Z3 6 (eBM stripD (eOp addX (eC (.str [108,101,97,100,32])) (Za 0)) eNil))
noncomputable def lx4:DL.Env->Option Out:=(Z3 6 (eOp addX (eC (.str [102,105,114,115,116,32])) (eCB strD (Zb (Za 1) eNil))))
noncomputable def lxF:DL.Env->Option Out:=(Z4 (ZY (Zb (eCB lenD (Zb (Za 3) eNil)) eNil)) (Zx 7) lB)
theorem ZhE:f_QO=Zh lx1 (Zh lx2 (Zh lx3 (Zh lx4 (Zh lxF (Zq (eBM joinD (eC (.str [10])) (Zb (Za 6) eNil))))))):=rfl
theorem Zh8{t:T}(o:t.Ok){δ:DL.Env}{i:Nat}(h:Za i δ=some (.lst (t.W.map rowLD))):eCB lenD (Zb (eOp ixD (Za i) (eC (.int 0))) eNil) δ=some (nD t.n)/\eCB lenD (Zb (eOp ixD (eOp ixD (eOp ixD (Za i) (eC (.int 0))) (eC (.int 0))) (eC (.int 0))) eNil) δ=some (nD t.q):=by
 obtain⟨p0,ws0,W0,h1,h2,h3⟩:=t.first_row o;have h4:=o.q4;rw [h1]at h;have e:eOp ixD (Za i) (eC (.int 0)) δ=some (rowLD (p0::ws0)):=(Zn h (y:=nD 0) rfl).trans (Yr rfl);refine⟨(Z0 (Zg e nil_of)).trans ?_,(Z0 (Zg ((Zn (y:=nD 0) ((Zn e (y:=nD 0) rfl).trans (Yr (x:=prD p0) rfl)) rfl).trans (ix_tup (x:=.str p0.1) rfl)) nil_of)).trans ?_⟩
 · show some (D.int (((p0::ws0).map prD).length:Int))=_
   rw [List.length_map,h2]
 · rw [len_str (by omega),h3]
theorem Zbj{t:T}(o:t.Ok):QT [.str t.lead,nD t.f,nD t.a,.lst (t.hs.map nD),.lst (t.W.map rowLD)]=some (.str t.text):=by
 have hll:=o.ll;have hm6:=o.m6;have hfm:=o.fm
 have t1:lx1 [some (.str t.lead),some (nD t.f),some (nD t.a),some (.lst (t.hs.map nD)),some (.lst (t.W.map rowLD)),none,none,none,none,none]=some (.nx [some (.str t.lead),some (nD t.f),some (nD t.a),some (.lst (t.hs.map nD)),some (.lst (t.W.map rowLD)),some t.hd,none,none,none,none]):=by
  obtain⟨l1,l2⟩:=Zh8 o (i:=4) (δ:=[some (.str t.lead),some (nD t.f),some (nD t.a),some (.lst (t.hs.map nD)),some (.lst (t.W.map rowLD)),none,none,none,none,none]) rfl;refine ZO (VZ (Zg l1 (Zg l2 (Zg (x:=nD t.a) rfl (Zg ((Z0 (Zg (x:=.lst (t.hs.map nD)) rfl nil_of)).trans (show _=some (nD t.m)from ?_)) nil_of)))) (show 4<=1000 by decide));rw [Um,List.length_map,o.hl]
 have t2:lx2 [some (.str t.lead),some (nD t.f),some (nD t.a),some (.lst (t.hs.map nD)),some (.lst (t.W.map rowLD)),some t.hd,none,none,none,none]=some (.nx (LTE t [Zr Ys [Zf t.n,Zf t.q,Zf t.a,Zf t.m]] none none none)):=ZO (VZ (Zg (Zep o rfl rfl) nil_of) (show 1<=1000 by decide));have hrows:t.rows=Zr Ys [Zf t.n,Zf t.q,Zf t.a,Zf t.m]::YC t.lead::Zr YB [Zf t.f]::Z7 t.hs t.W:=rfl
 have hsl:=Zcb o.lc;have hff:=ZaD (Zf t.f);have hfs:=Qe (n:=t.f) (by omega);have hfl:=Xi (n:=t.f) (by omega);generalize Zr Ys [Zf t.n,Zf t.q,Zf t.a,Zf t.m]=R1 at *;generalize YC t.lead=R2 at *;generalize Zr YB [Zf t.f]=R3 at *;generalize Zf t.f=w at *
 have t3:lx3 (LTE t [R1] none none none)=some (.nx (LTE t [R1,R2] none none none)):=by
  refine(XG (xs:=[D.str R1]) (d:=.str R2) rfl ((UL (s:=[108,101,97,100,32]++t.lead) ((Zn (x:=.str [108,101,97,100,32]) (y:=.str t.lead) rfl rfl).trans (add_str (by show 5+_<=_;omega))) nil_of).trans ?_) (show 1<=1000000 by decide)).trans rfl;unfold stripD;dsimp only;rw [if_pos (by rw [List.length_append,PySem.sizeLine_eq];show 5+_<=_;omega),hsl]
 have t4:lx4 (LTE t [R1,R2] none none none)=some (.nx (LTE t [R1,R2,R3] none none none)):=by
  refine(XG (xs:=[D.str R1,.str R2]) (d:=.str R3) rfl ?_ (show 2<=1000000 by decide)).trans rfl;exact(Zn (x:=.str [102,105,114,115,116,32]) (y:=.str w) rfl ((Z0 (Zg (x:=nD t.f) rfl nil_of)).trans hfs)).trans ((add_str (by show 6+_<=_;omega)).trans (by rw [hff]))
 obtain⟨δ',g1,v7,v8,v9,e⟩:=Uk (γ:=Zx 7) (φ:=lB) (λk δ=>∃v7 v8 v9,δ=LTE t ([R1,R2,R3]++Z7 (t.hs.take k) (t.W.take k)) v7 v8 v9) (ZR 0 1 t.m) 0 (LTE t ([R1,R2,R3]++Z7 (t.hs.take 0) (t.W.take 0)) none none none) ⟨none,none,none,rfl⟩ (by
  intro j x δ hx ⟨v7,v8,v9,e⟩;subst e;obtain⟨hj,rfl⟩:=U8 hx;rw [Nat.zero_add];obtain⟨w8,w9,g⟩:=Zfd o [R1,R2,R3] (by simp) hj v8 v9;exact⟨_,rfl,_,g,_,w8,w9,rfl⟩)
 subst e;have et1:t.hs.take t.m=t.hs:=List.take_of_length_le (by rw [o.hl];exact Nat.le_refl _);have et2:t.W.take t.m=t.W:=List.take_of_length_le (by rw [o.wl];exact Nat.le_refl _);have hr3:[R1,R2,R3]++Z7 t.hs t.W=t.rows:=hrows.symm;rw [Ul,Nat.zero_add,et1,et2,hr3]at g1
 have ei:ZY (Zb (eCB lenD (Zb (Za 3) eNil)) eNil) (LTE t [R1,R2,R3] none none none)=some (ZR 0 1 t.m):=by
  rw [UK (j:=(t.m:Int)) (Zg ((Z0 (Zg (x:=.lst (t.hs.map nD)) rfl nil_of)).trans (by rw [Um,List.length_map,o.hl])) nil_of) (by omega) (by omega),Int.toNat_natCast]
 have t5:lxF (LTE t [R1,R2,R3] none none none)=some (.nx (LTE t t.rows v7 v8 v9)):=XU ei g1;refine Yc (δ:=[some (.str t.lead),some (nD t.f),some (nD t.a),some (.lst (t.hs.map nD)),some (.lst (t.W.map rowLD)),none,none,none,none,none]) rfl ?_;rw [ZhE,Zu t1,Zu t2,Zu t3,Zu t4,Zu t5];exact Yz ((UL (s:=[10]) rfl (Zg (x:=.lst (t.rows.map D.str)) rfl nil_of)).trans (t.join_ok o))
end K49
namespace K49
open DL L2
noncomputable def sgB:DL.Env->Option Out:=(Zh (Zp 3 (eOp addX (Za 3) (eOp ixD (Za 2) (eOp modW (Za 0) (eCB lenD (Zb (Za 2) eNil)))))) (Zp 0 (eOp fdivW (Za 0) (eCB lenD (Zb (Za 2) eNil)))))
theorem ZhF:f_QM=Zh (Zp 2 (eC (.str cs_MARK_SIGNS))) (Zh (Zp 3 (eC (.str []))) (Zh (Z4 (ZY (Zb (Za 1) eNil)) (Zx 4) sgB) (Zq (Za 3)))):=rfl
theorem Q8:cs_MARK_SIGNS.length=36:=rfl
theorem ZbO(c:Int)(k:Nat)(hk:k<=10):∃w,UO [.int c,nD k]=some (.str w)/\w.length=k/\∀d∈w,d∈cs_MARK_SIGNS:=by
 obtain⟨δ',g1,c',w,v4,e,hl,hw⟩:=Uk (γ:=Zx 4) (φ:=sgB) (λj δ=>∃(c:Int) (w:List Nat) (v4:Option D),δ=[some (.int c),some (nD k),some (.str cs_MARK_SIGNS),some (.str w),v4]/\w.length=j/\∀d∈w,d∈cs_MARK_SIGNS) (ZR 0 1 k) 0 [some (.int c),some (nD k),some (.str cs_MARK_SIGNS),some (.str []),none] ⟨c,[],none,rfl,rfl,λ_ z=>nomatch z⟩ (by
  intro j x δ hx ⟨c,w,v4,e,hl,hw⟩;subst e;obtain⟨hj,rfl⟩:=U8 hx;obtain⟨a,ha,ha2⟩:=Us c (m:=36) (by decide);have hd:cs_MARK_SIGNS[a]? = some (cs_MARK_SIGNS[a]'(by rw [Q8];exact ha2)):=List.getElem?_eq_getElem _;have hdm:=List.mem_of_getElem? hd;generalize cs_MARK_SIGNS[a]'(by rw [Q8];exact ha2)=d at hd hdm;have hlen:∀r,eCB lenD (Zb (Za 2) eNil) [some (.int c),some (nD k),some (.str cs_MARK_SIGNS),some (.str r),some (nD j)]=some (.int 36):=λr=>(Z0 (Zg (x:=.str cs_MARK_SIGNS) rfl nil_of)).trans (len_str (by rw [Q8];decide))
  have t1:Zp 3 (eOp addX (Za 3) (eOp ixD (Za 2) (eOp modW (Za 0) (eCB lenD (Zb (Za 2) eNil))))) [some (.int c),some (nD k),some (.str cs_MARK_SIGNS),some (.str w),some (nD j)]=some (.nx [some (.int c),some (nD k),some (.str cs_MARK_SIGNS),some (.str (w++[d])),some (nD j)]):=
   ZO ((Zn (x:=.str w) (y:=.str [d]) rfl ((Zn (x:=.str cs_MARK_SIGNS) (y:=nD a) rfl ((Zn (x:=.int c) (y:=.int 36) rfl (hlen w)).trans ha)).trans (ix_str hd (by rw [Q8];decide)))).trans (add_str (by show w.length+1<=_;omega)))
  have t2:Zp 0 (eOp fdivW (Za 0) (eCB lenD (Zb (Za 2) eNil))) [some (.int c),some (nD k),some (.str cs_MARK_SIGNS),some (.str (w++[d])),some (nD j)]=some (.nx [some (.int (c.fdiv 36)),some (nD k),some (.str cs_MARK_SIGNS),some (.str (w++[d])),some (nD j)]):=
   ZO ((Zn (x:=.int c) (y:=.int 36) rfl (hlen _)).trans (QJ (by decide) (QI (Nat.le_trans (show(36:Int).natAbs<=36 by decide) (by decide +kernel)))))
  refine⟨_,rfl,_,(Zu t1).trans t2,c.fdiv 36,w++[d],_,rfl,by rw [List.length_append,List.length_singleton];omega,λy hy => ?_⟩;rcases List.mem_append.mp hy with z|z
  · exact hw y z
  · rw [List.mem_singleton.mp z];exact hdm)
 subst e;rw [Ul,Nat.zero_add]at hl
 have ei:ZY (Zb (Za 1) eNil) [some (.int c),some (nD k),some (.str cs_MARK_SIGNS),some (.str []),none]=some (ZR 0 1 k):=by
  rw [UK (j:=(k:Int)) (Zg rfl nil_of) (by omega) (by omega),Int.toNat_natCast]
 refine⟨w,Yc (δ:=[some (.int c),some (nD k),none,none,none]) rfl ?_,hl,hw⟩;rw [ZhF,Zu (δ':=[some (.int c),some (nD k),some (.str cs_MARK_SIGNS),none,none]) (ZO rfl),Zu (δ':=[some (.int c),some (nD k),some (.str cs_MARK_SIGNS),some (.str []),none]) (ZO rfl),Zu (XU ei g1)];rfl
theorem Za4(c:Int):∃a,UP [.int c]=some (nD a)/\a<1000000:=by
 obtain⟨i,hi,h6⟩:=Us c (m:=6) (by decide);have e0:eOp fdivW (Za 0) (eC (.int 6)) [some (.int c)]=some (.int (c.fdiv 6)):=(Zn (x:=.int c) (y:=.int 6) rfl rfl).trans (QJ (by decide) (QI (Nat.le_trans (show(6:Int).natAbs<=6 by decide) (by decide +kernel))));have e1:eOp modW (Za 0) (eC (.int 6)) [some (.int c)]=some (nD i):=(Zn (x:=.int c) (y:=.int 6) rfl rfl).trans hi;have e2:ZU (Zb (eC (.int 10)) (Zb (eC (.int 100)) (Zb (eC (.int 1000)) (Zb (eC (.int 10000)) (Zb (eC (.int 100000)) (Zb (eC (.int 1000000)) eNil)))))) [some (.int c)]=some (.lst ([10,100,1000,10000,100000,1000000].map nD)):=VZ (Zg rfl (Zg rfl (Zg rfl (Zg rfl (Zg rfl (Zg rfl nil_of)))))) (show 6<=1000 by decide)
 have hT:∃t,[10,100,1000,10000,100000,1000000][i]? = some t/\0<t/\t<=1000000:=by
  rcases(show i=0\/i=1\/i=2\/i=3\/i=4\/i=5 by omega)with rfl|rfl|rfl|rfl|rfl|rfl<;>exact⟨_,rfl,by decide,by decide⟩
 obtain⟨u,hu,hu0,hu6⟩:=hT;obtain⟨a,ha,hau⟩:=Us (c.fdiv 6) hu0;refine⟨a,Yc (δ:=[some (.int c)]) rfl (Yz ((Zn e0 ((Zn e2 e1).trans (Yr (x:=nD u) ?_))).trans ha)),by omega⟩;rw [List.getElem?_map,hu];rfl
theorem Zaa(n:Nat):V2 [nD n]=some (.bl true):=by
 refine Yc (δ:=[some (nD n)]) rfl (Yz (ZcJ (XV (d:=nD n) rfl rfl) ?_));unfold UC;rw [XV (t:=QL) (d:=nD n) (b:=false) rfl rfl];rfl
theorem Zes:∀{ws:List Pr},(∀p∈ws,∀c∈p.1,c∈cs_MARK_SIGNS)->PySem.PyData.canLayAll0 (YG (ws.map prD))=true
 | [],_=>rfl
 |p::ws,h=>by
  have hs:PySem.PyData.strOk (tx p.1)=true:=ZdN λc hc=>by
   have:=ZcP c (h p List.mem_cons_self c hc);omega
  rw [List.map_cons,YG,PySem.PyData.canLayAll0,Zes λx hx=>h x (List.mem_cons_of_mem _ hx),Bool.and_true];simp [prD,toP,YG,PySem.PyData.canLay0,PySem.PyData.canLayAll0,hs]
theorem Zet:∀ws:List Pr,PySem.PyData.depthAll (YG (ws.map prD))<=1
 | []=>Nat.zero_le _
 |p::ws=>by
  rw [List.map_cons,YG,PySem.PyData.depthAll];exact Nat.max_le.mpr ⟨Nat.le_refl _,Zet ws⟩
theorem Zcc{ws:List Pr}(h:∀p∈ws,∀c∈p.1,c∈cs_MARK_SIGNS):PySem.SeqAt.shaped (toP (ZG ws))=true:=by
 have h1:=Zes h;have h2:=Zet ws;unfold PySem.SeqAt.shaped;show(PySem.PyData.canLayAll0 (YG (ws.map prD))&&decide (PySem.PyData.depthAll (YG (ws.map prD))+1<=64))=true;rw [h1,decide_eq_true (by omega)];rfl
theorem Zap(hs:List Nat):PySem.SeqAt.shaped (toP (.lst (hs.map nD)))=true:=by
 have:=Zbh (hs.map λh:Nat=>(h:Int));rw [List.map_map]at this;exact this
noncomputable def wl2:DL.Env->Option Out:=(sIf (xOr (ZW (xB (Z8 XW (eOp ixD (Za 0) (Za 2))))) (xB (eOp neD (eOp ixD (Za 0) (Za 2)) (eCB YS (Zb (eOp ixD (Za 1) (Za 2)) eNil))))) (Zq (eC (.bl false))) sNext)
noncomputable def wl3:DL.Env->Option Out:=(sIf (xOr (ZW (xB (Z8 XW (Za 3)))) (xOr (ZW (xB (Z8 V1 (eOp ixD (Za 3) (eC (.int 0)))))) (ZW (xB (Zm 1 V2 [] (Zb (eOp ixD (Za 3) (eC (.int 1))) eNil)))))) (Zq (eC (.bl false))) sNext)
noncomputable def wl1:DL.Env->Option Out:=(sIf (xOr (ZW (xB (Z8 XW (Za 0)))) (xB (eOp neD (eCB lenD (Zb (Za 0) eNil)) (eCB lenD (Zb (Za 1) eNil))))) (Zq (eC (.bl false))) sNext)
noncomputable def wlF:DL.Env->Option Out:=(Z4 (ZY (Zb (eCB lenD (Zb (Za 1) eNil)) eNil)) (Zx 2) (Zh wl2 (Z4 (ZQ (eOp ixD (Za 0) (Za 2))) (Zx 3) wl3)))
theorem ZhG:f_QB=Zh wl1 (Zh wlF (Zq (eC (.bl true)))):=rfl
theorem Zbc{t:T}(o:t.Ok):QU [.tup (t.W.map ZG),.lst (t.W.map rowLD)]=some (.bl true):=by
 have hw:=o.wl;have h6:=o.m6
 have t1:wl1 [some (.tup (t.W.map ZG)),some (.lst (t.W.map rowLD)),none,none]=some (.nx [some (.tup (t.W.map ZG)),some (.lst (t.W.map rowLD)),none,none]):=by
  refine(YA (YV (Xg (b:=true) (ZH (XV (d:=.tup (t.W.map ZG)) rfl rfl))) (ZH ((Zn (x:=.int ((t.W.map ZG).length:Int)) (y:=.int ((t.W.map rowLD).length:Int)) ((Z0 (Zg (x:=.tup (t.W.map ZG)) rfl nil_of)).trans ZcL) ((Z0 (Zg (x:=.lst (t.W.map rowLD)) rfl nil_of)).trans Um)).trans ?_)))).trans rfl;rw [Uj,decide_eq_true (by rw [List.length_map,List.length_map])];rfl
 obtain⟨δ',g1,v2,v3,e⟩:=Zag (γ:=Zx 2) (φ:=Zh wl2 (Z4 (ZQ (eOp ixD (Za 0) (Za 2))) (Zx 3) wl3)) (λδ=>∃v2 v3,δ=[some (.tup (t.W.map ZG)),some (.lst (t.W.map rowLD)),v2,v3]) (ZR 0 1 t.m) [some (.tup (t.W.map ZG)),some (.lst (t.W.map rowLD)),none,none] ⟨none,none,rfl⟩ (by
  intro x hx δ ⟨v2,v3,e⟩;subst e;obtain⟨i,hi,rfl⟩:=ZcK hx;rw [show(0+(i:Int)*1)=i by omega];have h2:t.W[i]? = some (t.W[i]'(by rw [o.wl];exact hi)):=List.getElem?_eq_getElem _;generalize t.W[i]'(by rw [o.wl];exact hi)=ws at h2;have hws:=List.mem_of_getElem? h2;have e1:∀v3,eOp ixD (Za 0) (Za 2) [some (.tup (t.W.map ZG)),some (.lst (t.W.map rowLD)),some (nD i),v3]=some (ZG ws):=λv3=>(Zn (x:=.tup (t.W.map ZG)) (y:=nD i) rfl rfl).trans (ix_tup (by rw [List.getElem?_map,h2];rfl))
  have e2:eCB YS (Zb (eOp ixD (Za 1) (Za 2)) eNil) [some (.tup (t.W.map ZG)),some (.lst (t.W.map rowLD)),some (nD i),v3]=some (ZG ws):=(Z0 (Zg ((Zn (x:=.lst (t.W.map rowLD)) (y:=nD i) rfl rfl).trans (Yr (x:=rowLD ws) (by rw [List.getElem?_map,h2];rfl))) nil_of)).trans rfl
  have u1:wl2 [some (.tup (t.W.map ZG)),some (.lst (t.W.map rowLD)),some (nD i),v3]=some (.nx [some (.tup (t.W.map ZG)),some (.lst (t.W.map rowLD)),some (nD i),v3]):=
   (YA (YV (Xg (b:=true) (ZH (XV (e1 v3) rfl))) (ZH ((Zn (e1 v3) e2).trans (ZaF rfl (Zcc λp hp=>(o.pr ws hws p hp).cd)))))).trans rfl
  obtain⟨δ2,g2,w3,e3⟩:=Zag (γ:=Zx 3) (φ:=wl3) (λδ=>∃v3,δ=[some (.tup (t.W.map ZG)),some (.lst (t.W.map rowLD)),some (nD i),v3]) (ws.map prD) [some (.tup (t.W.map ZG)),some (.lst (t.W.map rowLD)),some (nD i),v3] ⟨v3,rfl⟩ (by
   intro x hx δ ⟨v3,e⟩;subst e;obtain⟨p,hp,rfl⟩:=List.mem_map.mp hx;refine⟨[some (.tup (t.W.map ZG)),some (.lst (t.W.map rowLD)),some (nD i),some (prD p)],rfl,_,(YA (YV (Xg (b:=true) (ZH (XV (d:=prD p) rfl rfl))) (YV (Xg (b:=true) (ZH (XV (d:=.str p.1) ((Zn (x:=prD p) (y:=nD 0) rfl rfl).trans (ix_tup rfl)) rfl))) (Xg (b:=true) (ZH ((ZI (n:=1) (Zg ((Zn (x:=prD p) (y:=nD 1) rfl rfl).trans (ix_tup (x:=nD p.2) rfl)) nil_of) rfl).trans (Zaa p.2))))))).trans rfl,_,rfl⟩)
  have hi3:ZQ (eOp ixD (Za 0) (Za 2)) [some (.tup (t.W.map ZG)),some (.lst (t.W.map rowLD)),some (nD i),v3]=some (ws.map prD):=by unfold ZQ;rw [e1 v3];rfl
  exact⟨_,rfl,_,(Zu u1).trans (XU hi3 g2),_,w3,e3⟩)
 subst e
 have ei:ZY (Zb (eCB lenD (Zb (Za 1) eNil)) eNil) [some (.tup (t.W.map ZG)),some (.lst (t.W.map rowLD)),none,none]=some (ZR 0 1 t.m):=by
  rw [UK (j:=(t.m:Int)) (Zg ((Z0 (Zg (x:=.lst (t.W.map rowLD)) rfl nil_of)).trans (by rw [Um,List.length_map,hw])) nil_of) (by omega) (by omega),Int.toNat_natCast]
 have t2:wlF [some (.tup (t.W.map ZG)),some (.lst (t.W.map rowLD)),none,none]=some (.nx [some (.tup (t.W.map ZG)),some (.lst (t.W.map rowLD)),v2,v3]):=XU ei g1;refine Yc (δ:=[some (.tup (t.W.map ZG)),some (.lst (t.W.map rowLD)),none,none]) rfl ?_;rw [ZhG,Zu t1,Zu t2];rfl
end K49
namespace K49
open DL L2
noncomputable def k1:DL.Env->Option Out:=(sIf (xOr (ZW (xB (Z8 QK (Za 0)))) (xOr (ZW (xB (Z8 V1 (Zw Y5 "lead" (Za 0))))) (xB (eOp neD (Zw Y5 "lead" (Za 0)) (Za 1))))) (Zq (eC (.bl false))) sNext)
noncomputable def k2:DL.Env->Option Out:=(sIf (xOr (ZW (xB (Zm 1 V2 [] (Zb (Zw Xs "first" (Za 0)) eNil)))) (xOr (ZW (xB (Zm 1 V2 [] (Zb (Zw Xr "ahead" (Za 0)) eNil)))) (ZW (xB (Z8 XW (Zw Y0 "homes" (Za 0))))))) (Zq (eC (.bl false))) sNext)
noncomputable def k3:DL.Env->Option Out:=(sIf (xOr (xB (eOp neD (ZU (Zb (Zw Xs "first" (Za 0)) (Zb (Zw Xr "ahead" (Za 0)) eNil))) (ZU (Zb (Za 2) (Zb (Za 3) eNil))))) (xB (eOp neD (eCB XF (Zb (Zw Y0 "homes" (Za 0)) eNil)) (Za 4)))) (Zq (eC (.bl false))) sNext)
noncomputable def k4:DL.Env->Option Out:=(sIf (xOr (xB (eOp neD (YU "signs" Ur (Za 0) eNil) (eCB lenD (Zb (eOp ixD (Za 5) (eC (.int 0))) eNil)))) (xB (eOp neD (YU "block_length" Uq (Za 0) eNil) (eCB lenD (Zb (eOp ixD (eOp ixD (eOp ixD (Za 5) (eC (.int 0))) (eC (.int 0))) (eC (.int 0))) eNil))))) (Zq (eC (.bl false))) sNext)
noncomputable def k5:DL.Env->Option Out:=(Zq (Zm 2 QU [] (Zb (Zw Xu "ways" (Za 0)) (Zb (Za 5) eNil))))
theorem Zfe:f_QN=Zh k1 (Zh k2 (Zh k3 (Zh k4 k5))):=rfl
abbrev KE(t:T):DL.Env:=[some t.obj,some (.str t.lead),some (nD t.f),some (nD t.a),some (.lst (t.hs.map nD)),some (.lst (t.W.map rowLD))]
theorem Zff{t:T}(o:t.Ok):QV [t.obj,.str t.lead,nD t.f,nD t.a,.lst (t.hs.map nD),.lst (t.W.map rowLD)]=some (.bl true):=by
 have t1:k1 (KE t)=some (.nx (KE t)):=by
  refine(YA (YV (Xg (b:=true) (ZH (XV (d:=t.obj) rfl rfl))) (YV (Xg (b:=true) (ZH (XV (Q5 rfl) rfl))) (ZH ((Zn (x:=.str t.lead) (y:=.str t.lead) (Q5 rfl) rfl).trans ?_))))).trans rfl;rw [U7,decide_eq_true rfl];rfl
 have t2:k2 (KE t)=some (.nx (KE t)):=
  (YA (YV (Xg (b:=true) (ZH ((ZI (n:=1) (Zg (Zai rfl) nil_of) rfl).trans (Zaa _)))) (YV (Xg (b:=true) (ZH ((ZI (n:=1) (Zg (Zaj rfl) nil_of) rfl).trans (Zaa _)))) (Xg (b:=true) (ZH (XV (Q6 rfl) rfl)))))).trans rfl
 have t3:k3 (KE t)=some (.nx (KE t)):=by
  have e1:ZU (Zb (Zw Xs "first" (Za 0)) (Zb (Zw Xr "ahead" (Za 0)) eNil)) (KE t)=some (.lst ([t.f,t.a].map nD)):=VZ (Zg (Zai rfl) (Zg (Zaj rfl) nil_of)) (show 2<=1000 by decide);have e2:ZU (Zb (Za 2) (Zb (Za 3) eNil)) (KE t)=some (.lst ([t.f,t.a].map nD)):=VZ (Zg rfl (Zg rfl nil_of)) (show 2<=1000 by decide);have e3:eCB XF (Zb (Zw Y0 "homes" (Za 0)) eNil) (KE t)=some (.lst (t.hs.map nD)):=(Z0 (Zg (Q6 rfl) nil_of)).trans rfl
  exact(YA (YV (ZH ((Zn e1 e2).trans (ZaF rfl (Zap _)))) (ZH ((Zn (y:=.lst (t.hs.map nD)) e3 rfl).trans (ZaF rfl (Zap _)))))).trans rfl
 have t4:k4 (KE t)=some (.nx (KE t)):=by
  obtain⟨l1,l2⟩:=Zh8 o (i:=5) (δ:=KE t) rfl;refine(YA (YV (ZH ((Zn (ZaB o rfl) l1).trans ?_)) (ZH ((Zn (ZaC o rfl) l2).trans ?_)))).trans rfl
  · rw [Uj,decide_eq_true rfl];rfl
  · rw [Uj,decide_eq_true rfl];rfl
 refine Yc (δ:=KE t) rfl ?_;rw [Zfe,Zu t1,Zu t2,Zu t3,Zu t4];exact Yz ((ZI (n:=2) (Zg (Q7 rfl) (Zg (x:=.lst (t.W.map rowLD)) rfl nil_of)) rfl).trans (Zbc o))
theorem ZcT{γ:D->DL.Env->Option DL.Env}{ε:DL.Env->Option D}{δ0:DL.Env}:∀(xs:List D),(∀x∈xs,∃(δ1:DL.Env) (h:Nat),γ x δ0=some δ1/\ε δ1=some (nD h)/\h<1000000)->∃hs:List Nat,Yn γ (λ_=>some true) ε δ0 xs=some (hs.map nD)/\hs.length=xs.length/\∀h∈hs,h<1000000
 | [],_=>⟨[],rfl,rfl,λ_ z=>nomatch z⟩
 |x::xs,H=>by
  obtain⟨δ1,h,h1,h2,h3⟩:=H x List.mem_cons_self;obtain⟨hs,g1,g2,g3⟩:=ZcT xs λy hy=>H y (List.mem_cons_of_mem _ hy)
  refine⟨h::hs,?_,by rw [List.length_cons,List.length_cons,g2],λy hy => ?_⟩
  · unfold Yn
    rw [h1];dsimp only;rw [h2,g1];rfl
  · rcases List.mem_cons.mp hy with rfl|hy
    · exact h3
    · exact g3 y hy
theorem ZdW{ip iw:Nat}{ε0 ε1 εm εa εb:DL.Env->Option D}{ψ:DL.Env->Option Out}{δ:DL.Env}{x0 y0 dw da db:D}{xs0 ys0 xs1:List D}(h0:ε0 δ=some (.lst (x0::xs0)))(h1:ε1 δ=some (.lst (.lst (y0::ys0)::xs1)))(hm:εm (δ.set ip (some (.tup [.lst (x0::xs0),.lst (.lst (y0::ys0)::xs1)])))=some dw)(hf:frz dw=true)(l1:ip<δ.length)(l2:iw<δ.length)(ha:εa ((δ.set ip none).set iw (some dw))=some da)(hb:εb ((δ.set ip none).set iw (some dw))=some db):Uh ip iw ε0 ε1 εm εa εb ψ δ=ψ ((δ.set ip none).set iw (some dw)):=by
 unfold Uh;rw [h0,h1];dsimp only;rw [hm];dsimp only;rw [if_pos ⟨hf,l1,l2⟩,ha,hb]
theorem ZbP:∀hs:List Nat,frzL (hs.map nD)=true
 | []=>rfl
 |h::hs=>by rw [List.map_cons,frzL,ZbP hs];rfl
theorem ZcU:∀ws:List Pr,frzL (ws.map prD)=true
 | []=>rfl
 |p::ws=>by rw [List.map_cons,frzL,ZcU ws];rfl
theorem ZbQ:∀W:List (List Pr),frzL (W.map ZG)=true
 | []=>rfl
 |ws::W=>by
  rw [List.map_cons,frzL,ZbQ W,Bool.and_true];exact ZcU ws
theorem Zfg(t:T):frz t.obj=true:=by
 show(true&&(true&&(true&&(frzL (t.hs.map nD)&&(frzL (t.W.map ZG)&&true)))))=true;rw [ZbP,ZbQ];rfl
abbrev E16(S:D)(m n q:Nat)(v4 v5 v6 v7 v8 v9 v10 v11 v12 v13 v14 v15:Option D):DL.Env:=[some S,some (nD m),some (nD n),some (nD q),v4,v5,v6,v7,v8,v9,v10,v11,v12,v13,v14,v15]
noncomputable def b1:DL.Env->Option Out:=(Zp 12 (Zm 2 Z6 [] (Zb (Za 0) (Zb (eOp addX (eOp addX (eC (.int 12)) (eOp mulX (Za 9) (Za 2))) (Za 11)) eNil))))
noncomputable def b2:DL.Env->Option Out:=(Z3 10 (YY (Zb (Zm 2 UO [] (Zb (eOp fdivW (Za 12) (Za 1)) (Zb (Za 3) eNil))) (Zb (eOp modW (Za 12) (Za 1)) eNil))))
theorem Zgv(ns:List Int)(m n q:Nat)(hm:0<m)(hm6:m<=6)(hn:n<=4)(hq:q<=4)(v4 v5 v6 v7 v8 v12 v13 v14 v15:Option D)(i j:Nat)(hj:j<n)(ws:List Pr)(hl:ws.length<=10):∃p w12,PrOk q m p/\Zh b1 b2 (E16 (.lst (ns.map D.int)) m n q v4 v5 v6 v7 v8 (some (nD i)) (some (rowLD ws)) (some (nD j)) v12 v13 v14 v15)=some (.nx (E16 (.lst (ns.map D.int)) m n q v4 v5 v6 v7 v8 (some (nD i)) (some (rowLD (ws++[p]))) (some (nD j)) w12 v13 v14 v15)):=by
 have hc:=V3 ns (12+i*n+j);generalize D.lst (ns.map D.int)=S at *;generalize ns.getD (12+i*n+j) 0=c at *
 have t1:b1 (E16 S m n q v4 v5 v6 v7 v8 (some (nD i)) (some (rowLD ws)) (some (nD j)) v12 v13 v14 v15)=some (.nx (E16 S m n q v4 v5 v6 v7 v8 (some (nD i)) (some (rowLD ws)) (some (nD j)) (some (.int c)) v13 v14 v15)):=by
  refine ZO ((ZI (n:=2) (ds:=[S,.int ((12+i*n+j:Nat):Int)]) (Zg rfl (Zg ?_ nil_of)) rfl).trans hc);refine(Zn (x:=.int (12+(i:Int)*(n:Int))) (y:=nD j) ((Zn (x:=.int 12) (y:=.int ((i:Int)*(n:Int))) rfl ((Zn (x:=nD i) (y:=nD n) rfl rfl).trans (Zdm (by omega) (by omega)))).trans (add_int _ _)) rfl).trans ?_;rw [add_int];refine congrArg (λz=>some (D.int z)) ?_
  rw [<-Int.natCast_mul];omega
 obtain⟨w,hw,hwl,hwc⟩:=ZbO (c.fdiv (m:Int)) q (by omega);obtain⟨a,ha,ham⟩:=Us c hm;refine⟨(w,a),some (.int c),⟨hwl,hwc,ham⟩,?_⟩;rw [Zu t1];have e1:eOp fdivW (Za 12) (Za 1) (E16 S m n q v4 v5 v6 v7 v8 (some (nD i)) (some (rowLD ws)) (some (nD j)) (some (.int c)) v13 v14 v15)=some (.int (c.fdiv (m:Int))):=(Zn (x:=.int c) (y:=nD m) rfl rfl).trans (QJ (by omega) (QI (Nat.le_trans (show(m:Int).natAbs<=6 by omega) (by decide +kernel))))
 refine(XG (xs:=ws.map prD) (d:=prD (w,a)) rfl (QH (Zg ((ZI (n:=2) (Zg e1 (Zg (x:=nD q) rfl nil_of)) rfl).trans hw) (Zg ((Zn (x:=.int c) (y:=nD m) rfl rfl).trans ha) nil_of)) (show 2<=1000 by decide)) (by rw [List.length_map];omega)).trans ?_;unfold rowLD;rw [List.map_append];rfl
noncomputable def bB:DL.Env->Option Out:=(Zh (Zp 10 (ZU eNil)) (Zh (Z4 (ZY (Zb (Za 2) eNil)) (Zx 11) (Zh b1 b2)) (Z3 8 (Za 10))))
theorem Zfh(ns:List Int)(m n q:Nat)(hm:0<m)(hm6:m<=6)(hn:n<=4)(hq:q<=4)(v4 v5 v6 v7 v10 v11 v12 v13 v14 v15:Option D)(i:Nat)(W:List (List Pr))(hl:W.length<=10):∃ws w10 w11 w12,ws.length=n/\(∀p∈ws,PrOk q m p)/\bB (E16 (.lst (ns.map D.int)) m n q v4 v5 v6 v7 (some (.lst (W.map rowLD))) (some (nD i)) v10 v11 v12 v13 v14 v15)=some (.nx (E16 (.lst (ns.map D.int)) m n q v4 v5 v6 v7 (some (.lst ((W++[ws]).map rowLD))) (some (nD i)) w10 w11 w12 v13 v14 v15)):=by
 obtain⟨δ',g1,ws,w11,w12,e,hwl,hwp⟩:=Uk (γ:=Zx 11) (φ:=Zh b1 b2) (λk δ=>∃(ws:List Pr) (w11 w12:Option D),δ=E16 (.lst (ns.map D.int)) m n q v4 v5 v6 v7 (some (.lst (W.map rowLD))) (some (nD i)) (some (rowLD ws)) w11 w12 v13 v14 v15/\ws.length=k/\∀p∈ws,PrOk q m p) (ZR 0 1 n) 0 (E16 (.lst (ns.map D.int)) m n q v4 v5 v6 v7 (some (.lst (W.map rowLD))) (some (nD i)) (some (rowLD [])) v11 v12 v13 v14 v15) ⟨[],v11,v12,rfl,rfl,λ_ z=>nomatch z⟩ (by
  intro j x δ hx ⟨ws,w11,w12,e,hwl,hwp⟩;subst e;obtain⟨hj,rfl⟩:=U8 hx;obtain⟨p,u12,hp,g⟩:=Zgv ns m n q hm hm6 hn hq v4 v5 v6 v7 (some (.lst (W.map rowLD))) w12 v13 v14 v15 i j hj ws (by omega);refine⟨_,rfl,_,g,ws++[p],_,_,rfl,by rw [List.length_append,List.length_singleton];omega,λy hy => ?_⟩;rcases List.mem_append.mp hy with z|z
  · exact hwp y z
  · rw [List.mem_singleton.mp z];exact hp)
 subst e;rw [Ul,Nat.zero_add]at hwl
 have ei:ZY (Zb (Za 2) eNil) (E16 (.lst (ns.map D.int)) m n q v4 v5 v6 v7 (some (.lst (W.map rowLD))) (some (nD i)) (some (rowLD [])) v11 v12 v13 v14 v15)=some (ZR 0 1 n):=by
  rw [UK (j:=(n:Int)) (Zg rfl nil_of) (by omega) (by omega),Int.toNat_natCast]
 refine⟨ws,some (rowLD ws),w11,w12,hwl,hwp,?_⟩;unfold bB;rw [Zu (δ':=E16 (.lst (ns.map D.int)) m n q v4 v5 v6 v7 (some (.lst (W.map rowLD))) (some (nD i)) (some (rowLD [])) v11 v12 v13 v14 v15) (ZO rfl),Zu (XU ei g1)];refine(XG (xs:=W.map rowLD) (d:=rowLD ws) rfl rfl (by rw [List.length_map];omega)).trans ?_;rw [List.map_append];rfl
end K49
namespace K49
open DL L2
noncomputable def z1:DL.Env->Option Out:=(Zp 1 (eOp addX (eC (.int 1)) (eOp modW (Zm 2 Z6 [] (Zb (Za 0) (Zb (eC (.int 0)) eNil))) (eC (.int 6)))))
noncomputable def z2:DL.Env->Option Out:=(Zp 2 (eOp addX (eC (.int 1)) (eOp modW (Zm 2 Z6 [] (Zb (Za 0) (Zb (eC (.int 1)) eNil))) (eC (.int 4)))))
noncomputable def z3:DL.Env->Option Out:=(Zp 3 (eOp addX (eC (.int 1)) (eOp modW (Zm 2 Z6 [] (Zb (Za 0) (Zb (eC (.int 2)) eNil))) (eC (.int 4)))))
noncomputable def z4:DL.Env->Option Out:=(Zp 4 (Zm 2 UO [] (Zb (eOp fdivW (Zm 2 Z6 [] (Zb (Za 0) (Zb (eC (.int 3)) eNil))) (eC (.int 7))) (Zb (eOp modW (Zm 2 Z6 [] (Zb (Za 0) (Zb (eC (.int 3)) eNil))) (eC (.int 7))) eNil))))
noncomputable def z5:DL.Env->Option Out:=(Zp 5 (eOp modW (Zm 2 Z6 [] (Zb (Za 0) (Zb (eC (.int 4)) eNil))) (Za 1)))
noncomputable def z6:DL.Env->Option Out:=(Zp 6 (Zm 1 UP [] (Zb (Zm 2 Z6 [] (Zb (Za 0) (Zb (eC (.int 5)) eNil))) eNil)))
noncomputable def z7E:DL.Env->Option D:=(Zm 1 UP [] (Zb (Zm 2 Z6 [] (Zb (Za 1) (Zb (eOp addX (eC (.int 6)) (Za 0)) eNil))) eNil))
noncomputable def z7:DL.Env->Option Out:=(Zp 7 (Z5 (ZY (Zb (Za 1) eNil)) (Zx 0) (λ_=>some true) z7E 1 [0]))
noncomputable def z9:DL.Env->Option Out:=(Z4 (ZY (Zb (Za 1) eNil)) (Zx 9) bB)
noncomputable def y0:DL.Env->Option D:=(eCB XF (Zb (Za 7) eNil))
noncomputable def y1:DL.Env->Option D:=(Z5 (ZQ (Za 8)) (Zx 0) (λ_=>some true) (eCB XF (Zb (Za 0) eNil)) 1 [])
noncomputable def ym:DL.Env->Option D:=(XT "Table" 6 UM [] (Zb (Za 4) (Zb (Za 5) (Zb (Za 6) (Zb (eOp ixD (Za 13) (eC (.int 0))) (Zb (eOp ixD (Za 13) (eC (.int 1))) eNil))))))
noncomputable def ya:DL.Env->Option D:=(eOp addX (eC (.int 1)) (eOp ixD (Za 7) (eC (.int 0))))
noncomputable def yb:DL.Env->Option D:=(YY (Zb (eOp mulX (eC (.str [98])) (Za 3)) (Zb (eOp subD (Za 1) (eC (.int 1))) eNil)))
noncomputable def x1:DL.Env->Option Out:=(Zp 15 (Zm 1 QM [] (Zb (Za 14) eNil)))
noncomputable def x2:DL.Env->Option Out:=(sIf (xOr (ZW (xB (Z8 V1 (Za 15)))) (xB (eOp neD (Za 15) (Zm 5 QT [] (Zb (Za 4) (Zb (Za 5) (Zb (Za 6) (Zb (Za 7) (Zb (Za 8) eNil))))))))) (Zq (eC (.bl false))) sNext)
noncomputable def x3:DL.Env->Option Out:=(Zq (Zm 6 QV [] (Zb (Zm 1 QS [] (Zb (Za 15) eNil)) (Zb (Za 4) (Zb (Za 5) (Zb (Za 6) (Zb (Za 7) (Zb (Za 8) eNil))))))))
theorem Zgw:f_QZ=Zh z1 (Zh z2 (Zh z3 (Zh z4 (Zh z5 (Zh z6 (Zh z7 (Zh (Zp 8 (ZU eNil)) (Zh z9 (Uh 13 14 y0 y1 ym ya yb (Zh x1 (Zh x2 x3))))))))))):=rfl
abbrev F16(S:D)(t:T)(v9 v10 v11 v12 v13 v14 v15:Option D):DL.Env:=E16 S t.m t.n t.q (some (.str t.lead)) (some (nD t.f)) (some (nD t.a)) (some (.lst (t.hs.map nD))) (some (.lst (t.W.map rowLD))) v9 v10 v11 v12 v13 v14 v15
theorem Zfi{a:List Nat}{n:Nat}(h:a.length*n<=100000)(hn:n<=100000):mulX (.str a) (nD n)=some (.str (VM a (n:Int))):=by
 unfold mulX;dsimp only;rw [Int.toNat_natCast,if_pos ⟨by omega,by omega,by rw [PySem.sizeLine_eq];omega⟩]
theorem Zfj{t:T}(o:t.Ok)(S:D)(v9 v10 v11 v12:Option D):Uh 13 14 y0 y1 ym ya yb (Zh x1 (Zh x2 x3)) (F16 S t v9 v10 v11 v12 none none none)=some (.rt (.bl true)):=by
 obtain⟨p0,ws0,W0,h1,h2,h3⟩:=t.first_row o
 obtain⟨h0,hs0,hh⟩:∃h0 hs0,t.hs=h0::hs0:=by
  cases hq:t.hs with
  |nil=>have:=o.hl;rw [hq]at this;have:=o.m0;simp at *;omega
  |cons h0 hs0=>exact⟨h0,hs0,rfl⟩
 have hwl:=o.wl;have h6:=o.m6;have h4:=o.q4;have e0:y0 (F16 S t v9 v10 v11 v12 none none none)=some (.lst (t.hs.map nD)):=(Z0 (Zg (x:=.lst (t.hs.map nD)) rfl nil_of)).trans rfl
 have e1:y1 (F16 S t v9 v10 v11 v12 none none none)=some (.lst (t.W.map rowLD)):=by
  have hc:Yn (Zx 0) (λ_=>some true) (eCB XF (Zb (Za 0) eNil)) [none] (t.W.map rowLD)=some (t.W.map rowLD):=V4 rowLD rowLD t.W λws _=>⟨[some (rowLD ws)],rfl,(Z0 (Zg (x:=rowLD ws) rfl nil_of)).trans rfl⟩
  exact V0 (xs:=t.W.map rowLD) rfl rfl hc (by rw [List.length_map];omega)
 have em:ym ((F16 S t v9 v10 v11 v12 none none none).set 13 (some (.tup [.lst (t.hs.map nD),.lst (t.W.map rowLD)])))=some t.obj:=by
  refine(ZcM (Zg (x:=.str t.lead) rfl (Zg (x:=nD t.f) rfl (Zg (x:=nD t.a) rfl (Zg ((Zn (x:=.tup [.lst (t.hs.map nD),.lst (t.W.map rowLD)]) (y:=nD 0) rfl rfl).trans (ix_tup (x:=.lst (t.hs.map nD)) rfl)) (Zg ((Zn (x:=.tup [.lst (t.hs.map nD),.lst (t.W.map rowLD)]) (y:=nD 1) rfl rfl).trans (ix_tup (x:=.lst (t.W.map rowLD)) rfl)) nil_of))))) rfl).trans (ZcS o)
 have ea:ya (F16 S t v9 v10 v11 v12 none (some t.obj) none)=some (.int (1+(h0:Int))):=(Zn (x:=.int 1) (y:=nD h0) rfl ((Zn (x:=.lst (t.hs.map nD)) (y:=nD 0) rfl rfl).trans (Yr (by rw [hh];rfl)))).trans (add_int _ _)
 have eb:∃db,yb (F16 S t v9 v10 v11 v12 none (some t.obj) none)=some db:=by
  have e:eOp mulX (eC (.str [98])) (Za 3) (F16 S t v9 v10 v11 v12 none (some t.obj) none)=some (.str (VM [98] (t.q:Int))):=by
   exact(Zn (x:=.str [98]) (y:=nD t.q) rfl rfl).trans (Zfi (by show 1*t.q<=_;omega) (by omega))
  exact⟨_,QH (Zg e (Zg (Zn (x:=nD t.m) (y:=.int 1) rfl rfl) nil_of)) (show 2<=1000 by decide)⟩
 obtain⟨db,eb⟩:=eb;have hW:t.W.map rowLD = .lst (prD p0::ws0.map prD)::W0.map rowLD:=by rw [h1];rfl
 have hH:t.hs.map nD=nD h0::hs0.map nD:=by rw [hh];rfl
 have key:=ZdW (ip:=13) (iw:=14) (ε0:=y0) (ε1:=y1) (εm:=ym) (εa:=ya) (εb:=yb) (δ:=F16 S t v9 v10 v11 v12 none none none) (dw:=t.obj) (ψ:=Zh x1 (Zh x2 x3)) (x0:=nD h0) (xs0:=hs0.map nD) (y0:=prD p0) (ys0:=ws0.map prD) (xs1:=W0.map rowLD) (by rw [<-hH];exact e0) (by rw [<-hW];exact e1) (by rw [<-hH,<-hW];exact em) (Zfg t) (show 13<16 by decide) (show 14<16 by decide) ea eb
 refine key.trans ?_;have u1:x1 (F16 S t v9 v10 v11 v12 none (some t.obj) none)=some (.nx (F16 S t v9 v10 v11 v12 none (some t.obj) (some (.str t.text)))):=ZO ((ZI (n:=1) (Zg (x:=t.obj) rfl nil_of) rfl).trans (Zfb o))
 have u2:x2 (F16 S t v9 v10 v11 v12 none (some t.obj) (some (.str t.text)))=some (.nx (F16 S t v9 v10 v11 v12 none (some t.obj) (some (.str t.text)))):=by
  refine(YA (YV (Xg (b:=true) (ZH (XV (d:=.str t.text) rfl rfl))) (ZH ((Zn (x:=.str t.text) (y:=.str t.text) rfl ((ZI (n:=5) (Zg (x:=.str t.lead) rfl (Zg (x:=nD t.f) rfl (Zg (x:=nD t.a) rfl (Zg (x:=.lst (t.hs.map nD)) rfl (Zg (x:=.lst (t.W.map rowLD)) rfl nil_of))))) rfl).trans (Zbj o))).trans ?_)))).trans rfl;rw [U7,decide_eq_true rfl];rfl
 have u3:x3 (F16 S t v9 v10 v11 v12 none (some t.obj) (some (.str t.text)))=some (.rt (.bl true)):=
  Yz ((ZI (n:=6) (Zg ((ZI (n:=1) (Zg (x:=.str t.text) rfl nil_of) rfl).trans (Ze7 o)) (Zg (x:=.str t.lead) rfl (Zg (x:=nD t.f) rfl (Zg (x:=nD t.a) rfl (Zg (x:=.lst (t.hs.map nD)) rfl (Zg (x:=.lst (t.W.map rowLD)) rfl nil_of)))))) rfl).trans (Zff o))
 exact(Zu u1).trans ((Zu u2).trans u3)
theorem cells{S:D}{c:Int}{k:Nat}{δ:DL.Env}(h:Za 0 δ=some S)(hc:Z6 [S,.int (k:Int)]=some (.int c)){κ:DL.Env->Option D}(hk:κ δ=some (.int (k:Int))):Zm 2 Z6 [] (Zb (Za 0) (Zb κ eNil)) δ=some (.int c):=(ZI (n:=2) (Zg h (Zg hk nil_of)) rfl).trans hc
theorem ZaJ{S:D}{c:Int}{δ:DL.Env}{e:DL.Env->Option D}{M:Nat}(hM:0<M)(he:e δ=some (.int c)):∃m:Nat,0<m/\m<=M/\eOp addX (eC (.int 1)) (eOp modW e (eC (.int (M:Int)))) δ=some (nD m):=by
 obtain⟨a,ha,h2⟩:=Us c hM;refine⟨1+a,by omega,by omega,(Zn (x:=.int 1) (y:=nD a) rfl ((Zn he (y:=.int (M:Int)) rfl).trans ha)).trans ?_⟩;rw [add_int];show some (D.int (1+(a:Int)))=some (D.int ((1+a:Nat):Int));rw [Int.natCast_add];rfl
theorem body(ns:List Int)(hl:ns.length<=63):f_QZ [some (.lst (ns.map D.int)),none,none,none,none,none,none,none,none,none,none,none,none,none,none,none]=some (.rt (.bl true)):=by
 have c0:=V3 ns 0;have c1:=V3 ns 1;have c2:=V3 ns 2;have c3:=V3 ns 3;have c4:=V3 ns 4;have c5:=V3 ns 5;obtain⟨m,m0,m6,e1⟩:=ZaJ (S:=.non) (e:=Zm 2 Z6 [] (Zb (Za 0) (Zb (eC (.int 0)) eNil))) (M:=6) (by decide) (cells (δ:=[some (.lst (ns.map D.int)),none,none,none,none,none,none,none,none,none,none,none,none,none,none,none]) (k:=0) rfl c0 rfl);obtain⟨n,n0,n4,e2⟩:=ZaJ (S:=.non) (e:=Zm 2 Z6 [] (Zb (Za 0) (Zb (eC (.int 1)) eNil))) (M:=4) (by decide) (cells (δ:=[some (.lst (ns.map D.int)),some (nD m),none,none,none,none,none,none,none,none,none,none,none,none,none,none]) (k:=1) rfl c1 rfl)
 obtain⟨q,q0,q4,e3⟩:=ZaJ (S:=.non) (e:=Zm 2 Z6 [] (Zb (Za 0) (Zb (eC (.int 2)) eNil))) (M:=4) (by decide) (cells (δ:=[some (.lst (ns.map D.int)),some (nD m),some (nD n),none,none,none,none,none,none,none,none,none,none,none,none,none]) (k:=2) rfl c2 rfl);have t1:z1 [some (.lst (ns.map D.int)),none,none,none,none,none,none,none,none,none,none,none,none,none,none,none]=some (.nx [some (.lst (ns.map D.int)),some (nD m),none,none,none,none,none,none,none,none,none,none,none,none,none,none]):=ZO e1
 have t2:z2 [some (.lst (ns.map D.int)),some (nD m),none,none,none,none,none,none,none,none,none,none,none,none,none,none]=some (.nx [some (.lst (ns.map D.int)),some (nD m),some (nD n),none,none,none,none,none,none,none,none,none,none,none,none,none]):=ZO e2;have t3:z3 [some (.lst (ns.map D.int)),some (nD m),some (nD n),none,none,none,none,none,none,none,none,none,none,none,none,none]=some (.nx (E16 (.lst (ns.map D.int)) m n q none none none none none none none none none none none none)):=ZO e3
 obtain⟨k,hk,hk7⟩:=Us (ns.getD 3 0) (m:=7) (by decide);obtain⟨lead,hle,hll,hlc⟩:=ZbO ((ns.getD 3 0).fdiv 7) k (by omega)
 have t4:z4 (E16 (.lst (ns.map D.int)) m n q none none none none none none none none none none none none)=some (.nx (E16 (.lst (ns.map D.int)) m n q (some (.str lead)) none none none none none none none none none none none)):=by
  have c:=cells (δ:=E16 (.lst (ns.map D.int)) m n q none none none none none none none none none none none none) (κ:=eC (.int 3)) (k:=3) rfl c3 rfl;exact ZO ((ZI (n:=2) (Zg ((Zn c (y:=.int 7) rfl).trans (QJ (by decide) (QI (Nat.le_trans (show(7:Int).natAbs<=7 by decide) (by decide +kernel))))) (Zg ((Zn c (y:=.int 7) rfl).trans hk) nil_of)) rfl).trans hle)
 obtain⟨f,hf,hfm⟩:=Us (ns.getD 4 0) m0
 have t5:z5 (E16 (.lst (ns.map D.int)) m n q (some (.str lead)) none none none none none none none none none none none)=some (.nx (E16 (.lst (ns.map D.int)) m n q (some (.str lead)) (some (nD f)) none none none none none none none none none none)):=
  ZO ((Zn (cells (κ:=eC (.int 4)) (k:=4) rfl c4 rfl) (y:=nD m) rfl).trans hf)
 obtain⟨a,ha,ham⟩:=Za4 (ns.getD 5 0)
 have t6:z6 (E16 (.lst (ns.map D.int)) m n q (some (.str lead)) (some (nD f)) none none none none none none none none none none)=some (.nx (E16 (.lst (ns.map D.int)) m n q (some (.str lead)) (some (nD f)) (some (nD a)) none none none none none none none none none)):=
  ZO ((ZI (n:=1) (Zg (cells (κ:=eC (.int 5)) (k:=5) rfl c5 rfl) nil_of) rfl).trans ha)
 obtain⟨hs,g1,g2,g3⟩:=ZcT (γ:=Zx 0) (ε:=z7E) (δ0:=[none,some (.lst (ns.map D.int))]) (ZR 0 1 m) (by
  intro x hx;obtain⟨i,hi,rfl⟩:=ZcK hx;rw [show(0+(i:Int)*1)=i by omega];obtain⟨h,hh,hb⟩:=Za4 (ns.getD (6+i) 0);refine⟨[some (nD i),some (.lst (ns.map D.int))],h,rfl,?_,hb⟩;refine(ZI (n:=1) (Zg ((ZI (n:=2) (ds:=[.lst (ns.map D.int),.int ((6+i:Nat):Int)]) (Zg rfl (Zg ((Zn (x:=.int 6) (y:=nD i) rfl rfl).trans ((add_int _ _).trans ?_)) nil_of)) rfl).trans (V3 ns (6+i))) nil_of) rfl).trans hh
  show some (D.int (6+(i:Int)))=some (D.int ((6+i:Nat):Int));rw [Int.natCast_add];rfl)
 rw [Ul]at g2
 have ei:∀v7 v8,ZY (Zb (Za 1) eNil) (E16 (.lst (ns.map D.int)) m n q (some (.str lead)) (some (nD f)) (some (nD a)) v7 v8 none none none none none none none)=some (ZR 0 1 m):=λv7 v8=>by
  rw [UK (j:=(m:Int)) (Zg rfl nil_of) (by omega) (by omega),Int.toNat_natCast]
 have t7:z7 (E16 (.lst (ns.map D.int)) m n q (some (.str lead)) (some (nD f)) (some (nD a)) none none none none none none none none none)=some (.nx (E16 (.lst (ns.map D.int)) m n q (some (.str lead)) (some (nD f)) (some (nD a)) (some (.lst (hs.map nD))) none none none none none none none none)):=
  ZO (V0 (ei none none) rfl g1 (by rw [List.length_map,g2];omega))
 obtain⟨δ',r1,W,v9,v10,v11,v12,e,wl,wr,wp⟩:=Uk (γ:=Zx 9) (φ:=bB) (λk δ=>∃(W:List (List Pr)) (v9 v10 v11 v12:Option D),δ=E16 (.lst (ns.map D.int)) m n q (some (.str lead)) (some (nD f)) (some (nD a)) (some (.lst (hs.map nD))) (some (.lst (W.map rowLD))) v9 v10 v11 v12 none none none/\W.length=k/\(∀ws∈W,ws.length=n)/\∀ws∈W,∀p∈ws,PrOk q m p) (ZR 0 1 m) 0 (E16 (.lst (ns.map D.int)) m n q (some (.str lead)) (some (nD f)) (some (nD a)) (some (.lst (hs.map nD))) (some (.lst (([]:List (List Pr)).map rowLD))) none none none none none none none) ⟨[],none,none,none,none,rfl,rfl,(λ_ z=>nomatch z),λ_ z=>nomatch z⟩ (by
  intro j x δ hx ⟨W,v9,v10,v11,v12,e,wl,wr,wp⟩;subst e;obtain⟨hj,rfl⟩:=U8 hx;obtain⟨ws,w10,w11,w12,s1,s2,s3⟩:=Zfh ns m n q m0 m6 n4 q4 (some (.str lead)) (some (nD f)) (some (nD a)) (some (.lst (hs.map nD))) v10 v11 v12 none none none j W (by omega);refine⟨_,rfl,_,s3,W++[ws],_,_,_,_,rfl,by rw [List.length_append,List.length_singleton];omega,λy hy => ?_,λy hy => ?_⟩
  · rcases List.mem_append.mp hy with z|z
    · exact wr y z
    · rw [List.mem_singleton.mp z];exact s1
  · rcases List.mem_append.mp hy with z|z
    · exact wp y z
    · rw [List.mem_singleton.mp z];exact s2)
 subst e;rw [Ul,Nat.zero_add]at wl;have t9:z9 (E16 (.lst (ns.map D.int)) m n q (some (.str lead)) (some (nD f)) (some (nD a)) (some (.lst (hs.map nD))) (some (.lst (([]:List (List Pr)).map rowLD))) none none none none none none none)=some (.nx (E16 (.lst (ns.map D.int)) m n q (some (.str lead)) (some (nD f)) (some (nD a)) (some (.lst (hs.map nD))) (some (.lst (W.map rowLD))) v9 v10 v11 v12 none none none)):=XU (ei _ _) r1
 have o:(T.mk lead f a n q m hs W).Ok:=⟨m0,m6,n0,n4,q0,q4,hfm,ham,g2,g3,wl,wr,wp,by show lead.length<=6;omega,hlc⟩
 rw [Zgw,Zu t1,Zu t2,Zu t3,Zu t4,Zu t5,Zu t6,Zu t7,Zu (δ':=E16 (.lst (ns.map D.int)) m n q (some (.str lead)) (some (nD f)) (some (nD a)) (some (.lst (hs.map nD))) (some (.lst (([]:List (List Pr)).map rowLD))) none none none none none none none) (ZO rfl),Zu t9];exact Zfj o (.lst (ns.map D.int)) v9 v10 v11 v12
theorem all_true:∀ns:List Int,ns.length<=63->QW [.lst (ns.map D.int)]=some (.bl true):=λns hl=>Yc rfl (body ns hl)
end K49
namespace K49
open PySem PySem.Spec L2 DL
def Q9(K:PySem.W.Frag):Sp:=λvs H Q _=>∃(a:Addr) (ns:List Int),vs=[.ref a]/\SqL K H a (ns.map V.int)/\ns.length<=63/\∀H',Q (.bl true) H'
theorem Zgx(hall:∀ns:List Int,ns.length<=63->QW [.lst (ns.map D.int)]=some (.bl true)){P:Program}{w:World}{K:PySem.W.Frag}{mg:Str->Option Value}{base:Heap}{t:Adr}(T:Txt K mg t):FnOk P w K mg base CX0 6 t.a_QZ t.d_QZ ["script"] (Q9 K):=
 (Zhy T).imp λvs H Q E ⟨a,ns,hv,hr,hl,q⟩=>by
   subst hv;refine⟨λ_=>False,[.lst (ns.map D.int)],.bl true,λ_ z=>z.elim,.cons ?_ .nil,rfl,hall ns hl,λv H' _ r => ?_⟩
   · unfold Rep
     refine⟨a,_,rfl,λz=>z.elim,hr,?_⟩;have:=RepL.of_vals (cA:=⟨t.c,K⟩) (av:=λ_=>False) (H:=H) (xs:=ns.map D.int) (by rw [List.all_map];exact List.all_eq_true.mpr λ_ _=>rfl);rw [List.map_map]at this;exact this
   · cases(show v=_ from r)
     exact q H'
theorem all_mk (hall:∀ns:List Int,ns.length<=63->QW [.lst (ns.map D.int)]=some (.bl true)) {l:PySem.W.OpenLaw} {w:World} {K:PySem.W.Frag} {h:Heap} {mg:Str->Option Value} {fa:Addr} (X:K.In h) (G:h.Ns mainGlobals mg) (hfa:mg "law" = some (.ref fa))
 {c_Table:Addr}
 {f0:Addr} {od0 an0:Option Addr} {sl0:Array (Option Value)} {oc0 kV0 dc0 pm0 cd0 ct0:Value}
 {f1:Addr} {od1 an1:Option Addr} {sl1:Array (Option Value)} {oc1 kV1 dc1 pm1 cd1 ct1:Value}
 {f2:Addr} {od2 an2:Option Addr} {sl2:Array (Option Value)} {oc2 kV2 dc2 pm2 cd2 ct2:Value}
 {f3:Addr} {od3 an3:Option Addr} {sl3:Array (Option Value)} {oc3 kV3 dc3 pm3 cd3 ct3:Value}
 {f4:Addr} {od4 an4:Option Addr} {sl4:Array (Option Value)} {oc4 kV4 dc4 pm4 cd4 ct4:Value}
 {f5:Addr} {od5 an5:Option Addr} {sl5:Array (Option Value)} {oc5 kV5 dc5 pm5 cd5 ct5:Value}
 {f6:Addr} {od6 an6:Option Addr} {sl6:Array (Option Value)} {oc6 kV6 dc6 pm6 cd6 ct6:Value}
 {f7:Addr} {od7 an7:Option Addr} {sl7:Array (Option Value)} {oc7 kV7 dc7 pm7 cd7 ct7:Value}
 {f8:Addr} {od8 an8:Option Addr} {sl8:Array (Option Value)} {oc8 kV8 dc8 pm8 cd8 ct8:Value}
 {f9:Addr} {od9 an9:Option Addr} {sl9:Array (Option Value)} {oc9 kV9 dc9 pm9 cd9 ct9:Value}
 {f10:Addr} {od10 an10:Option Addr} {sl10:Array (Option Value)} {oc10 kV10 dc10 pm10 cd10 ct10:Value}
 {f11:Addr} {od11 an11:Option Addr} {sl11:Array (Option Value)} {oc11 kV11 dc11 pm11 cd11 ct11:Value}
 {f12:Addr} {od12 an12:Option Addr} {sl12:Array (Option Value)} {oc12 kV12 dc12 pm12 cd12 ct12:Value}
 {f13:Addr} {od13 an13:Option Addr} {sl13:Array (Option Value)} {oc13 kV13 dc13 pm13 cd13 ct13:Value}
 {f14:Addr} {od14 an14:Option Addr} {sl14:Array (Option Value)} {oc14 kV14 dc14 pm14 cd14 ct14:Value}
 {f15:Addr} {od15 an15:Option Addr} {sl15:Array (Option Value)} {oc15 kV15 dc15 pm15 cd15 ct15:Value}
 {f16:Addr} {od16 an16:Option Addr} {sl16:Array (Option Value)} {oc16 kV16 dc16 pm16 cd16 ct16:Value}
 {f17:Addr} {od17 an17:Option Addr} {sl17:Array (Option Value)} {oc17 kV17 dc17 pm17 cd17 ct17:Value}
 {f18:Addr} {od18 an18:Option Addr} {sl18:Array (Option Value)} {oc18 kV18 dc18 pm18 cd18 ct18:Value}
 {f19:Addr} {od19 an19:Option Addr} {sl19:Array (Option Value)} {oc19 kV19 dc19 pm19 cd19 ct19:Value}
 {f20:Addr} {od20 an20:Option Addr} {sl20:Array (Option Value)} {oc20 kV20 dc20 pm20 cd20 ct20:Value}
 {f21:Addr} {od21 an21:Option Addr} {sl21:Array (Option Value)} {oc21 kV21 dc21 pm21 cd21 ct21:Value}
 {f22:Addr} {od22 an22:Option Addr} {sl22:Array (Option Value)} {oc22 kV22 dc22 pm22 cd22 ct22:Value}
 {f23:Addr} {od23 an23:Option Addr} {sl23:Array (Option Value)} {oc23 kV23 dc23 pm23 cd23 ct23:Value}
 {f24:Addr} {od24 an24:Option Addr} {sl24:Array (Option Value)} {oc24 kV24 dc24 pm24 cd24 ct24:Value}
 {f25:Addr} {od25 an25:Option Addr} {sl25:Array (Option Value)} {oc25 kV25 dc25 pm25 cd25 ct25:Value}
 {x_MARK_SIGNS:Str} {t_MARK_SIGNS:Tok}
 {x_FIGURES:Str} {t_FIGURES:Tok}
 (Zjl:nsIn K mainGlobals "Table" = some (some (.ref c_Table)))
 (a0:nsIn K mainGlobals "whole_in" = some (some (.ref f0)))
 (l0:K.lookup f0=some ⟨oc0,od0,.func (fnOf "whole_in" "whole_in" (defArgs XY) (defBody XY) (defScope XY) .none kV0 dc0 pm0 an0 cd0 ct0),sl0⟩)
 (c0:codeIn K cd0 "whole_in" = true)
 (k0:keepIn K (.ref f0)=true)
 (a1:PySem.W.findIn K (.ref c_Table) "__init__" = some (some (.ref f1)))
 (l1:K.lookup f1=some ⟨oc1,od1,.func (fnOf "__init__" "Table.__init__" (defArgs XZ) (defBody XZ) (defScope XZ) .none kV1 dc1 pm1 an1 cd1 ct1),sl1⟩)
 (c1:codeIn K cd1 "Table.__init__" = true)
 (k1:keepIn K (.ref f1)=true)
 (a2:PySem.W.findIn K (.ref c_Table) "signs" = some (some (.ref f2)))
 (l2:K.lookup f2=some ⟨oc2,od2,.func (fnOf "signs" "Table.signs" (defArgs Vg) (defBody Vg) (defScope Vg) .none kV2 dc2 pm2 an2 cd2 ct2),sl2⟩)
 (c2:codeIn K cd2 "Table.signs" = true)
 (k2:keepIn K (.ref f2)=true)
 (a3:PySem.W.findIn K (.ref c_Table) "block_length" = some (some (.ref f3)))
 (l3:K.lookup f3=some ⟨oc3,od3,.func (fnOf "block_length" "Table.block_length" (defArgs Vh) (defBody Vh) (defScope Vh) .none kV3 dc3 pm3 an3 cd3 ct3),sl3⟩)
 (c3:codeIn K cd3 "Table.block_length" = true)
 (k3:keepIn K (.ref f3)=true)
 (a4:nsIn K mainGlobals "place_rows" = some (some (.ref f4)))
 (l4:K.lookup f4=some ⟨oc4,od4,.func (fnOf "place_rows" "place_rows" (defArgs X0) (defBody X0) (defScope X0) .none kV4 dc4 pm4 an4 cd4 ct4),sl4⟩)
 (c4:codeIn K cd4 "place_rows" = true)
 (k4:keepIn K (.ref f4)=true)
 (a5:nsIn K mainGlobals "table_text" = some (some (.ref f5)))
 (l5:K.lookup f5=some ⟨oc5,od5,.func (fnOf "table_text" "table_text" (defArgs X1) (defBody X1) (defScope X1) .none kV5 dc5 pm5 an5 cd5 ct5),sl5⟩)
 (c5:codeIn K cd5 "table_text" = true)
 (k5:keepIn K (.ref f5)=true)
 (a6:nsIn K mainGlobals "words_behind" = some (some (.ref f6)))
 (l6:K.lookup f6=some ⟨oc6,od6,.func (fnOf "words_behind" "words_behind" (defArgs Vi) (defBody Vi) (defScope Vi) .none kV6 dc6 pm6 an6 cd6 ct6),sl6⟩)
 (c6:codeIn K cd6 "words_behind" = true)
 (k6:keepIn K (.ref f6)=true)
 (a7:nsIn K mainGlobals "is_row" = some (some (.ref f7)))
 (l7:K.lookup f7=some ⟨oc7,od7,.func (fnOf "is_row" "is_row" (defArgs X2) (defBody X2) (defScope X2) .none kV7 dc7 pm7 an7 cd7 ct7),sl7⟩)
 (c7:codeIn K cd7 "is_row" = true)
 (k7:keepIn K (.ref f7)=true)
 (a8:nsIn K mainGlobals "place_in" = some (some (.ref f8)))
 (l8:K.lookup f8=some ⟨oc8,od8,.func (fnOf "place_in" "place_in" (defArgs Vj) (defBody Vj) (defScope Vj) .none kV8 dc8 pm8 an8 cd8 ct8),sl8⟩)
 (c8:codeIn K cd8 "place_in" = true)
 (k8:keepIn K (.ref f8)=true)
 (a9:nsIn K mainGlobals "head_in" = some (some (.ref f9)))
 (l9:K.lookup f9=some ⟨oc9,od9,.func (fnOf "head_in" "head_in" (defArgs X3) (defBody X3) (defScope X3) .none kV9 dc9 pm9 an9 cd9 ct9),sl9⟩)
 (c9:codeIn K cd9 "head_in" = true)
 (k9:keepIn K (.ref f9)=true)
 (a10:nsIn K mainGlobals "lead_in" = some (some (.ref f10)))
 (l10:K.lookup f10=some ⟨oc10,od10,.func (fnOf "lead_in" "lead_in" (defArgs Vk) (defBody Vk) (defScope Vk) .none kV10 dc10 pm10 an10 cd10 ct10),sl10⟩)
 (c10:codeIn K cd10 "lead_in" = true)
 (k10:keepIn K (.ref f10)=true)
 (a11:nsIn K mainGlobals "first_in" = some (some (.ref f11)))
 (l11:K.lookup f11=some ⟨oc11,od11,.func (fnOf "first_in" "first_in" (defArgs Vl) (defBody Vl) (defScope Vl) .none kV11 dc11 pm11 an11 cd11 ct11),sl11⟩)
 (c11:codeIn K cd11 "first_in" = true)
 (k11:keepIn K (.ref f11)=true)
 (a12:nsIn K mainGlobals "home_in" = some (some (.ref f12)))
 (l12:K.lookup f12=some ⟨oc12,od12,.func (fnOf "home_in" "home_in" (defArgs Vm) (defBody Vm) (defScope Vm) .none kV12 dc12 pm12 an12 cd12 ct12),sl12⟩)
 (c12:codeIn K cd12 "home_in" = true)
 (k12:keepIn K (.ref f12)=true)
 (a13:nsIn K mainGlobals "way_in" = some (some (.ref f13)))
 (l13:K.lookup f13=some ⟨oc13,od13,.func (fnOf "way_in" "way_in" (defArgs Vn) (defBody Vn) (defScope Vn) .none kV13 dc13 pm13 an13 cd13 ct13),sl13⟩)
 (c13:codeIn K cd13 "way_in" = true)
 (k13:keepIn K (.ref f13)=true)
 (a14:nsIn K mainGlobals "row_numbered" = some (some (.ref f14)))
 (l14:K.lookup f14=some ⟨oc14,od14,.func (fnOf "row_numbered" "row_numbered" (defArgs Vo) (defBody Vo) (defScope Vo) .none kV14 dc14 pm14 an14 cd14 ct14),sl14⟩)
 (c14:codeIn K cd14 "row_numbered" = true)
 (k14:keepIn K (.ref f14)=true)
 (a15:nsIn K mainGlobals "stands" = some (some (.ref f15)))
 (l15:K.lookup f15=some ⟨oc15,od15,.func (fnOf "stands" "stands" (defArgs Vp) (defBody Vp) (defScope Vp) .none kV15 dc15 pm15 an15 cd15 ct15),sl15⟩)
 (c15:codeIn K cd15 "stands" = true)
 (k15:keepIn K (.ref f15)=true)
 (a16:nsIn K mainGlobals "ways_in" = some (some (.ref f16)))
 (l16:K.lookup f16=some ⟨oc16,od16,.func (fnOf "ways_in" "ways_in" (defArgs Vq) (defBody Vq) (defScope Vq) .none kV16 dc16 pm16 an16 cd16 ct16),sl16⟩)
 (c16:codeIn K cd16 "ways_in" = true)
 (k16:keepIn K (.ref f16)=true)
 (a17:nsIn K mainGlobals "read_table" = some (some (.ref f17)))
 (l17:K.lookup f17=some ⟨oc17,od17,.func (fnOf "read_table" "read_table" (defArgs Vr) (defBody Vr) (defScope Vr) .none kV17 dc17 pm17 an17 cd17 ct17),sl17⟩)
 (c17:codeIn K cd17 "read_table" = true)
 (k17:keepIn K (.ref f17)=true)
 (a18:nsIn K mainGlobals "_law_cell_at" = some (some (.ref f18)))
 (l18:K.lookup f18=some ⟨oc18,od18,.func (fnOf "_law_cell_at" "_law_cell_at" (defArgs Vs) (defBody Vs) (defScope Vs) .none kV18 dc18 pm18 an18 cd18 ct18),sl18⟩)
 (c18:codeIn K cd18 "_law_cell_at" = true)
 (k18:keepIn K (.ref f18)=true)
 (a19:nsIn K mainGlobals "_law_is_whole" = some (some (.ref f19)))
 (l19:K.lookup f19=some ⟨oc19,od19,.func (fnOf "_law_is_whole" "_law_is_whole" (defArgs Vt) (defBody Vt) (defScope Vt) .none kV19 dc19 pm19 an19 cd19 ct19),sl19⟩)
 (c19:codeIn K cd19 "_law_is_whole" = true)
 (k19:keepIn K (.ref f19)=true)
 (a20:nsIn K mainGlobals "_law_text" = some (some (.ref f20)))
 (l20:K.lookup f20=some ⟨oc20,od20,.func (fnOf "_law_text" "_law_text" (defArgs X4) (defBody X4) (defScope X4) .none kV20 dc20 pm20 an20 cd20 ct20),sl20⟩)
 (c20:codeIn K cd20 "_law_text" = true)
 (k20:keepIn K (.ref f20)=true)
 (a21:nsIn K mainGlobals "_law_signs" = some (some (.ref f21)))
 (l21:K.lookup f21=some ⟨oc21,od21,.func (fnOf "_law_signs" "_law_signs" (defArgs Vu) (defBody Vu) (defScope Vu) .none kV21 dc21 pm21 an21 cd21 ct21),sl21⟩)
 (c21:codeIn K cd21 "_law_signs" = true)
 (k21:keepIn K (.ref f21)=true)
 (a22:nsIn K mainGlobals "_law_number" = some (some (.ref f22)))
 (l22:K.lookup f22=some ⟨oc22,od22,.func (fnOf "_law_number" "_law_number" (defArgs Vv) (defBody Vv) (defScope Vv) .none kV22 dc22 pm22 an22 cd22 ct22),sl22⟩)
 (c22:codeIn K cd22 "_law_number" = true)
 (k22:keepIn K (.ref f22)=true)
 (a23:nsIn K mainGlobals "_law_ways_like" = some (some (.ref f23)))
 (l23:K.lookup f23=some ⟨oc23,od23,.func (fnOf "_law_ways_like" "_law_ways_like" (defArgs Vw) (defBody Vw) (defScope Vw) .none kV23 dc23 pm23 an23 cd23 ct23),sl23⟩)
 (c23:codeIn K cd23 "_law_ways_like" = true)
 (k23:keepIn K (.ref f23)=true)
 (a24:nsIn K mainGlobals "_law_like" = some (some (.ref f24)))
 (l24:K.lookup f24=some ⟨oc24,od24,.func (fnOf "_law_like" "_law_like" (defArgs Vx) (defBody Vx) (defScope Vx) .none kV24 dc24 pm24 an24 cd24 ct24),sl24⟩)
 (c24:codeIn K cd24 "_law_like" = true)
 (k24:keepIn K (.ref f24)=true)
 (a25:nsIn K mainGlobals "law" = some (some (.ref f25)))
 (l25:K.lookup f25=some ⟨oc25,od25,.func (fnOf "law" "law" (defArgs Y6) (defBody Y6) (defScope Y6) .none kV25 dc25 pm25 an25 cd25 ct25),sl25⟩)
 (c25:codeIn K cd25 "law" = true)
 (k25:keepIn K (.ref f25)=true)
 (Zjm:nsIn K mainGlobals "ValueError" = some none)
 (Zjn:nsIn K mainGlobals "all" = some none)
 (Zjo:nsIn K mainGlobals "bool" = some none)
 (Zjp:nsIn K mainGlobals "int" = some none)
 (Zjq:nsIn K mainGlobals "isinstance" = some none)
 (Zjr:nsIn K mainGlobals "len" = some none)
 (Zjs:nsIn K mainGlobals "list" = some none)
 (Zjt:nsIn K mainGlobals "range" = some none)
 (Zju:nsIn K mainGlobals "str" = some none)
 (Zjv:nsIn K mainGlobals "tuple" = some none)
 (Zjw:nsIn K mainGlobals "zip" = some none)
 (Zji:nsIn K mainGlobals "MARK_SIGNS" = some (some (.str x_MARK_SIGNS t_MARK_SIGNS)))
 (Zjk:x_MARK_SIGNS=tx cs_MARK_SIGNS)
 (Zjh:nsIn K mainGlobals "FIGURES" = some (some (.str x_FIGURES t_FIGURES)))
 (Zjj:x_FIGURES=tx cs_FIGURES)
 (Zje:PySem.W.plainGet K c_Table Str.empty=true)
 (Ziq:PySem.W.hasDictIn K c_Table=true)
 (Zjf:PySem.W.plainOver K c_Table=true)
 (Zjg:PySem.W.findIn K (.ref c_Table) "__setattr__" = some (some (.builtin "object.__setattr__")))
 (Zip:PySem.W.findIn K (.ref c_Table) "__class__" = some (some (.builtin "object.__class__")))
 (Zir:PySem.W.mroIn K c_Table (.type "object")=some true)
 (Zi6:PySem.W.makesIn K c_Table=true)
 (Zi1:keepIn K (.ref c_Table)=true)
 (Zi5:PySem.W.findIn K (.ref c_Table) "__init__" = some (some (.ref f1)))
 (Zi4:isFn K (.ref f1)=true)
 (hn_:PySem.W.specialIn K (.builtin "object.__class__") "__get__" = some (some (.builtin "getset_descriptor.__get__")))
 (htk_:PySem.W.takesIn K (.builtin "object.__class__")=some true)
 (Zi9:PySem.W.findIn K (.ref c_Table) "ahead" = some none)
 (Zja:PySem.W.findIn K (.ref c_Table) "first" = some none)
 (Zjb:PySem.W.findIn K (.ref c_Table) "homes" = some none)
 (Zjc:PySem.W.findIn K (.ref c_Table) "lead" = some none)
 (Zjd:PySem.W.findIn K (.ref c_Table) "ways" = some none)
 (Zi2:PySem.W.findIn K (.ref c_Table) "block_length" = some (some (.ref f3)))
 (Zi7:isFn K (.ref f3)=true)
 (Zi3:PySem.W.findIn K (.ref c_Table) "signs" = some (some (.ref f2)))
 (Zi8:isFn K (.ref f2)=true)
 (Zis:kitOne K (.type "NoneType") (.ref c_Table)=some false)
 (ZiC:kitOne K (.type "bool") (.ref c_Table)=some false)
 (ZiH:kitOne K (.type "int") (.ref c_Table)=some false)
 (ZiR:kitOne K (.type "str") (.ref c_Table)=some false)
 (ZiM:kitOne K (.type "list") (.ref c_Table)=some false)
 (ZiW:kitOne K (.type "tuple") (.ref c_Table)=some false)
 (Zix:kitOne K (.ref c_Table) (.ref c_Table)=some true)
 (Zit:kitOne K (.type "NoneType") (.type "bool")=some false)
 (ZiD:kitOne K (.type "bool") (.type "bool")=some true)
 (ZiI:kitOne K (.type "int") (.type "bool")=some false)
 (ZiS:kitOne K (.type "str") (.type "bool")=some false)
 (ZiN:kitOne K (.type "list") (.type "bool")=some false)
 (ZiX:kitOne K (.type "tuple") (.type "bool")=some false)
 (Ziy:kitOne K (.ref c_Table) (.type "bool")=some false)
 (Ziu:kitOne K (.type "NoneType") (.type "int")=some false)
 (ZiE:kitOne K (.type "bool") (.type "int")=some true)
 (ZiJ:kitOne K (.type "int") (.type "int")=some true)
 (ZiT:kitOne K (.type "str") (.type "int")=some false)
 (ZiO:kitOne K (.type "list") (.type "int")=some false)
 (ZiY:kitOne K (.type "tuple") (.type "int")=some false)
 (Ziz:kitOne K (.ref c_Table) (.type "int")=some false)
 (Ziv:kitOne K (.type "NoneType") (.type "str")=some false)
 (ZiF:kitOne K (.type "bool") (.type "str")=some false)
 (ZiK:kitOne K (.type "int") (.type "str")=some false)
 (ZiU:kitOne K (.type "str") (.type "str")=some true)
 (ZiP:kitOne K (.type "list") (.type "str")=some false)
 (ZiZ:kitOne K (.type "tuple") (.type "str")=some false)
 (ZiA:kitOne K (.ref c_Table) (.type "str")=some false)
 (Ziw:kitOne K (.type "NoneType") (.type "tuple")=some false)
 (ZiG:kitOne K (.type "bool") (.type "tuple")=some false)
 (ZiL:kitOne K (.type "int") (.type "tuple")=some false)
 (ZiV:kitOne K (.type "str") (.type "tuple")=some false)
 (ZiQ:kitOne K (.type "list") (.type "tuple")=some false)
 (Zi0:kitOne K (.type "tuple") (.type "tuple")=some true)
 (ZiB:kitOne K (.ref c_Table) (.type "tuple")=some false)
 : ∃fd:FuncData,(∀(s:Shared)(v:Value),BindsTo s fd ⟨[v],[]⟩ [("script",v)])/\∀base:Heap,K.In base->base.Ns mainGlobals mg->FnOk l.prog w K mg base CX0 6 fa fd ["script"] (Q9 K):=by
 have e:=hfa.symm.trans (mg_of X G a25);cases e;have F0:FunX K "whole_in" "whole_in" XY f0 _:=(Zz (st:=XY) l0 c0 k0).x;have b0:=(Zz (st:=XY) l0 c0 k0).binds (ps:=["word", "figures"]) λ_ _ _ _ _ _ us hl=>match us,hl with|[_,_],_=>rfl
 have F1:FunX K "__init__" "Table.__init__" XZ f1 _:=(Zz (st:=XZ) l1 c1 k1).x;have b1:=(Zz (st:=XZ) l1 c1 k1).binds (ps:=["self", "lead", "first", "ahead", "homes", "ways"]) λ_ _ _ _ _ _ us hl=>match us,hl with|[_,_,_,_,_,_],_=>rfl
 have F2:FunX K "signs" "Table.signs" Vg f2 _:=(Zz (st:=Vg) l2 c2 k2).x;have b2:=(Zz (st:=Vg) l2 c2 k2).binds (ps:=["self"]) λ_ _ _ _ _ _ us hl=>match us,hl with|[_],_=>rfl
 have F3:FunX K "block_length" "Table.block_length" Vh f3 _:=(Zz (st:=Vh) l3 c3 k3).x;have b3:=(Zz (st:=Vh) l3 c3 k3).binds (ps:=["self"]) λ_ _ _ _ _ _ us hl=>match us,hl with|[_],_=>rfl
 have F4:FunX K "place_rows" "place_rows" X0 f4 _:=(Zz (st:=X0) l4 c4 k4).x;have b4:=(Zz (st:=X0) l4 c4 k4).binds (ps:=["home", "ways"]) λ_ _ _ _ _ _ us hl=>match us,hl with|[_,_],_=>rfl
 have F5:FunX K "table_text" "table_text" X1 f5 _:=(Zz (st:=X1) l5 c5 k5).x;have b5:=(Zz (st:=X1) l5 c5 k5).binds (ps:=["table"]) λ_ _ _ _ _ _ us hl=>match us,hl with|[_],_=>rfl
 have F6:FunX K "words_behind" "words_behind" Vi f6 _:=(Zz (st:=Vi) l6 c6 k6).x;have b6:=(Zz (st:=Vi) l6 c6 k6).binds (ps:=["row", "name", "many"]) λ_ _ _ _ _ _ us hl=>match us,hl with|[_,_,_],_=>rfl
 have F7:FunX K "is_row" "is_row" X2 f7 _:=(Zz (st:=X2) l7 c7 k7).x;have b7:=(Zz (st:=X2) l7 c7 k7).binds (ps:=["word"]) λ_ _ _ _ _ _ us hl=>match us,hl with|[_],_=>rfl
 have F8:FunX K "place_in" "place_in" Vj f8 _:=(Zz (st:=Vj) l8 c8 k8).x;have b8:=(Zz (st:=Vj) l8 c8 k8).binds (ps:=["word", "places"]) λ_ _ _ _ _ _ us hl=>match us,hl with|[_,_],_=>rfl
 have F9:FunX K "head_in" "head_in" X3 f9 _:=(Zz (st:=X3) l9 c9 k9).x;have b9:=(Zz (st:=X3) l9 c9 k9).binds (ps:=["row"]) λ_ _ _ _ _ _ us hl=>match us,hl with|[_],_=>rfl
 have F10:FunX K "lead_in" "lead_in" Vk f10 _:=(Zz (st:=Vk) l10 c10 k10).x;have b10:=(Zz (st:=Vk) l10 c10 k10).binds (ps:=["row"]) λ_ _ _ _ _ _ us hl=>match us,hl with|[_],_=>rfl
 have F11:FunX K "first_in" "first_in" Vl f11 _:=(Zz (st:=Vl) l11 c11 k11).x;have b11:=(Zz (st:=Vl) l11 c11 k11).binds (ps:=["row", "places"]) λ_ _ _ _ _ _ us hl=>match us,hl with|[_,_],_=>rfl
 have F12:FunX K "home_in" "home_in" Vm f12 _:=(Zz (st:=Vm) l12 c12 k12).x;have b12:=(Zz (st:=Vm) l12 c12 k12).binds (ps:=["row"]) λ_ _ _ _ _ _ us hl=>match us,hl with|[_],_=>rfl
 have F13:FunX K "way_in" "way_in" Vn f13 _:=(Zz (st:=Vn) l13 c13 k13).x;have b13:=(Zz (st:=Vn) l13 c13 k13).binds (ps:=["row", "length", "places"]) λ_ _ _ _ _ _ us hl=>match us,hl with|[_,_,_],_=>rfl
 have F14:FunX K "row_numbered" "row_numbered" Vo f14 _:=(Zz (st:=Vo) l14 c14 k14).x;have b14:=(Zz (st:=Vo) l14 c14 k14).binds (ps:=["rows", "number"]) λ_ _ _ _ _ _ us hl=>match us,hl with|[_,_],_=>rfl
 have F15:FunX K "stands" "stands" Vp f15 _:=(Zz (st:=Vp) l15 c15 k15).x;have b15:=(Zz (st:=Vp) l15 c15 k15).binds (ps:=["number", "said"]) λ_ _ _ _ _ _ us hl=>match us,hl with|[_,_],_=>rfl
 have F16:FunX K "ways_in" "ways_in" Vq f16 _:=(Zz (st:=Vq) l16 c16 k16).x;have b16:=(Zz (st:=Vq) l16 c16 k16).binds (ps:=["rows", "number", "head"]) λ_ _ _ _ _ _ us hl=>match us,hl with|[_,_,_],_=>rfl
 have F17:FunX K "read_table" "read_table" Vr f17 _:=(Zz (st:=Vr) l17 c17 k17).x;have b17:=(Zz (st:=Vr) l17 c17 k17).binds (ps:=["text"]) λ_ _ _ _ _ _ us hl=>match us,hl with|[_],_=>rfl
 have F18:FunX K "_law_cell_at" "_law_cell_at" Vs f18 _:=(Zz (st:=Vs) l18 c18 k18).x;have b18:=(Zz (st:=Vs) l18 c18 k18).binds (ps:=["script", "k"]) λ_ _ _ _ _ _ us hl=>match us,hl with|[_,_],_=>rfl
 have F19:FunX K "_law_is_whole" "_law_is_whole" Vt f19 _:=(Zz (st:=Vt) l19 c19 k19).x;have b19:=(Zz (st:=Vt) l19 c19 k19).binds (ps:=["found"]) λ_ _ _ _ _ _ us hl=>match us,hl with|[_],_=>rfl
 have F20:FunX K "_law_text" "_law_text" X4 f20 _:=(Zz (st:=X4) l20 c20 k20).x;have b20:=(Zz (st:=X4) l20 c20 k20).binds (ps:=["lead", "first", "ahead", "homes", "ways"]) λ_ _ _ _ _ _ us hl=>match us,hl with|[_,_,_,_,_],_=>rfl
 have F21:FunX K "_law_signs" "_law_signs" Vu f21 _:=(Zz (st:=Vu) l21 c21 k21).x;have b21:=(Zz (st:=Vu) l21 c21 k21).binds (ps:=["cell", "many"]) λ_ _ _ _ _ _ us hl=>match us,hl with|[_,_],_=>rfl
 have F22:FunX K "_law_number" "_law_number" Vv f22 _:=(Zz (st:=Vv) l22 c22 k22).x;have b22:=(Zz (st:=Vv) l22 c22 k22).binds (ps:=["cell"]) λ_ _ _ _ _ _ us hl=>match us,hl with|[_],_=>rfl
 have F23:FunX K "_law_ways_like" "_law_ways_like" Vw f23 _:=(Zz (st:=Vw) l23 c23 k23).x;have b23:=(Zz (st:=Vw) l23 c23 k23).binds (ps:=["found", "ways"]) λ_ _ _ _ _ _ us hl=>match us,hl with|[_,_],_=>rfl
 have F24:FunX K "_law_like" "_law_like" Vx f24 _:=(Zz (st:=Vx) l24 c24 k24).x;have b24:=(Zz (st:=Vx) l24 c24 k24).binds (ps:=["found", "lead", "first", "ahead", "homes", "ways"]) λ_ _ _ _ _ _ us hl=>match us,hl with|[_,_,_,_,_,_],_=>rfl
 have F25:FunX K "law" "law" Y6 fa _:=(Zz (st:=Y6) l25 c25 k25).x;have b25:=(Zz (st:=Y6) l25 c25 k25).binds (ps:=["script"]) λ_ _ _ _ _ _ us hl=>match us,hl with|[_],_=>rfl
 have T:Txt K mg { a_QR:=f0,d_QR:=_,a_QJ:=f1,d_QJ:=_,a_QG:=f2,d_QG:=_,a_QA:=f3,d_QA:=_,a_QI:=f4,d_QI:=_,a_QL:=f5,d_QL:=_,a_QD:=f6,d_QD:=_,a_QX:=f7,d_QX:=_,a_QP:=f8,d_QP:=_,a_QT:=f9,d_QT:=_,a_QV:=f10,d_QV:=_,a_QQ:=f11,d_QQ:=_,a_QU:=f12,d_QU:=_,a_QY:=f13,d_QY:=_,a_QF:=f14,d_QF:=_,a_QW:=f15,d_QW:=_,a_QS:=f16,d_QS:=_,a_QK:=f17,d_QK:=_,a_QE:=f18,d_QE:=_,a_QC:=f19,d_QC:=_,a_QO:=f20,d_QO:=_,a_QM:=f21,d_QM:=_,a_QH:=f22,d_QH:=_,a_QB:=f23,d_QB:=_,a_QN:=f24,d_QN:=_,a_QZ:=fa,d_QZ:=_,c_Table:=c_Table,u_MARK_SIGNS := .str x_MARK_SIGNS t_MARK_SIGNS,u_FIGURES := .str x_FIGURES t_FIGURES }:={ f_QR:=F0,b_QR:=b0,g_QR:=mg_of X G a0,k_QR:=k0,f_QJ:=F1,b_QJ:=b1,k_QJ:=k1,f_QG:=F2,b_QG:=b2,k_QG:=k2,f_QA:=F3,b_QA:=b3,k_QA:=k3,f_QI:=F4,b_QI:=b4,g_QI:=mg_of X G a4,k_QI:=k4,f_QL:=F5,b_QL:=b5,g_QL:=mg_of X G a5,k_QL:=k5,f_QD:=F6,b_QD:=b6,g_QD:=mg_of X G a6,k_QD:=k6,f_QX:=F7,b_QX:=b7,g_QX:=mg_of X G a7,k_QX:=k7,f_QP:=F8,b_QP:=b8,g_QP:=mg_of X G a8,k_QP:=k8,f_QT:=F9,b_QT:=b9,g_QT:=mg_of X G a9,k_QT:=k9,f_QV:=F10,b_QV:=b10,g_QV:=mg_of X G a10,k_QV:=k10,f_QQ:=F11,b_QQ:=b11,g_QQ:=mg_of X G a11,k_QQ:=k11,f_QU:=F12,b_QU:=b12,g_QU:=mg_of X G a12,k_QU:=k12,f_QY:=F13,b_QY:=b13,g_QY:=mg_of X G a13,k_QY:=k13,f_QF:=F14,b_QF:=b14,g_QF:=mg_of X G a14,k_QF:=k14,f_QW:=F15,b_QW:=b15,g_QW:=mg_of X G a15,k_QW:=k15,f_QS:=F16,b_QS:=b16,g_QS:=mg_of X G a16,k_QS:=k16,f_QK:=F17,b_QK:=b17,g_QK:=mg_of X G a17,k_QK:=k17,f_QE:=F18,b_QE:=b18,g_QE:=mg_of X G a18,k_QE:=k18,f_QC:=F19,b_QC:=b19,g_QC:=mg_of X G a19,k_QC:=k19,f_QO:=F20,b_QO:=b20,g_QO:=mg_of X G a20,k_QO:=k20,f_QM:=F21,b_QM:=b21,g_QM:=mg_of X G a21,k_QM:=k21,f_QH:=F22,b_QH:=b22,g_QH:=mg_of X G a22,k_QH:=k22,f_QB:=F23,b_QB:=b23,g_QB:=mg_of X G a23,k_QB:=k23,f_QN:=F24,b_QN:=b24,g_QN:=mg_of X G a24,k_QN:=k24,f_QZ:=F25,b_QZ:=b25,g_QZ:=mg_of X G a25,k_QZ:=k25,n_ValueError:=mg_none_of X G Zjm,n_all:=mg_none_of X G Zjn,n_bool:=mg_none_of X G Zjo,n_int:=mg_none_of X G Zjp,n_isinstance:=mg_none_of X G Zjq,n_len:=mg_none_of X G Zjr,n_list:=mg_none_of X G Zjs,n_range:=mg_none_of X G Zjt,n_str:=mg_none_of X G Zju,n_tuple:=mg_none_of X G Zjv,n_zip:=mg_none_of X G Zjw,g_MARK_SIGNS:=mg_of X G Zji,r_MARK_SIGNS:=⟨_,by rw [Zjk]⟩,g_FIGURES:=mg_of X G Zjh,r_FIGURES:=⟨_,by rw [Zjj]⟩,g_Table:=mg_of X G Zjl,cl_Table:=⟨Zje,Ziq,Zjf,Zjg⟩,ci_Table:=⟨⟨Zje,Ziq,Zjf,Zjg⟩,Zip,hn_,htk_,Zir⟩,mk_Table:=⟨Zi6,Zi5,Zi4,Zi1⟩,fl_ahead:=(by intro c hc;simp only [Xr,List.mem_cons,List.mem_nil_iff,or_false]at hc;rcases hc with rfl<;>first|exact⟨⟨Zje,Ziq,Zjf,Zjg⟩,Zi9⟩),fl_first:=(by intro c hc;simp only [Xs,List.mem_cons,List.mem_nil_iff,or_false]at hc;rcases hc with rfl<;>first|exact⟨⟨Zje,Ziq,Zjf,Zjg⟩,Zja⟩),fl_homes:=(by intro c hc;simp only [Y0,List.mem_cons,List.mem_nil_iff,or_false]at hc;rcases hc with rfl<;>first|exact⟨⟨Zje,Ziq,Zjf,Zjg⟩,Zjb⟩),fl_lead:=(by intro c hc;simp only [Y5,List.mem_cons,List.mem_nil_iff,or_false]at hc;rcases hc with rfl<;>first|exact⟨⟨Zje,Ziq,Zjf,Zjg⟩,Zjc⟩),fl_row:=(by intro c hc;exact absurd hc (by simp [Zem])),fl_ways:=(by intro c hc;simp only [Xu,List.mem_cons,List.mem_nil_iff,or_false]at hc;rcases hc with rfl<;>first|exact⟨⟨Zje,Ziq,Zjf,Zjg⟩,Zjd⟩),me_Table_block_length:=⟨Zi2,Zi7,k3⟩,me_Table_signs:=⟨Zi3,Zi8,k2⟩,isi_Table:=U1 (by intro p hp;simp only [QK,List.mem_cons,List.mem_nil_iff,or_false]at hp;rcases hp with rfl|rfl|rfl|rfl|rfl|rfl|rfl<;>first|exact Zis|exact ZiC|exact ZiH|exact ZiR|exact ZiM|exact ZiW|exact⟨Zix,⟨Zje,Ziq,Zjf,Zjg⟩,Zip,hn_,htk_,Zir⟩),isi_bool:=U1 (by intro p hp;simp only [QL,List.mem_cons,List.mem_nil_iff,or_false]at hp;rcases hp with rfl|rfl|rfl|rfl|rfl|rfl|rfl<;>first|exact Zit|exact ZiD|exact ZiI|exact ZiS|exact ZiN|exact ZiX|exact⟨Ziy,⟨Zje,Ziq,Zjf,Zjg⟩,Zip,hn_,htk_,Zir⟩),isi_int:=U1 (by intro p hp;simp only [Zcg,List.mem_cons,List.mem_nil_iff,or_false]at hp;rcases hp with rfl|rfl|rfl|rfl|rfl|rfl|rfl<;>first|exact Ziu|exact ZiE|exact ZiJ|exact ZiT|exact ZiO|exact ZiY|exact⟨Ziz,⟨Zje,Ziq,Zjf,Zjg⟩,Zip,hn_,htk_,Zir⟩),isi_str:=U1 (by intro p hp;simp only [V1,List.mem_cons,List.mem_nil_iff,or_false]at hp;rcases hp with rfl|rfl|rfl|rfl|rfl|rfl|rfl<;>first|exact Ziv|exact ZiF|exact ZiK|exact ZiU|exact ZiP|exact ZiZ|exact⟨ZiA,⟨Zje,Ziq,Zjf,Zjg⟩,Zip,hn_,htk_,Zir⟩),isi_tuple:=U1 (by intro p hp;simp only [XW,List.mem_cons,List.mem_nil_iff,or_false]at hp;rcases hp with rfl|rfl|rfl|rfl|rfl|rfl|rfl<;>first|exact Ziw|exact ZiG|exact ZiL|exact ZiV|exact ZiQ|exact Zi0|exact⟨ZiB,⟨Zje,Ziq,Zjf,Zjg⟩,Zip,hn_,htk_,Zir⟩) }
 exact⟨fnOf "law" "law" (defArgs Y6) (defBody Y6) (defScope Y6) .none kV25 dc25 pm25 an25 cd25 ct25,λs v => .of_eq rfl,λbase _ _=>Zgx hall T⟩
theorem walk {l:PySem.W.OpenLaw} {q:Program} {loose:List Str} {XP:(Str->Option Value)->Heap->Prop} {YP:World->Heap->Prop} {d:DefRec} {K:Params->PySem.W.Frag} (hn:l.most=some 63) (hdf:d.params.defaults=[])
 (hY:∀(w:World)(h:Heap),YP w h->(K w.params).In h)
 (F:∀(w:World)(mg:Str->Option Value)(fa:Addr)(h:Heap),(K w.params).In h->h.Ns mainGlobals mg->mg d.name=some (.ref fa) ->
   ∃fd:FuncData,(∀(s:Shared)(u:Value),BindsTo s fd ⟨[u],[]⟩ [("script",u)])/\∀base:Heap,(K w.params).In base->base.Ns mainGlobals mg->FnOk l.prog w (K w.params) mg base CX0 6 fa fd ["script"] (Q9 (K w.params))) :
 PySem.W.WalkO q loose XP YP l.row.toRowW d [] (λf vs=>PySem.call f vs):=
 L2.walk_of (n:=63) (k:=6) (x:="script") (CX:=λ_=>CX0) (sp:=λw=>Q9 (K w.params)) hn (by decide) hdf ⟨rfl,by decide,by decide⟩ hY F (λ_ _ a ns hl _ hS=>⟨a,ns,rfl,hS,hl,λ_=>rfl⟩) λ_ _ _ _ _ z=>z
end K49
open PySem PySem.W PyProof.Rows
set_option maxRecDepth 100000 in
set_option maxHeartbeats 0 in
theorem PySem.Challenge.cw_grooveway_k49_tables_there_and_back_holds : PySem.Challenge.rw_grooveway_k49_tables_there_and_back.Holds := by
 w_on;o_law
 refine holds_open (r:=PySem.Challenge.rw_grooveway_k49_tables_there_and_back.row) (q:=(view PySem.Challenge.pw_grooveway_k49_tables_there_and_back [1,2,3,5,6,8,10,11,12,13,14,15,16,17,18,19,20,21,22,23,25,26,27,28,29,30,31,32])) (loose:=[]) (XP:=XL (view PySem.Challenge.pw_grooveway_k49_tables_there_and_back [1,2,3,5,6,8,10,11,12,13,14,15,16,17,18,19,20,21,22,23,25,26,27,28,29,30,31,32]) []) (YP:=InK K49.kP) K49.left (InK.of K49.kP_as) InK.keeps (λs e=>xl_of s (Bool.and_eq_true_iff.mp e).1) XL.keeps (by rfl) (by rfl) (by rfl) (λs e=>recFacts_of (Bool.and_eq_true_iff.mp e).2) (by rfl) (by assumption) (by decide +kernel) ⟨rfl,rfl,rfl,rfl,rfl,by decide +kernel⟩ ?hw ?hc
 case hw=>w_witness2
 k_fill
 refine K49.walk (l:=PySem.Challenge.rw_grooveway_k49_tables_there_and_back) rfl rfl (λw h Y=>Y) ?F
 case F=>
  intro w mg fa h KX G hmg;refine' K49.all_mk K49.all_true KX G hmg ?Zjl ?a0 ?l0 ?c0 ?k0 ?a1 ?l1 ?c1 ?k1 ?a2 ?l2 ?c2 ?k2 ?a3 ?l3 ?c3 ?k3 ?a4 ?l4 ?c4 ?k4 ?a5 ?l5 ?c5 ?k5 ?a6 ?l6 ?c6 ?k6 ?a7 ?l7 ?c7 ?k7 ?a8 ?l8 ?c8 ?k8 ?a9 ?l9 ?c9 ?k9 ?a10 ?l10 ?c10 ?k10 ?a11 ?l11 ?c11 ?k11 ?a12 ?l12 ?c12 ?k12 ?a13 ?l13 ?c13 ?k13 ?a14 ?l14 ?c14 ?k14 ?a15 ?l15 ?c15 ?k15 ?a16 ?l16 ?c16 ?k16 ?a17 ?l17 ?c17 ?k17 ?a18 ?l18 ?c18 ?k18 ?a19 ?l19 ?c19 ?k19 ?a20 ?l20 ?c20 ?k20 ?a21 ?l21 ?c21 ?k21 ?a22 ?l22 ?c22 ?k22 ?a23 ?l23 ?c23 ?k23 ?a24 ?l24 ?c24 ?k24 ?a25 ?l25 ?c25 ?k25 ?Zjm ?Zjn ?Zjo ?Zjp ?Zjq ?Zjr ?Zjs ?Zjt ?Zju ?Zjv ?Zjw ?Zji ?Zjk ?Zjh ?Zjj ?Zje ?Ziq ?Zjf ?Zjg ?Zip ?Zir ?Zi6 ?Zi1 ?Zi5 ?Zi4 ?hn_ ?htk_ ?Zi9 ?Zja ?Zjb ?Zjc ?Zjd ?Zi2 ?Zi7 ?Zi3 ?Zi8 ?Zis ?ZiC ?ZiH ?ZiR ?ZiM ?ZiW ?Zix ?Zit ?ZiD ?ZiI ?ZiS ?ZiN ?ZiX ?Ziy ?Ziu ?ZiE ?ZiJ ?ZiT ?ZiO ?ZiY ?Ziz ?Ziv ?ZiF ?ZiK ?ZiU ?ZiP ?ZiZ ?ZiA ?Ziw ?ZiG ?ZiL ?ZiV ?ZiQ ?Zi0 ?ZiB
  (case Zjl|a0|l0|c0|k0|a1|l1|c1|k1|a2|l2|c2|k2|a3|l3|c3|k3|a4|l4|c4|k4|a5|l5|c5|k5|a6|l6|c6|k6|a7|l7|c7|k7|a8|l8|c8|k8|a9|l9|c9|k9|a10|l10|c10|k10|a11|l11|c11|k11|a12|l12|c12|k12|a13|l13|c13|k13|a14|l14|c14|k14|a15|l15|c15|k15|a16|l16|c16|k16|a17|l17|c17|k17|a18|l18|c18|k18|a19|l19|c19|k19|a20|l20|c20|k20|a21|l21|c21|k21|a22|l22|c22|k22|a23|l23|c23|k23|a24|l24|c24|k24|a25|l25|c25|k25|Zjm|Zjn|Zjo|Zjp|Zjq|Zjr|Zjs|Zjt|Zju|Zjv|Zjw|Zji=>k_is)
  (case Zjk=>decide +kernel)
  (case Zjh=>k_is)
  (case Zjj=>decide +kernel)
  (case Zje|Ziq|Zjf|Zjg|Zip|Zir|Zi6|Zi1|Zi5|Zi4|hn_|htk_|Zi9|Zja|Zjb|Zjc|Zjd|Zi2|Zi7|Zi3|Zi8=>k_is)
  (case Zis|ZiC|ZiH|ZiR|ZiM|ZiW|Zix|Zit|ZiD|ZiI|ZiS|ZiN|ZiX|Ziy|Ziu|ZiE|ZiJ|ZiT|ZiO|ZiY|Ziz|Ziv|ZiF|ZiK|ZiU|ZiP|ZiZ|ZiA|Ziw|ZiG|ZiL|ZiV|ZiQ|Zi0|ZiB=>kit_is)
