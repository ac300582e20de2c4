import PyProof.Rows.All
import Wide.All
import OpenK.AllK
import Wide.FinOn
import Lean
import PyProof.EqAt
import PyProof.EqKinds
import PyProof.TupleCall
import PyProof.Rows.StrCountLaw
import PyProof.Rows.StrFirst
import PyProof.Rows.StrLast
import PyProof.Rows.StrNews2
import PyProof.Rows.StrSplitCount
import PyProof.StrBlockI
import PyProof.StrLawsIn
import PyProof.StrLawsLast
import PyProof.EnumMake
import PyProof.FString
import PyProof.ReprStr
import PyProof.StrLawsRepr
import PyProof.ListStr
import PyProof.ListRange
import PySem.Challenge.RW_grooveway_k06_whole_rows_kept
set_option Elab.async false
set_option linter.all false
set_option maxRecDepth 100000
set_option maxHeartbeats 4000000
open PySem.W (keepIn nsIn mg_of fnOf codeIn kitOne mg_none_of isFn instObj emptyDict)
namespace L2
open PySem PySem.Spec PyProof.Rows
abbrev Key:=Sum Int Str
def ZhM:Key->Value->Bool
 | .inl k,v=>Value.isInt k v
 | .inr x,v=>Value.isStrOf x v
def Zm1(w:World):Key->Int
 | .inl k=>hashInt k
 | .inr x=>hashStr w x
theorem Ug:∀{k:Key}{v:Value},ZhM k v=true->(∃i t,k=Sum.inl i/\v=Value.int i t)\/(∃x t,k=Sum.inr x/\v=Value.str x t)
 | .inl i,v,h=>by
  obtain⟨t,e⟩:=Value.isInt_shape (k:=i) (v:=v) h;exact .inl ⟨i,t,rfl,e⟩
 | .inr x,v,h=>by
  obtain⟨t,e⟩:=Value.isStrOf_shape (x:=x) (v:=v) h;exact .inr ⟨x,t,rfl,e⟩
theorem Ziq(a b:Int):decide ((Sum.inl a:Key)=Sum.inl b)=(a == b):=by
 by_cases e:a=b
 · subst e;simp
 · have h:¬(Sum.inl a:Key)=Sum.inl b:=λq=>e (Sum.inl.inj q)
   rw [decide_eq_false h];exact(beq_eq_false_iff_ne.mpr e).symm
theorem Zir(a b:Str):decide ((Sum.inr a:Key)=Sum.inr b)=decide (a=b):=by
 by_cases e:a=b
 · subst e;simp
 · have h:¬(Sum.inr a:Key)=Sum.inr b:=λq=>e (Sum.inr.inj q)
   rw [decide_eq_false h,decide_eq_false e]
theorem Zis(a:Int)(b:Str):decide ((Sum.inl a:Key)=Sum.inr b)=false:=decide_eq_false (λq=>nomatch q)
theorem Zit(a:Str)(b:Int):decide ((Sum.inr a:Key)=Sum.inl b)=false:=decide_eq_false (λq=>nomatch q)
def ZdL(prog:Program)(w:World):PySem.KeyKind prog w Key where
 is:=ZhM
 hash:=Zm1 w
 inj:=λv a b ha hb=>by
  rcases Ug ha with⟨i,t,rfl,rfl⟩|⟨x,t,rfl,rfl⟩
  · rcases Ug hb with⟨j,u,rfl,e⟩|⟨y,u,rfl,e⟩
    · injection e with e1 _;rw [e1]
    · exact nomatch e
  · rcases Ug hb with⟨j,u,rfl,e⟩|⟨y,u,rfl,e⟩
    · exact nomatch e
    · injection e with e1 _;rw [e1]
 byValue:=λk v h=>by
  rcases Ug h with⟨i,t,rfl,rfl⟩|⟨x,t,rfl,rfl⟩<;>rfl
 pyHash:=λhv h=>by
  rcases Ug hv with⟨i,t,rfl,rfl⟩|⟨x,t,rfl,rfl⟩
  · exact wpAny_pyHash_int h
  · exact wpAny_pyHash_str h
 eqBool:=λhu hv h=>by
  rcases Ug hu with⟨i,t,rfl,rfl⟩|⟨x,t,rfl,rfl⟩
  · rcases Ug hv with⟨j,u,rfl,rfl⟩|⟨y,u,rfl,rfl⟩
    · rw [Ziq]at h;exact wpAny_eqBool_int h
    · rw [Zis]at h;exact SeqAt.EqAt.int_str i t y u _ _ _ _ h
  · rcases Ug hv with⟨j,u,rfl,rfl⟩|⟨y,u,rfl,rfl⟩
    · rw [Zit]at h;exact SeqAt.EqAt.str_int x t j u _ _ _ _ h
    · rw [Zir]at h;exact wpAny_eqBool_str h
 «strs» := λk x t v h=>by
  rcases Ug h with⟨i,u,rfl,e⟩|⟨y,u,rfl,e⟩
  · exact nomatch e
  · injection e with e1 _
    subst e1;cases v<;>rfl
end L2
namespace L2
open PySem PySem.Spec PyProof.Rows
inductive V where
 |non|bl (b:Bool)|int (i:Int)|str (x:Str)|byt (b:Array UInt8)|flt (b:UInt64)|ref (a:Addr)|ty (n:String)
 deriving DecidableEq
def RelV:V->Value->Prop
 | .non,u=>u=Value.none
 | .bl b,u=>u=Value.bool b
 | .int i,u=>∃t,u=Value.int i t
 | .str x,u=>∃t,u=Value.str x t
 | .byt b,u=>∃t,u=Value.bytes b t
 | .flt b,u=>∃t,u=Value.float b t
 | .ref a,u=>u=Value.ref a
 | .ty n,u=>u=Value.type n
abbrev Vals:List V->List Value->Prop:=Paired RelV
theorem Vals.length{xs:List V}{us:List Value}(r:Vals xs us):xs.length=us.length:=Paired.length r
theorem Vals.get:∀{xs:List V}{us:List Value}{i:Nat}{x:V},Vals xs us->xs[i]? = some x->∃u,us[i]? = some u/\RelV x u
 |_,_,_,_,.nil,e=>by simp at e
 |_,_,0,_,.cons r _,e=>by simp at e;subst e;exact⟨_,rfl,r⟩
 |_,_,i+1,x,.cons _ t,e=>by
  obtain⟨u,h1,h2⟩:=Vals.get (i:=i) (x:=x) t (by simpa using e);exact⟨u,by simpa using h1,h2⟩
theorem Vals.set{x:V}{u:Value}(r:RelV x u):∀{xs:List V}{us:List Value}(i:Nat),Vals xs us->Vals (xs.set i x) (us.set i u)
 |_,_,_,.nil => .nil
 |_,_,0,.cons _ t => .cons r t
 |_,_,i+1,.cons q t => .cons q (Vals.set r i t)
theorem Vals.append:∀{xs ys:List V}{us ws:List Value},Vals xs us->Vals ys ws->Vals (xs++ys) (us++ws)
 |_,_,_,_,.nil,s=>s
 |_,_,_,_,.cons r t,s => .cons r (Vals.append t s)
theorem Vals.take:∀{xs:List V}{us:List Value}(n:Nat),Vals xs us->Vals (xs.take n) (us.take n)
 |_,_,0,_ => .nil
 |_,_,_+1,.nil => .nil
 |_,_,n+1,.cons r t => .cons r (Vals.take n t)
theorem Vals.drop:∀{xs:List V}{us:List Value}(n:Nat),Vals xs us->Vals (xs.drop n) (us.drop n)
 |_,_,0,r=>r
 |_,_,_+1,.nil => .nil
 |_,_,n+1,.cons _ t=>Vals.drop n t
def RelO:Option V->Option Value->Prop
 |some v,some u=>RelV v u
 |none,none=>True
 |_,_=>False
def KV{κ:Type}:List (κ×V)->List (κ×Value)->Prop:=Paired λ(p:κ×V) (q:κ×Value)=>p.1=q.1/\RelV p.2 q.2
def kV:Key->V
 | .inl i => .int i
 | .inr x => .str x
inductive HO where
 |lst (xs:List V)
 |tup (xs:List V)
 |dK (kvs:List (Key×V))|dT (kvs:List (List Key×V))
 |set (S:Int->Bool) (n:Nat)
 |ins (C dx:Addr) (fs:List (Str×V))
 |own (x:Addr)
 |xd (fs:List (Str×V))
 |met (f x:Addr)
 |rng (lo hi:Int)
 |frz (o:Obj) (u:HO)
 |tbl (ps:Array Value)
 |ext (φ:Heap->Prop)
abbrev Hp:=Addr->Option HO
def upd(H:Hp)(a:Addr)(o:HO):Hp:=λb=>if b=a then some o else H b
theorem YO{H:Hp}{a:Addr}{o:HO}:upd H a o a=some o:=by unfold upd;rw [if_pos rfl]
theorem Ye{H:Hp}{a b:Addr}{o:HO}(h:b≠a):upd H a o b=H b:=by unfold upd;rw [if_neg h]
theorem Y7{H:Hp}{a b:Addr}{o:HO}(h:H a=some o)(h':H b=none):a≠b:=by
 intro e;subst e;rw [h]at h';cases h'
def TupN(h:Heap)(a:Addr)(its:Array Value):Prop:=∃o,h.get? a=some o/\o.cls = .type "tuple" /\ (∃n,o.data = .seq its n)/\o.dict=none
theorem TupN.tup{h:Heap}{a:Addr}{its:Array Value}(x:TupN h a its):IsTup h a its:=let⟨o,e,c,d,_⟩:=x;⟨o,e,c,d⟩
theorem TupN.new(h:Heap)(its:Array Value):TupN (h.push { cls := .type "tuple",data := .seq its }) h.objs.size its:=⟨_,Heap.get?_push_size _ rfl,rfl,⟨_,rfl⟩,rfl⟩
section
variable(P:Program)(w:World)
def ObjOk(H:Hp)(h:Heap)(a:Addr):HO->Prop
 | .lst xs=>xs.length<=sizeLine/\∃(its:List Value) (n:Nat),Vals xs its/\h.get? a=some { cls := .type "list",data := .seq its.toArray n }
 | .tup xs=>xs.length<=sizeLine/\∃its:List Value,Vals xs its/\TupN h a its.toArray
 | .dK kvs=>kvs.length<=sizeLine/\(a == sysModules)=false/\∃vs,KV kvs vs/\h.DictOf (ZdL P w) a vs
 | .dT kvs=>kvs.length<=sizeLine/\(a == sysModules)=false/\∃xs:List (List Key×Addr×Value),
  Paired (λ(p:List Key×V) (q:List Key×Addr×Value)=>p.1=q.1/\H q.2.1=some (.tup (p.1.map kV))/\RelV p.2 q.2.2) kvs xs /\
  ∃o es ep,h.get? a=some o/\o.ExactDict/\o.data = .dict es ep/\es.toList=xs.map (entryOfKey (tupleKind (ZdL P w)))/\(xs.map (·.1)).Nodup
 | .set S n=>h.SetOf (intKind P w) a S n
 | .ins C dx fs=>H dx=some (.own a)/\fs.length<=1000/\dx≠a/\h.get? a=some (instObj C dx) /\
  ∃mA,h.Ns1 dx mA/\(∀f,RelO (fs.lookup f) (mA f))/\PySem.Within mA (fs.map (·.1))
 | .own _=>∃o,h.get? a=some o
 | .xd fs=>∃mA,h.Ns1 a mA/\∀f,RelO (fs.lookup f) (mA f)
 | .rng lo hi=>∃t u v,h.get? a=some { cls := .type "range",data := .fields #[.int lo t,.int hi u,.int 1 v] }
 | .frz o u=>h.get? a=some o/\ObjOk H h a u
 | .tbl ps=>h.get? a=some { cls := .none,data := .fields ps }
 | .met f x=>h.get? a=some (PySem.W.methodObj (.ref f) (.ref x))
 | .ext φ=>φ h/\(∃o,h.get? a=some o)/\∀h1 h2:Heap,φ h1->(∀o,h1.get? a=some o->h2.get? a=some o)->φ h2
def HOk(H:Hp)(h:Heap):Prop:=∀a o,H a=some o->ObjOk P w H h a o
end
section
variable{P:Program}{w:World}{H H':Hp}{h h':Heap}{a:Addr}{o:HO}
theorem ObjOk.lt(x:ObjOk P w H h a o):a<h.objs.size:=by
 cases o with
 |lst xs=>obtain⟨_,_,_,_,e⟩:=x;exact Heap.lt_size e
 |tup xs=>obtain⟨_,_,_,p⟩:=x;exact p.tup.lt
 |dK kvs=>obtain⟨_,_,_,_,o,_,_,e,_⟩:=x;exact Heap.lt_size e
 |dT kvs=>obtain⟨_,_,_,_,o,_,_,e,_⟩:=x;exact Heap.lt_size e
 |set S n=>obtain⟨o,_,_,_,e,_⟩:=x;exact Heap.lt_size e
 |ins C dx fs=>obtain⟨_,_,_,e,_⟩:=x;exact Heap.lt_size e
 |own y=>obtain⟨_,e⟩:=x;exact Heap.lt_size e
 |xd fs=>obtain⟨_,⟨_,_,_,e,_⟩,_⟩:=x;exact Heap.lt_size e
 |rng lo hi=>obtain⟨_,_,_,e⟩:=x;exact Heap.lt_size e
 |frz ob u=>obtain⟨e,_⟩:=x;exact Heap.lt_size e
 |tbl ps=>exact Heap.lt_size (show h.get? a=some _ from x)
 |met f y=>exact Heap.lt_size (show h.get? a=some _ from x)
 |ext φ=>obtain⟨_,⟨_,e⟩,_⟩:=x;exact Heap.lt_size e
theorem Paired.mapP{α β:Type}{F G:α->β->Prop}:∀{l₁:List α}{l₂:List β},Paired F l₁ l₂->(∀a b,F a b->G a b)->Paired G l₁ l₂
 |_,_,.nil,_ => .nil
 |_,_,.cons r t,f => .cons (f _ _ r) (Paired.mapP t f)
theorem ObjOk.stay (x:ObjOk P w H h a o) (k:∀b u,(b=a\/H b=some (.own a))->h.get? b=some u->h'.get? b=some u)
 (ho:∀b,H b=some (.own a)->H' b=some (.own a)) (ht:∀b xs,H b=some (.tup xs)->H' b=some (.tup xs)):ObjOk P w H' h' a o:=by
 induction o with
 |lst xs=>obtain⟨z,its,n,r,e⟩:=x;exact⟨z,its,n,r,k _ _ (.inl rfl) e⟩
 |tup xs=>obtain⟨z,its,r,ob,e,c⟩:=x;exact⟨z,its,r,ob,k _ _ (.inl rfl) e,c⟩
 |dK kvs=>obtain⟨z,y,vs,r,ob,es,ep,e,c⟩:=x;exact⟨z,y,vs,r,ob,es,ep,k _ _ (.inl rfl) e,c⟩
 |dT kvs=>
  obtain⟨z,y,xs,r,ob,es,ep,e,c⟩:=x;exact⟨z,y,xs,Paired.mapP r λp q z=>⟨z.1,ht _ _ z.2.1,z.2.2⟩,ob,es,ep,k _ _ (.inl rfl) e,c⟩
 |set S n=>obtain⟨ob,es,ep,t,e,c⟩:=x;exact⟨ob,es,ep,t,k _ _ (.inl rfl) e,c⟩
 |ins C dx fs=>
  obtain⟨d,z,ne,e,mA,⟨od,es,ep,e2,c⟩,r⟩:=x;exact⟨ho _ d,z,ne,k _ _ (.inl rfl) e,mA,⟨od,es,ep,k _ _ (.inr d) e2,c⟩,r⟩
 |own y=>obtain⟨ob,e⟩:=x;exact⟨ob,k _ _ (.inl rfl) e⟩
 |xd fs=>obtain⟨mA,⟨od,es,ep,e,c⟩,r⟩:=x;exact⟨mA,⟨od,es,ep,k _ _ (.inl rfl) e,c⟩,r⟩
 |rng lo hi=>obtain⟨t,u,v,e⟩:=x;exact⟨t,u,v,k _ _ (.inl rfl) e⟩
 |frz ob u ih=>obtain⟨e,q⟩:=x;exact⟨k _ _ (.inl rfl) e,ih q⟩
 |tbl ps=>
  have e:h.get? a=some { cls := .none,data := .fields ps }:=x;show h'.get? a=some { cls := .none,data := .fields ps };exact k a _ (.inl rfl) e
 |met f y=>
  have e:h.get? a=some (PySem.W.methodObj (.ref f) (.ref y)):=x;show h'.get? a=some (PySem.W.methodObj (.ref f) (.ref y));exact k a _ (.inl rfl) e
 |ext φ=>obtain⟨p,⟨o,e⟩,st⟩:=x;exact⟨st _ _ p λo q=>k _ _ (.inl rfl) q,⟨o,k _ _ (.inl rfl) e⟩,st⟩
theorem HOk.lt(x:HOk P w H h)(e:H a=some o):a<h.objs.size:=(x a o e).lt
theorem HOk.fresh(x:HOk P w H h)(e:h.objs.size<=a):H a=none:=by
 cases q:H a with
 |none=>rfl
 |some u=>exact absurd (Nat.lt_of_lt_of_le (x.lt q) e) (Nat.lt_irrefl _)
theorem HOk.kept(x:HOk P w H h)(k:∀b u,h.get? b=some u->h'.get? b=some u):HOk P w H h':=λa o e=>
 (x a o e).stay (λb u _ q=>k b u q) (λ_ q=>q) λ_ _ q=>q
theorem HOk.laid(x:HOk P w H h)(k:∀b u,h.get? b=some u->h'.get? b=some u)(hp:h.objs.size<=a)(new:ObjOk P w (upd H a o) h' a o):HOk P w (upd H a o) h':=λb u e=>by
 have hn:=x.fresh hp
 by_cases hb:b=a
 · subst hb;rw [YO]at e;cases e;exact new
 · rw [Ye hb]at e
   exact(x b u e).stay (λc v _ q=>k c v q) (λc q=>by rw [Ye (Y7 q hn)];exact q) λc xs q=>by rw [Ye (Y7 q hn)];exact q
end
def Rd(H:Hp)(a:Addr)(u:HO):Prop:=H a=some u\/∃o,H a=some (.frz o u)
theorem Rd.ok{P:Program}{w:World}{H:Hp}{h:Heap}{a:Addr}{u:HO}(r:Rd H a u)(x:HOk P w H h):ObjOk P w H h a u:=by
 rcases r with r|⟨o,r⟩
 · exact x a u r
 · obtain⟨_,q⟩:=x a _ r
   exact q
def Mut:Option HO->Prop
 |some (.lst _)=>True
 |some (.dK _)=>True
 |some (.dT _)=>True
 |some (.set _ _)=>True
 |some (.ins _ _ _)=>True
 |some (.ext _)=>True
 |_=>False
section
variable{P:Program}{w:World}{H:Hp}{h h':Heap}{x e:Addr}{o':HO}
theorem HOk.write (ok:HOk P w H h) (mu:Mut (H x)) (he:e=x\/H e=some (.own x)) (k:∀b u,b≠e->h.get? b=some u->h'.get? b=some u) (heo:∃u,h'.get? e=some u)
 (new:ObjOk P w (upd H x o') h' x o'):HOk P w (upd H x o') h':=λb u q=>by
 have nown:∀c y,H c=some (.own y)->c≠x:=λc y r z=>by subst z;rw [r]at mu;exact mu
 have ntup:∀c xs,H c=some (.tup xs)->c≠x:=λc xs r z=>by subst z;rw [r]at mu;exact mu
 by_cases hb:b=x
 · subst hb;rw [YO]at q;cases q;exact new
 · rw [Ye hb]at q
   by_cases hbe:b=e
   · have q' : H b = some (.own x) := by
      rcases he with z|z
      · exact absurd (hbe.trans z) hb
      · rw [hbe];exact z
     rw [q]at q';cases q';obtain⟨v,hv⟩:=heo;exact⟨v,by rw [hbe];exact hv⟩
   · refine(ok b u q).stay (λc v hc r=>k c v ?_ r) (λc r=>by rw [Ye (nown c b r)];exact r) λc xs r=>by rw [Ye (ntup c xs r)];exact r
     rcases hc with rfl|hc
     · exact hbe
     · rintro rfl
       rcases he with z|z
       · exact nown c b hc z
       · rw [hc]at z;cases z;exact hb rfl
end
structure Un(fs ex:List Addr)(H H':Hp)(h h':Heap):Prop where
 keep:∀b o,h.get? b=some o->H b=none->b∉fs->b∉ex->h'.get? b=some o
 slot:∀b o,h.get? b=some o->H b=none->b∈fs->b∉ex->∃sl,h'.get? b=some { o with slots:=sl }
 free:∀b o,h.get? b=some o->H b=none->b∉ex->H' b=none
 there:∀b o,h.get? b=some o->b∉ex->∃o',h'.get? b=some o'
 tups:∀b xs,H b=some (.tup xs)->H' b=some (.tup xs)
 frzs:∀b o u,H b=some (.frz o u)->H' b=some (.frz o u)
 tbls:∀b ps,H b=some (.tbl ps)->∃more,H' b=some (.tbl (ps++more))
section
variable{fs fs' ex ex':List Addr}{H H1 H2:Hp}{h h1 h2 h':Heap}{a x e:Addr}{o:HO}
theorem Un.any(u:Un fs ex H H1 h h1){b:Addr}{ob:Obj}(q:h.get? b=some ob)(n:H b=none)(hx:b∉ex):∃sl,h1.get? b=some { ob with slots:=sl }:=by
 by_cases hb:b∈fs
 · exact u.slot b ob q n hb hx
 · exact⟨ob.slots,u.keep b ob q n hb hx⟩
theorem Un.kept(k:∀b u,h.get? b=some u->h'.get? b=some u):Un fs ex H H h h':=
 ⟨λb ob q _ _ _=>k b ob q,λb ob q _ _ _=>⟨ob.slots,k b ob q⟩,λ_ _ _ n _=>n,λb ob q _=>⟨ob,k b ob q⟩,λ_ _ q=>q,λ_ _ _ q=>q,λ_ ps q=>⟨#[],by rw [q];simp⟩⟩
theorem Un.refl:Un fs ex H H h h:=Un.kept λ_ _ q=>q
theorem Un.laid(k:∀b u,h.get? b=some u->h'.get? b=some u)(hp:h.objs.size<=a)(hn:H a=none):Un fs ex H (upd H a o) h h' where
 keep:=λb u q _ _ _=>k b u q
 slot:=λb u q _ _ _=>⟨u.slots,k b u q⟩
 free:=λb u q n _=>by rw [Ye (Nat.ne_of_lt (Nat.lt_of_lt_of_le (Heap.lt_size q) hp))];exact n
 there:=λb u q _=>⟨u,k b u q⟩
 tups:=λb xs q=>by rw [Ye (Y7 q hn)];exact q
 frzs:=λb u xs q=>by rw [Ye (Y7 q hn)];exact q
 tbls:=λb ps q=>⟨#[],by rw [Ye (Y7 q hn),q];simp⟩
theorem Un.write(mu:Mut (H x))(he:e=x\/H e=some (.own x))(k:∀b u,b≠e->h.get? b=some u->h'.get? b=some u)(heo:∃u,h'.get? e=some u):Un fs ex H (upd H x o) h h':=by
 have hx:∀b,H b=none->b≠x:=λb n z=>by subst z;rw [n]at mu;exact mu
 have hb:∀b,H b=none->b≠e:=λb n z=>by
  subst z;rcases he with r|r
  · exact hx b n r
  · rw [n]at r;cases r
 have hm:∀b u,H b=some u->¬Mut (some u)->b≠x:=λb u q nm z=>by subst z;rw [q]at mu;exact nm mu
 refine⟨λb u q n _ _=>k b u (hb b n) q,λb u q n _ _=>⟨u.slots,k b u (hb b n) q⟩,λb u q n _=>by rw [Ye (hx b n)];exact n,λb u q _ => ?_,
  λb xs q=>by rw [Ye (hm b _ q λz=>z)];exact q,λb u xs q=>by rw [Ye (hm b _ q λz=>z)];exact q,λb ps q=>⟨#[],by rw [Ye (hm b _ q λz=>z),q];simp⟩⟩
 by_cases hbe:b=e
 · subst hbe;exact heo
 · exact⟨u,k b u hbe q⟩
end
def trk(h:Heap)(H:Hp):List Addr:=(List.range h.objs.size).filter λa=>(H a).isSome
def Uh(h:Heap)(H:Hp):Heap:=PySem.W.hideAll h (trk h H)
theorem Zeh(h:Heap)(H:Hp):(Uh h H).objs.size=h.objs.size:=PySem.W.hideAll_size _ _
theorem Ze5{h:Heap}{H:Hp}{b:Addr}{o:Obj}(e:h.get? b=some o)(n:H b=none):(Uh h H).get? b=some o:=
 PySem.W.hideAll_get _ e λhm=>by
  have q:(H b).isSome=true:=(List.mem_filter.mp hm).2;rw [n]at q;simp at q
theorem ZgT{h:Heap}{H:Hp}{b:Addr}{o:Obj}(e:(Uh h H).get? b=some o):h.get? b=some o/\H b=none:=by
 have e':h.get? b=some o:=PySem.W.of_hideAll (trk h H) e;refine⟨e',?_⟩;cases q:H b with
 |none=>rfl
 |some x=>
  have hm:b∈trk h H:=List.mem_filter.mpr ⟨List.mem_range.mpr (Heap.lt_size e'),by simp [q]⟩;have z:(Uh h H).get? b=none:=PySem.W.hideAll_none (trk h H) hm;rw [z]at e;cases e
end L2
namespace L2
open PySem PySem.Spec PyProof.Rows
structure Mod(K:PySem.W.Frag)(mg:Str->Option Value)(base:Heap):Prop where
 kin:K.In base
 glob:base.Ns mainGlobals mg
 blt:∃mb,base.Ns builtinsNs mb/\∀x:Str,x ≠ "__name__" -> mb x=bootBuiltins x
 nolimit:base.NoLimit
structure Cx where
 prog:Program
 w:World
 K:PySem.W.Frag
 mg:Str->Option Value
 base:Heap
 A:Around
 N:List Str
 s₀:Shared
 H₀:Hp
 env:Env
 outer:List Env
 stack:List Env
 ex:List Addr
 fn:Str->Bool
 calm:Bool
 pn:List (Addr×Obj)
 xe:Value->Shared->Prop
def frs(l:List Env):List Addr:=l.filterMap (·.frame)
abbrev Cx.fs(X:Cx):List Addr:=frs X.outer
def Vis(sc:Scope)(x:Str):Prop:=sc.names.lookup x=some .local\/sc.names.lookup x=some .cell\/sc.names.lookup x=some .free
def Loc(sc:Scope)(x:Str):Prop:=sc.names.lookup x=some .local\/sc.names.lookup x=some .cell
def ZmK(env:Env)(h:Heap)(m:Str->Option Value)(x:Str)(u:Value):Prop:=
 (env.kindOf x=some .local/\m x=some u)\/((env.kindOf x=some .cell\/env.kindOf x=some .free)/\∃c,env.cells.lookup x=some c/\h.IsCell c (some u))
structure Cx.Ok(X:Cx):Prop where
 mod:Mod X.K X.mg X.base
 kind:X.env.scope.kind = .function
 glob:X.env.globals=mainGlobals
 blt:X.env.builtins=builtinsNs
 above:X.s₀.heap.objs.size<=X.env.locals
 inj:∀x y c,X.env.cells.lookup x=some c->X.env.cells.lookup y=some c->x=y
 has:∀x,(X.env.kindOf x=some .cell\/X.env.kindOf x=some .free)->∃c,X.env.cells.lookup x=some c
 cab:∀x c,X.fn x=true->X.env.cells.lookup x=some c->X.s₀.heap.objs.size<=c
 hd:X.calm=true->X.A.handled=none
 frames:X.A.frames=some X.stack
 stk:X.stack=X.outer\/(X.stack=X.env::X.outer/\X.env.frame=some X.env.locals)
 exf:∀b∈X.ex,b≠X.env.locals/\∀x c,X.env.cells.lookup x=some c->c≠b
 bs:∀b o,X.base.get? b=some o->X.s₀.heap.get? b=some o/\X.H₀ b=none
 bsz:X.base.objs.size<=X.s₀.heap.objs.size
 noex:∀b o,X.base.get? b=some o->b∉X.ex
 exfs:∀b∈X.ex,b∉X.fs
 funs:X.s₀.heap.FunFrames X.base X.outer
 frf:∀b∈X.fs,X.H₀ b=none
structure Inv(X:Cx)(pins:List (Addr×Obj))(σ:List (Option V))(H:Hp)(s:Shared):Prop where
 ok:X.Ok
 os:s.os=X.s₀.os
 bare:AllBare s.gens
 base:Un X.fs X.ex X.H₀ H X.s₀.heap s.heap
 loc:∃m,s.heap.Ns X.env.locals m/\∀(i:Nat)(x:Str)(v:V),X.N[i]? = some x->σ[i]? = some (some v)->Vis X.env.scope x->∃u,RelV v u/\ZmK X.env s.heap m x u
 cell:∀x c,X.env.cells.lookup x=some c->∃v,s.heap.IsCell c v
 free:H X.env.locals=none
 freeC:∀x c,X.env.cells.lookup x=some c->H c=none
 pin:∀p∈X.pn++pins,s.heap.get? p.1=some p.2/\H p.1=none/\p.1≠X.env.locals/\p.1∉X.fs/\∀v,p.2.data ≠ .cell v
 hok:HOk X.prog X.w H s.heap
 len:σ.length=X.N.length
section
variable{X:Cx}{pins:List (Addr×Obj)}{σ:List (Option V)}{H H':Hp}{s:Shared}{h':Heap}
theorem Cx.Ok.nofr(ok:X.Ok){b:Addr}{o:Obj}(e:X.base.get? b=some o):b∉X.fs:=λhb=>by
 have:=(ok.funs.mem hb).1;rw [e]at this;cases this
theorem Inv.bs(I:Inv X pins σ H s):∀b o,X.base.get? b=some o->s.heap.get? b=some o/\H b=none:=λb o e=>
 ⟨I.base.keep b o (I.ok.bs b o e).1 (I.ok.bs b o e).2 (I.ok.nofr e) (I.ok.noex b o e),I.base.free b o (I.ok.bs b o e).1 (I.ok.bs b o e).2 (I.ok.noex b o e)⟩
theorem Inv.bk(I:Inv X pins σ H s):∀b o,X.base.get? b=some o->s.heap.get? b=some o:=λb o e=>(I.bs b o e).1
theorem Inv.mod(I:Inv X pins σ H s):Mod X.K X.mg X.base:=I.ok.mod
theorem Inv.kIn(I:Inv X pins σ H s):X.K.In s.heap:=I.ok.mod.kin.keeps I.bk
theorem Inv.nolimit(I:Inv X pins σ H s):s.heap.NoLimit:=I.ok.mod.nolimit.keeps I.bk
theorem Inv.fr(I:Inv X pins σ H s):∃m,Fr X.base X.env.locals s.heap m:=
 let⟨m,hn,_⟩:=I.loc
 ⟨m,hn,I.bk,Nat.le_trans I.ok.bsz I.ok.above⟩
theorem Inv.lt(I:Inv X pins σ H s):X.env.locals<s.heap.objs.size:=let⟨_,hn,_⟩:=I.loc;hn.lt
theorem Inv.sz(I:Inv X pins σ H s):X.s₀.heap.objs.size<=s.heap.objs.size:=Nat.le_trans I.ok.above (Nat.le_of_lt I.lt)
theorem Inv.nofs(I:Inv X pins σ H s){a:Addr}(h:s.heap.objs.size<=a):a∉X.fs:=λhb=>by
 obtain⟨_,o,ho,_⟩:=I.ok.funs.mem hb;exact absurd (Nat.lt_of_lt_of_le (Heap.lt_size ho) (Nat.le_trans I.sz h)) (Nat.lt_irrefl _)
theorem Inv.cne(I:Inv X pins σ H s):∀x c,X.env.cells.lookup x=some c->c≠X.env.locals:=λx c e z=>by
 obtain⟨v,o,ho,hd⟩:=I.cell x c e;obtain⟨m,⟨o',es,ep,ho',hd',_⟩,_⟩:=I.loc;rw [z,ho']at ho;cases ho;rw [hd']at hd;cases hd
theorem Inv.funs(I:Inv X pins σ H s):s.heap.FunFrames X.base X.outer:=by
 have all:∀(l:List Env),(∀b∈frs l,b∈X.fs)->X.s₀.heap.FunFrames X.base l->s.heap.FunFrames X.base l:=by
  intro l
  induction l with
  |nil=>intro _ _;trivial
  |cons env r ih=>
   intro hs hl;obtain⟨hk,⟨L,o,hf,hn,ho,hd⟩,hr⟩:=hl;have hL:L∈X.fs:=hs L (by unfold frs;rw [List.filterMap_cons,hf];exact List.mem_cons_self);obtain⟨sl,e⟩:=I.base.slot L o ho (I.ok.frf L hL) hL λz=>I.ok.exfs L z hL
   exact⟨hk,⟨L,_,hf,hn,e,hd⟩,ih (λb hb=>hs b (by unfold frs;rw [List.filterMap_cons,hf];exact List.mem_cons_of_mem _ hb)) hr⟩
 exact all X.outer (λ_ hb=>hb) I.ok.funs
theorem Inv.stack(I:Inv X pins σ H s):s.heap.FunFrames X.base X.stack:=by
 rcases I.ok.stk with e|⟨e,hf⟩
 · rw [e];exact I.funs
 · rw [e]
   obtain⟨m,hn,_⟩:=I.loc;refine .cons (by rw [I.ok.kind];decide) hf hn ?_ I.funs;exact Heap.get?_none_of_le (Nat.le_trans I.ok.bsz I.ok.above)
theorem Inv.stkSub(I:Inv X pins σ H s):∀b∈frs X.stack,b∈X.env.locals::X.fs:=λb hb=>by
 rcases I.ok.stk with e|⟨e,hf⟩
 · rw [e]at hb;exact List.mem_cons_of_mem _ hb
 · rw [e]at hb
   unfold frs at hb;rw [List.filterMap_cons,hf]at hb;exact hb
theorem Inv.stkFree(I:Inv X pins σ H s):∀b∈frs X.stack,H b=none:=λb hb=>by
 rcases List.mem_cons.mp (I.stkSub b hb)with e|hb
 · rw [e];exact I.free
 · obtain⟨_,o,ho,_⟩:=I.ok.funs.mem hb
   exact I.base.free b o ho (I.ok.frf b hb) λz=>I.ok.exfs b z hb
theorem Inv.step {g':Array GenState} {t':Nat} {d':Drawn} {ch:List Addr} (I:Inv X pins σ H s)
 (hch:∀b∈ch,(b∈X.ex\/X.s₀.heap.objs.size<=b)/\b≠X.env.locals/\(∀x c,X.env.cells.lookup x=some c->c≠b)/\∀p∈X.pn++pins,p.1≠b)
 (keep:∀b o,b≠X.env.locals->b∉X.fs->b∉ch->s.heap.get? b=some o->H b=none->h'.get? b=some o)
 (slot:∀b o,b≠X.env.locals->b∈X.fs->b∉ch->s.heap.get? b=some o->H b=none->∃sl,h'.get? b=some { o with slots:=sl }) (free:∀b o,b∉ch->s.heap.get? b=some o->H b=none->H' b=none)
 (there:∀b o,b∉ch->s.heap.get? b=some o->∃o',h'.get? b=some o')
 (tups:∀b xs,H b=some (.tup xs)->H' b=some (.tup xs)) (frzs:∀b o u,H b=some (.frz o u)->H' b=some (.frz o u)) (tbls:∀b ps,H b=some (.tbl ps)->∃more,H' b=some (.tbl (ps++more)))
 (ns:∀m,s.heap.Ns X.env.locals m->h'.Ns X.env.locals m) (hok:HOk X.prog X.w H' h') (hg:AllBare g') :
 Inv X pins σ H' { s with heap:=h',gens:=g',drawn:=d',toks:=t' }:=by
 have neL:∀b o,X.s₀.heap.get? b=some o->b≠X.env.locals:=λb o e=>Nat.ne_of_lt (Nat.lt_of_lt_of_le (Heap.lt_size e) I.ok.above)
 have neC:∀b o,X.s₀.heap.get? b=some o->b∉X.ex->b∉ch:=λb o e hx hb=>by
  rcases(hch b hb).1 with z|z
  · exact hx z
  · exact absurd (Nat.lt_of_lt_of_le (Heap.lt_size e) z) (Nat.lt_irrefl _)
 have cellK:∀x c,X.env.cells.lookup x=some c->∀v,s.heap.IsCell c v->h'.IsCell c v:=λx c e v ⟨o,ho,hd⟩=>by
  have nch:c∉ch:=λz=>(hch c z).2.2.1 x c e rfl
  by_cases hc:c∈X.fs
  · obtain⟨sl,q⟩:=slot c o (I.cne x c e) hc nch ho (I.freeC x c e)
    exact⟨_,q,hd⟩
  · exact⟨o,keep c o (I.cne x c e) hc nch ho (I.freeC x c e),hd⟩
 refine⟨I.ok,I.os,hg,⟨λb o e n hb hx => ?_,λb o e n hb hx => ?_,λb o e n hx => ?_,λb o e hx => ?_,λb xs e=>tups b xs (I.base.tups b xs e),λb o xs e=>frzs b o xs (I.base.frzs b o xs e),λb ps e => ?_⟩,?_,λx c e => ?_,?_,λx c e => ?_,λp hp => ?_,hok,I.len⟩
 · exact keep b o (neL b o e) hb (neC b o e hx) (I.base.keep b o e n hb hx) (I.base.free b o e n hx)
 · obtain⟨sl,e1⟩:=I.base.slot b o e n hb hx
   obtain⟨sl',e2⟩:=slot b _ (neL b o e) hb (neC b o e hx) e1 (I.base.free b o e n hx);exact⟨sl',e2⟩
 · obtain⟨o',e1⟩:=I.base.there b o e hx
   exact free b o' (neC b o e hx) e1 (I.base.free b o e n hx)
 · obtain⟨o',e1⟩:=I.base.there b o e hx
   exact there b o' (neC b o e hx) e1
 · obtain⟨m1,e1⟩:=I.base.tbls b ps e
   obtain⟨m2,e2⟩:=tbls b _ e1;exact⟨m1++m2,by rw [e2,Array.append_assoc]⟩
 · obtain⟨m,hn,hl⟩:=I.loc
   refine⟨m,ns m hn,λi x v e1 e2 e3 => ?_⟩;obtain⟨u,r,l⟩:=hl i x v e1 e2 e3;refine⟨u,r,?_⟩;rcases l with l|⟨k,c,e,z⟩
   · exact .inl l
   · exact .inr ⟨k,c,e,cellK x c e _ z⟩
 · obtain⟨v,z⟩:=I.cell x c e
   exact⟨v,cellK x c e v z⟩
 · obtain⟨m,⟨o,_,_,ho,_⟩,_⟩:=I.loc
   exact free _ o (λz=>(hch _ z).2.1 rfl) ho I.free
 · obtain⟨v,o,ho,hd⟩:=I.cell x c e
   exact free c o (λz=>(hch c z).2.2.1 x c e rfl) ho (I.freeC x c e)
 · obtain⟨e,n,ne,nf,d⟩:=I.pin p hp
   have nch:p.1∉ch:=λz=>(hch p.1 z).2.2.2 p hp rfl
   exact⟨keep p.1 p.2 ne nf nch e n,free p.1 p.2 nch e n,ne,nf,d⟩
theorem Inv.un{t':Nat}(I:Inv X pins σ H s)(u:Un X.fs [] H H' s.heap h')(hok:HOk X.prog X.w H' h'):Inv X pins σ H' { s with heap:=h',toks:=t' }:=by
 obtain⟨m,⟨o,es,ep,ho,r⟩,_⟩:=id I.loc;obtain⟨sl,hL⟩:=u.any ho I.free (by simp)
 exact I.step (g':=s.gens) (d':=s.drawn) (ch:=[]) (λ_ z=>nomatch z) (λb o _ hb _ e n=>u.keep b o e n hb (by simp)) (λb o _ hb _ e n=>u.slot b o e n hb (by simp)) (λb o _ e n=>u.free b o e n (by simp)) (λb o _ e=>u.there b o e (by simp)) u.tups u.frzs u.tbls (λm' hm=>by
  obtain⟨o',es',ep',ho',r'⟩:=hm;rw [ho]at ho';cases ho';exact⟨_,es',ep',hL,r'⟩) hok I.bare
theorem Inv.call {g':Array GenState} {t':Nat} {d':Drawn} {ch:List Addr} (I:Inv X pins σ H s) (u:Un (frs X.stack) ch H H' s.heap h') (hok:HOk X.prog X.w H' h') (hg:AllBare g')
 (hch:∀b∈ch,(b∈X.ex\/X.s₀.heap.objs.size<=b)/\b≠X.env.locals/\(∀x c,X.env.cells.lookup x=some c->c≠b)/\∀p∈X.pn++pins,p.1≠b) :
 Inv X pins σ H' { s with heap:=h',gens:=g',drawn:=d',toks:=t' }:=by
 obtain⟨m,⟨o,es,ep,ho,r⟩,_⟩:=id I.loc;obtain⟨sl,hL⟩:=u.any ho I.free λz=>(hch _ z).2.1 rfl
 exact I.step (ch:=ch) hch (λb o hL hb hc e n=>u.keep b o e n (λz=>(List.mem_cons.mp (I.stkSub b z)).elim hL hb) hc) (λb o _ _ hc e n=>u.any e n hc) (λb o hc e n=>u.free b o e n hc) (λb o hc e=>u.there b o e hc) u.tups u.frzs u.tbls (λm' hm=>by
  obtain⟨o',es',ep',ho',r'⟩:=hm;rw [ho]at ho';cases ho';exact⟨_,es',ep',hL,r'⟩) hok hg
theorem Inv.turned {t':Nat} {it:Addr} (I:Inv X pins σ H s) (k:∀b o,b≠it->s.heap.get? b=some o->h'.get? b=some o) (hn:H it=none) (hL:it≠X.env.locals)
 (h1:it∈X.ex\/X.s₀.heap.objs.size<=it) (h2:∀x c,X.env.cells.lookup x=some c->c≠it) (h3:∀p∈X.pn++pins,p.1≠it):Inv X pins σ H { s with heap:=h',toks:=t' }:=by
 have nit:∀b u,H b=some u->b≠it:=λb u e z=>by rw [z,hn]at e;cases e
 refine I.step (g':=s.gens) (d':=s.drawn) (ch:=[it]) (λb hb => ?_) (λb o _ _ hc e _=>k b o (λz=>hc (by simp [z])) e) (λb o _ _ hc e _=>⟨o.slots,k b o (λz=>hc (by simp [z])) e⟩) (λ_ _ _ _ n=>n)
  (λb o hc e=>⟨o,k b o (λz=>hc (by simp [z])) e⟩) (λ_ _ e=>e) (λ_ _ _ e=>e) (λb ps e=>⟨#[],by rw [e];simp⟩) (λm hm => ?_) (λb u e => ?_) I.bare
 · have e:b=it:=by simpa using hb
   subst e;exact⟨h1,hL,h2,h3⟩
 · obtain⟨o,es,ep,ho,r⟩:=hm
   exact⟨o,es,ep,k _ o (Ne.symm hL) ho,r⟩
 · refine(I.hok b u e).stay (λc v hc q=>k c v ?_ q) (λ_ q=>q) λ_ _ q=>q
   rcases hc with z|z
   · rw [z];exact nit b u e
   · exact nit c _ z
theorem Inv.tok(I:Inv X pins σ H s)(t:Nat):Inv X pins σ H { s with toks:=t }:=I.un (h':=s.heap) (t':=t) Un.refl I.hok
theorem Inv.kept{t':Nat}(I:Inv X pins σ H s)(k:∀b u,s.heap.get? b=some u->h'.get? b=some u):Inv X pins σ H { s with heap:=h',toks:=t' }:=I.un (Un.kept k) (I.hok.kept k)
theorem Inv.laid{a:Addr}{o:HO}{t':Nat}(I:Inv X pins σ H s)(k:∀b u,s.heap.get? b=some u->h'.get? b=some u)(hp:s.heap.objs.size<=a)(new:ObjOk X.prog X.w (upd H a o) h' a o) :
 Inv X pins σ (upd H a o) { s with heap:=h',toks:=t' }:=I.un (Un.laid k hp (I.hok.fresh hp)) (I.hok.laid k hp new)
theorem Inv.write {x e:Addr} {o:HO} {t':Nat} (I:Inv X pins σ H s) (mu:Mut (H x)) (he:e=x\/H e=some (.own x)) (k:∀b u,b≠e->s.heap.get? b=some u->h'.get? b=some u) (heo:∃u,h'.get? e=some u)
 (new:ObjOk X.prog X.w (upd H x o) h' x o):Inv X pins σ (upd H x o) { s with heap:=h',toks:=t' }:=I.un (Un.write mu he k heo) (I.hok.write mu he k heo new)
theorem Inv.pins_of{pins':List (Addr×Obj)}(I:Inv X pins σ H s)(h:∀p∈pins',s.heap.get? p.1=some p.2/\H p.1=none/\p.1≠X.env.locals/\p.1∉X.fs/\∀v,p.2.data ≠ .cell v):Inv X pins' σ H s:=
 ⟨I.ok,I.os,I.bare,I.base,I.loc,I.cell,I.free,I.freeC,λp hp=>(List.mem_append.mp hp).elim (λz=>I.pin p (List.mem_append_left _ z)) (h p),I.hok,I.len⟩
theorem Zbh{N:List Str}(hN:N.Nodup){i j:Nat}{x:Str}(a:N[i]? = some x)(b:N[j]? = some x):i=j:=by
 obtain⟨h1,e1⟩:=List.getElem?_eq_some_iff.mp a;obtain⟨h2,e2⟩:=List.getElem?_eq_some_iff.mp b;exact(List.getElem_inj hN).mp (e1.trans e2.symm)
theorem ZbE {M:Model} {A:Around} {E:Value->Shared->Prop} {i:Nat} {x:Str} {v:V} {u:Value} {Q:Unit->Shared->Prop} (I:Inv X pins σ H s) (hN:X.N.Nodup) (hi:X.N[i]? = some x) (hx:Loc X.env.scope x) (r:RelV v u)
 (h:∀s',Inv X pins (σ.set i (some v)) H s'->(∃a,Heap.SameBut a s.heap s'.heap/\(a=X.env.locals\/X.env.cells.lookup x=some a))->Q () s') (hf:X.fn x=true\/X.env.scope.names.lookup x=some .local:=by first|exact .inl rfl|exact .inr rfl|assumption):wpAny M A (storeName X.env x u) Q E s:=by
 obtain⟨m,hn,hl⟩:=id I.loc;have hcls:(X.env.scope.kind == .class||(X.env.scope.kind == .module&&X.env.locals != X.env.globals))=false:=by rw [I.ok.kind];rfl
 have hiσ:i<σ.length:=by rw [I.len];exact(List.getElem?_eq_some_iff.mp hi).1
 have cne:=I.cne
 have tracked:∀{a:Addr}{h':Heap},(∃o,s.heap.get? a=some o/\H a=none)->Heap.SameBut a s.heap h'->HOk X.prog X.w H h':=λ{a h'} ha hs b ob e=>by
  obtain⟨_,_,hfree⟩:=ha;refine(I.hok b ob e).stay (λc w' hc q=>(hs.2 c ?_).trans q) (λ_ q=>q) λ_ _ q=>q
  rintro rfl
  rcases hc with rfl|hc
  · rw [hfree]at e;cases e
  · rw [hfree]at hc;cases hc
 rcases hx with hk|hk
 · refine wpAny_storeName_local hk hn (λh' hn' hs => ?_) hcls
   obtain⟨oL,_,_,hoL,_⟩:=id hn;refine h _ ⟨I.ok,I.os,I.bare,⟨λb o e n hb hx => ?_,λb o e n hb hx => ?_,I.base.free,λb o e hx => ?_,I.base.tups,I.base.frzs,I.base.tbls⟩,⟨_,hn',λj y v' e1 e2 e3 => ?_⟩,λy c e => ?_,I.free,I.freeC,λp hp => ?_,tracked ⟨oL,hoL,I.free⟩ hs,by simpa using I.len⟩ ⟨_,hs,.inl rfl⟩
   · exact(hs.2 b (Nat.ne_of_lt (Nat.lt_of_lt_of_le (Heap.lt_size e) I.ok.above))).trans (I.base.keep b o e n hb hx)
   · obtain⟨sl,e1⟩:=I.base.slot b o e n hb hx
     exact⟨sl,(hs.2 b (Nat.ne_of_lt (Nat.lt_of_lt_of_le (Heap.lt_size e) I.ok.above))).trans e1⟩
   · obtain⟨o',e1⟩:=I.base.there b o e hx
     exact⟨o',(hs.2 b (Nat.ne_of_lt (Nat.lt_of_lt_of_le (Heap.lt_size e) I.ok.above))).trans e1⟩
   · by_cases hj:j=i
     · subst hj
       rw [hi]at e1;cases e1;rw [List.getElem?_set_self hiσ]at e2;cases e2;exact⟨u,r,.inl ⟨hk,by simp⟩⟩
     · rw [List.getElem?_set_ne (Ne.symm hj)]at e2
       obtain⟨u',r',q⟩:=hl j y v' e1 e2 e3;refine⟨u',r',?_⟩;rcases q with⟨k,e⟩|⟨k,c,e,z⟩
       · refine .inl ⟨k,?_⟩
         have:y≠x:=λe=>hj (Zbh hN e1 (e▸hi))
         simp [this,e]
       · exact .inr ⟨k,c,e,z.sameBut hs (cne y c e)⟩
   · obtain⟨w',z⟩:=I.cell y c e
     exact⟨w',z.sameBut hs (cne y c e)⟩
   · obtain⟨e,n,ne,nf,d⟩:=I.pin p hp
     exact⟨(hs.2 p.1 ne).trans e,n,ne,nf,d⟩
 · have hfn : X.fn x = true := by
    rcases hf with z|z
    · exact z
    · rw [z]at hk;cases hk
   obtain⟨c,hc⟩:=I.ok.has x (.inl hk);obtain⟨w',z⟩:=I.cell x c hc;refine wpAny_storeName_cell I.ok.kind hk hc z (λh' hc' hs => ?_);obtain⟨oc,hoc,hocd⟩:=id z;refine h { s with heap:=h' } ⟨I.ok,I.os,I.bare,⟨λb o e n hb hx => ?_,λb o e n hb hx => ?_,I.base.free,λb o e hx => ?_,I.base.tups,I.base.frzs,I.base.tbls⟩,⟨m,hn.sameBut hs (Ne.symm (cne x c hc)),λj y v' e1 e2 e3 => ?_⟩,λy c' e => ?_,I.free,I.freeC,λp hp => ?_,tracked ⟨oc,hoc,I.freeC x c hc⟩ hs,by simpa using I.len⟩ ⟨c,hs,.inr hc⟩
   · exact(hs.2 b (Nat.ne_of_lt (Nat.lt_of_lt_of_le (Heap.lt_size e) (I.ok.cab x c hfn hc)))).trans (I.base.keep b o e n hb hx)
   · obtain⟨sl,e1⟩:=I.base.slot b o e n hb hx
     exact⟨sl,(hs.2 b (Nat.ne_of_lt (Nat.lt_of_lt_of_le (Heap.lt_size e) (I.ok.cab x c hfn hc)))).trans e1⟩
   · obtain⟨o',e1⟩:=I.base.there b o e hx
     exact⟨o',(hs.2 b (Nat.ne_of_lt (Nat.lt_of_lt_of_le (Heap.lt_size e) (I.ok.cab x c hfn hc)))).trans e1⟩
   · by_cases hj:j=i
     · subst hj
       rw [hi]at e1;cases e1;rw [List.getElem?_set_self hiσ]at e2;cases e2;exact⟨u,r,.inr ⟨.inl hk,c,hc,hc'⟩⟩
     · rw [List.getElem?_set_ne (Ne.symm hj)]at e2
       obtain⟨u',r',q⟩:=hl j y v' e1 e2 e3;refine⟨u',r',?_⟩;rcases q with q|⟨k,c',e,z'⟩
       · exact .inl q
       · refine .inr ⟨k,c',e,z'.sameBut hs ?_⟩
         rintro rfl
         exact hj (Zbh hN e1 (I.ok.inj _ _ _ e hc▸hi))
   · by_cases hcc:c'=c
     · subst hcc;exact⟨_,hc'⟩
     · obtain⟨w2,z2⟩:=I.cell y c' e
       exact⟨w2,z2.sameBut hs hcc⟩
   · obtain⟨e,n,ne,nf,d⟩:=I.pin p hp
     refine⟨(hs.2 p.1 ?_).trans e,n,ne,nf,d⟩;intro q;rw [q,hoc]at e;have q':oc=p.2:=Option.some.inj e;exact d w' (by rw [<-q'];exact hocd)
theorem ZaE {M:Model} {A:Around} {E:Value->Shared->Prop} {i:Nat} {x:Str} {v:V} {u:Value} {Q:Unit->Shared->Prop} (I:Inv X pins σ H s) (hN:X.N.Nodup) (hi:X.N[i]? = some x) (hx:Loc X.env.scope x) (r:RelV v u)
 (h:∀s',Inv X pins (σ.set i (some v)) H s'->Q () s') (hf:X.fn x=true\/X.env.scope.names.lookup x=some .local:=by first|exact .inl rfl|exact .inr rfl|assumption):wpAny M A (storeName X.env x u) Q E s:=
 ZbE I hN hi hx r (λs' I' _=>h s' I') hf
theorem Inv.call' {s':Shared} {ch:List Addr} (I:Inv X pins σ H s) (ho:s'.os=s.os) (u:Un (frs X.stack) ch H H' s.heap s'.heap) (hok:HOk X.prog X.w H' s'.heap) (hg:AllBare s'.gens)
 (hch:∀b∈ch,(b∈X.ex\/X.s₀.heap.objs.size<=b)/\b≠X.env.locals/\(∀x c,X.env.cells.lookup x=some c->c≠b)/\∀p∈X.pn++pins,p.1≠b):Inv X pins σ H' s':=by
 obtain⟨h',g',d',t',o'⟩:=s';have e:o'=s.os:=ho;subst e;exact I.call (g':=g') (t':=t') (d':=d') u hok hg hch
end
abbrev XK:=Value->Option Addr->Hp->Prop
abbrev St:=List (Option V)
abbrev VK:=V->Hp->Prop
abbrev TE:=St->Hp->VK->Prop
abbrev TT:=St->Hp->(Bool->Hp->Prop)->Prop
abbrev TA:=St->Hp->(List V->Hp->Prop)->Prop
structure Ends where
 nx:St->Hp->Prop
 rt:VK
 bk:St->Hp->Prop:=λ_ _=>False
 ct:St->Hp->Prop:=λ_ _=>False
abbrev TS:=Ends->St->Hp->Prop
def EP(X:Cx)(pins:List (Addr×Obj))(σ:St)(Q:VK)(u:Value)(s':Shared):Prop:=∃v H',Inv X pins σ H' s'/\RelV v u/\Q v H'
def TP(X:Cx)(pins:List (Addr×Obj))(σ:St)(Q:Bool->Hp->Prop)(b:Bool)(s':Shared):Prop:=∃H',Inv X pins σ H' s'/\Q b H'
def AP(X:Cx)(pins:List (Addr×Obj))(σ:St)(Q:List V->Hp->Prop)(us:List Value)(s':Shared):Prop:=∃vs H',Inv X pins σ H' s'/\Vals vs us/\Q vs H'
def SP(X:Cx)(pins:List (Addr×Obj))(D:Ends)(f:Flow)(s':Shared):Prop:=
 match f with
 | .next=>∃σ' H',Inv X pins σ' H' s'/\D.nx σ' H'
 | .brk=>∃σ' H',Inv X pins σ' H' s'/\D.bk σ' H'
 | .cont=>∃σ' H',Inv X pins σ' H' s'/\D.ct σ' H'
 | .ret u=>∃v σ' H',Inv X pins σ' H' s'/\RelV v u/\D.rt v H'
def PE(X:Cx)(e:Expr)(t:TE):Prop:=
 ∀(pins:List (Addr×Obj))(s:Shared)(σ:St)(H:Hp)(Q:VK),Inv X pins σ H s->t σ H Q->wpAny (model X.prog X.w) X.A (eval e X.env) (EP X pins σ Q) X.xe s
def PT(X:Cx)(e:Expr)(t:TT):Prop:=
 ∀(pins:List (Addr×Obj))(s:Shared)(σ:St)(H:Hp)(Q:Bool->Hp->Prop),Inv X pins σ H s->t σ H Q->wpAny (model X.prog X.w) X.A (isTrue e X.env (eval e X.env)) (TP X pins σ Q) X.xe s
def PW(X:Cx)(e:Expr)(t:TT):Prop:=
 ∀(whole:Sem Value)(pins:List (Addr×Obj))(s:Shared)(σ:St)(H:Hp)(Q:Bool->Hp->Prop),Inv X pins σ H s->t σ H Q->wpAny (model X.prog X.w) X.A (isTrue e X.env whole) (TP X pins σ Q) X.xe s
theorem PW.pt{X:Cx}{e:Expr}{t:TT}(h:PW X e t):PT X e t:=h _
def PA(X:Cx)(es:List Expr)(t:TA):Prop:=
 ∀(pos:Pos)(pins:List (Addr×Obj))(s:Shared)(σ:St)(H:Hp)(Q:List V->Hp->Prop),Inv X pins σ H s->t σ H Q->wpAny (model X.prog X.w) X.A (spliced (backTo pos (starEach es X.env))) (AP X pins σ Q) X.xe s
def PS(X:Cx)(st:Stmt)(t:TS):Prop:=
 ∀(pins:List (Addr×Obj))(s:Shared)(σ:St)(H:Hp)(D:Ends),Inv X pins σ H s->t D σ H->wpAny (model X.prog X.w) X.A (exec st X.env) (SP X pins D) X.xe s
def PSs(X:Cx)(st:List Stmt)(t:TS):Prop:=
 ∀(pins:List (Addr×Obj))(s:Shared)(σ:St)(H:Hp)(D:Ends),Inv X pins σ H s->t D σ H->wpAny (model X.prog X.w) X.A (execs st X.env) (SP X pins D) X.xe s
theorem thn{α:Type}{t:Sem α}{Q Q':α->Shared->Prop}{M:Model}{A:Around}{E:Value->Shared->Prop}{s:Shared}(h:wpAny M A t Q E s)(hQ:∀a s,Q a s->Q' a s):wpAny M A t Q' E s:=wpAny_mono h hQ λ_ _ x=>x
end L2
namespace L2
open PySem PySem.Spec PyProof.Rows
section
variable{X:Cx}
def UC(i:Nat):TE:=λσ H Q=>∃v,σ[i]? = some (some v)/\Q v H
def tC(v:V):TE:=λ_ H Q=>Q v H
theorem Ziu {i:Nat} {x:Str} {pos:Pos} (hN:X.N[i]? = some x) (hv:Vis X.env.scope x) (hd:(x == ("__debug__" : Str))=false:=by decide) (hcd:(x == ("__classdict__" : Str))=false:=by decide):PE X (.Name x pos) (UC i):=by
 intro pins s σ H Q I h;obtain⟨v,e,h⟩:=h;obtain⟨m,hn,hl⟩:=I.loc;obtain⟨u,r,l⟩:=hl i x v hN e hv;have fin:EP X pins σ Q u s:=⟨v,H,I,r,h⟩
 rcases l with⟨hk,hm⟩|⟨hk,c,hc,hcell⟩
 · exact wpAny_Name (wpAny_loadName_local I.ok.kind hk hn hm fin) hd
 · rcases hk with hk|hk
   · exact wpAny_Name (wpAny_loadName_cell I.ok.kind hk hc hcell fin) hd
   · exact wpAny_Name (wpAny_loadName_free I.ok.kind hk hc hcell fin hcd) hd
theorem Zo{i j pos}:PE X (.Constant (.int i) j pos) (tC (.int i)):=λ_ _ _ H _ I h=>wpAny_Constant_int ⟨.int i,H,I.tok _,⟨_,rfl⟩,h⟩
theorem Y8{b j pos}:PE X (.Constant (.bool b) j pos) (tC (.bl b)):=λ_ _ _ H _ I h=>Constant_bool ⟨.bl b,H,I,rfl,h⟩
theorem X7{j pos}:PE X (.Constant .none j pos) (tC .non):=λ_ _ _ H _ I h=>Constant_none ⟨.non,H,I,rfl,h⟩
theorem Ziv{x j pos}:PE X (.Constant (.str x) j pos) (tC (.str x)):=λ_ _ _ H _ I h=>Calls.Constant_str ⟨.str x,H,I.tok _,⟨_,rfl⟩,h⟩
def Gl(X:Cx)(x:Str):Prop:=X.env.kindOf x=some .globalImplicit
theorem U6 {E:Value->Shared->Prop} {pins:List (Addr×Obj)} {s:Shared} {σ:St} {H:Hp} {x:Str} {u:Value} {pos:Pos} {Q:Value->Shared->Prop} (I:Inv X pins σ H s) (hg:Gl X x) (hm:X.mg x=some u) (h:Q u s)
 (hd:(x == ("__debug__" : Str))=false:=by decide):wpAny (model X.prog X.w) X.A (eval (.Name x pos) X.env) Q E s:=
 Calls.Name_function_global I.ok.kind hg (Calls.loadGlobal_global (by rw [I.ok.glob];exact I.mod.glob.keeps I.bk) hm h) hd
theorem Qv {E:Value->Shared->Prop} {pins:List (Addr×Obj)} {s:Shared} {σ:St} {H:Hp} {x:Str} {u:Value} {pos:Pos} {Q:Value->Shared->Prop} (I:Inv X pins σ H s) (hg:Gl X x) (hm:X.mg x=none) (hv:bootBuiltins x=some u) (h:Q u s)
 (hn:x ≠ "__name__" := by decide) (hd:(x == ("__debug__" : Str))=false:=by decide):wpAny (model X.prog X.w) X.A (eval (.Name x pos) X.env) Q E s:=by
 obtain⟨mb,h1,h2⟩:=I.mod.blt;exact Calls.Name_function_global I.ok.kind hg (Calls.loadGlobal_builtin (by rw [I.ok.glob];exact I.mod.glob.keeps I.bk) hm (by rw [I.ok.blt];exact h1.keeps I.bk) ((h2 x hn).trans hv) h) hd
theorem UD {x:Str} {v:V} {u:Value} {pos:Pos} (hg:Gl X x) (hm:X.mg x=some u) (r:RelV v u) (hd:(x == ("__debug__" : Str))=false:=by decide):PE X (.Name x pos) (tC v):=
 λ_ _ _ H _ I h=>U6 I hg hm ⟨v,H,I,r,h⟩ hd
theorem Qw {x:Str} {v:V} {u:Value} {pos:Pos} (hg:Gl X x) (hm:X.mg x=none) (hv:bootBuiltins x=some u) (r:RelV v u) (hn:x ≠ "__name__" := by decide) (hd:(x == ("__debug__" : Str))=false:=by decide):PE X (.Name x pos) (tC v):=
 λ_ _ _ H _ I h=>Qv I hg hm hv ⟨v,H,I,r,h⟩ hn hd
variable{a b:Expr}{ta tb:TE}{pos:Pos}
def PC(X:Cx)(op:CmpOp)(a b:Expr)(t:TE):Prop:=
 ∀(pins:List (Addr×Obj))(s:Shared)(σ:St)(H:Hp)(Q:VK),Inv X pins σ H s->t σ H Q ->
  wpAny (model X.prog X.w) X.A (eval a X.env) (λv s₁=>wpAny (model X.prog X.w) X.A (eval b X.env) (λu s₂=>wpAny (model X.prog X.w) X.A (compareOp op v u) (EP X pins σ Q) X.xe s₂) X.xe s₁) X.xe s
theorem ZcF(b:Expr){op:CmpOp}(h:op ≠ .In)(h2:op ≠ .NotIn):behindInMarks op b=false:=by
 have e1:(op == CmpOp.In)=false:=by cases op<;>first|rfl|exact absurd rfl h
 have e2:(op == CmpOp.NotIn)=false:=by cases op<;>first|rfl|exact absurd rfl h2
 cases b<;>simp [behindInMarks,e1,e2]
def ZkG(ta:TE):TE:=λσ H Q=>ta σ H λx H1=>Q (.bl (decide (x = .non))) H1
def ZhN(ta:TE):TE:=λσ H Q=>ta σ H λx H1=>Q (.bl (!decide (x = .non))) H1
theorem RelV.none_iff{x:V}{v:Value}(r:RelV x v):(v == Value.none)=decide (x = .non):=by
 cases x with
 |non=>cases r;rfl
 |bl _=>cases r;rfl
 |int _=>obtain⟨t,rfl⟩:=r;rfl
 |str _=>obtain⟨t,rfl⟩:=r;rfl
 |byt _=>obtain⟨t,rfl⟩:=r;rfl
 |flt _=>obtain⟨t,rfl⟩:=r;rfl
 |ref _=>cases r;rfl
 |ty _=>cases r;rfl
theorem VW{j pos'}(ha:PE X a ta):PC X .Is a (.Constant .none j pos') (ZkG ta):=by
 intro pins s σ H Q I h;refine thn (ha pins s σ H _ I h) λv s1 ⟨x,H1,I1,r1,q1⟩ => ?_
 exact Constant_none (is_none_gen ⟨.bl _,H1,I1,by rw [r1.none_iff];rfl,q1⟩)
theorem Ja{j pos'}(ha:PE X a ta):PC X .IsNot a (.Constant .none j pos') (ZhN ta):=by
 intro pins s σ H Q I h;refine thn (ha pins s σ H _ I h) λv s1 ⟨x,H1,I1,r1,q1⟩ => ?_
 exact Constant_none (isnot_none_gen ⟨.bl _,H1,I1,by rw [r1.none_iff];rfl,q1⟩)
def tB(t:TE):TT:=λσ H Q=>t σ H λx H1=>∃c,x = .bl c/\Q c H1
theorem Zcw{op:CmpOp}{t:TE}(h:PC X op a b t)(h1:behindInMarks op b=false:=by first|exact ZcF _ (by decide) (by decide)|rfl):PE X (.Compare a [op] [b] pos) t:=λpins s σ H Q I hw=>wpAny_Compare1 (h pins s σ H Q I hw) h1
theorem Vz{op:CmpOp}{t:TE}(h:PC X op a b t)(h1:behindInMarks op b=false:=by first|exact ZcF _ (by decide) (by decide)|rfl):PT X (.Compare a [op] [b] pos) (tB t):=by
 intro pins s σ H Q I hw;refine wpAny_isTrue_Compare1 (thn (h pins s σ H _ I hw) λv s1 h1=>thn h1 λu s2 h2=>thn h2 λc s3 ⟨x,H1,I1,r1,q1⟩ => ?_) h1;obtain⟨d,rfl,q⟩:=q1;cases r1;exact wpAny_truthy_bool ⟨H1,I1,q⟩
theorem Xo{e:Expr}{t:TE}(h:PE X e t)(he:∀whole,isTrue e X.env whole=(do let v <-whole;standAt e.pos;holding [v] (truthy v)):=by intro _;rfl):PT X e (tB t):=by
 intro pins s σ H Q I hw;refine isTrue_plain (thn (h pins s σ H _ I hw) λv s1 ⟨x,H1,I1,r1,q1⟩ => ?_) (he _);obtain⟨d,rfl,q⟩:=q1;cases r1;exact wpAny_truthy_bool ⟨H1,I1,q⟩
variable{tA tB':TT}{rest:List Expr}
def ZmL(t u:TT):TT:=λσ H Q=>t σ H λc H1=>if c=true then u σ H1 Q else Q false H1
def tOr(t u:TT):TT:=λσ H Q=>t σ H λc H1=>if c=true then Q true H1 else u σ H1 Q
def ZmM(t:TT):TT:=λσ H Q=>t σ H λc H1=>Q (!c) H1
theorem Jb(ha:PT X a tA):PW X (.BoolOp .And [a] pos) tA:=by
 intro wh pins s σ H Q I h;refine isTrue_and (thn (ha pins s σ H Q I h) λc s1 e => ?_);cases c with
 |true=>exact isTrue_and_nil e
 |false=>exact e
theorem Zdx(ha:PT X a tA):PW X (.BoolOp .Or [a] pos) tA:=by
 intro wh pins s σ H Q I h;refine isTrue_or (thn (ha pins s σ H Q I h) λc s1 e => ?_);cases c with
 |false=>exact isTrue_or_nil e
 |true=>exact e
theorem Qx(ha:PT X a tA)(hb:PW X (.BoolOp .And (b::rest) pos) tB'):PW X (.BoolOp .And (a::b::rest) pos) (ZmL tA tB'):=by
 intro wh pins s σ H Q I h;refine isTrue_and (thn (ha pins s σ H _ I h) λc s1 ⟨H1,I1,q1⟩ => ?_);cases c with
 |true=>exact hb wh pins s1 σ H1 Q I1 q1
 |false=>exact⟨H1,I1,q1⟩
theorem ZgA(ha:PT X a tA)(hb:PW X (.BoolOp .Or (b::rest) pos) tB'):PW X (.BoolOp .Or (a::b::rest) pos) (tOr tA tB'):=by
 intro wh pins s σ H Q I h;refine isTrue_or (thn (ha pins s σ H _ I h) λc s1 ⟨H1,I1,q1⟩ => ?_);cases c with
 |true=>exact⟨H1,I1,q1⟩
 |false=>exact hb wh pins s1 σ H1 Q I1 q1
theorem XY(ha:PT X a tA):PT X (.UnaryOp .Not a pos) (ZmM tA):=by
 intro pins s σ H Q I h;exact isTrue_not (ha pins s σ H (λc H1=>Q (!c) H1) I h)
def ZhO(ta tb:TE):TE:=λσ H Q=>ta σ H λx H1=>∃c,x = .bl c/\if c=true then tb σ H1 Q else Q (.bl false) H1
def ZmN(ta tb:TE):TE:=λσ H Q=>ta σ H λx H1=>∃c,x = .bl c/\if c=true then Q (.bl true) H1 else tb σ H1 Q
def ZhP(ta:TE):TE:=λσ H Q=>ta σ H λx H1=>∃c,x = .bl c/\Q (.bl (!c)) H1
theorem VY{op}{t:TE}(h:PE X a t):PE X (.BoolOp op [a] pos) t:=λpins s σ H Q I hw=>BoolOp_one (h pins s σ H Q I hw)
theorem Ui(ha:PE X a ta)(hb:PE X (.BoolOp .And (b::rest) pos) tb):PE X (.BoolOp .And (a::b::rest) pos) (ZhO ta tb):=by
 intro pins s σ H Q I h;refine BoolOp_and (thn (ha pins s σ H _ I h) λv s1 ⟨x,H1,I1,r1,q1⟩ => ?_);obtain⟨c,rfl,q1⟩:=q1;cases r1;refine wpAny_truthy_bool ?_;cases c with
 |true=>exact hb pins s1 σ H1 Q I1 q1
 |false=>exact⟨.bl false,H1,I1,rfl,q1⟩
theorem ZhQ(ha:PE X a ta)(hb:PE X (.BoolOp .Or (b::rest) pos) tb):PE X (.BoolOp .Or (a::b::rest) pos) (ZmN ta tb):=by
 intro pins s σ H Q I h;refine BoolOp_or (thn (ha pins s σ H _ I h) λv s1 ⟨x,H1,I1,r1,q1⟩ => ?_);obtain⟨c,rfl,q1⟩:=q1;cases r1;refine wpAny_truthy_bool ?_;cases c with
 |false=>exact hb pins s1 σ H1 Q I1 q1
 |true=>exact⟨.bl true,H1,I1,rfl,q1⟩
theorem Zf9(ha:PE X a ta):PE X (.UnaryOp .Not a pos) (ZhP ta):=by
 intro pins s σ H Q I h;refine UnaryOp_ (thn (ha pins s σ H _ I h) λv s1 ⟨x,H1,I1,r1,q1⟩ => ?_);obtain⟨c,rfl,q1⟩:=q1;cases r1;exact not_of (wpAny_truthy_bool ⟨.bl (!c),H1,I1,rfl,q1⟩)
def tIf(t:TT)(ta tb:TE):TE:=λσ H Q=>t σ H λc H1=>if c=true then ta σ H1 Q else tb σ H1 Q
theorem Jc{c:Expr}(hc:PT X c tA)(ha:PE X a ta)(hb:PE X b tb):PE X (.IfExp c a b pos) (tIf tA ta tb):=by
 intro pins s σ H Q I h;refine wpAny_IfExp (thn (hc pins s σ H _ I h) λd s1 ⟨H1,I1,q1⟩ => ?_);cases d with
 |true=>exact ha pins s1 σ H1 Q I1 q1
 |false=>exact hb pins s1 σ H1 Q I1 q1
end
end L2
namespace L2
open PySem PySem.Spec PyProof.Rows
def SqL(K:PySem.W.Frag)(H:Hp)(a:Addr)(xs:List V):Prop:=
 Rd H a (.lst xs) \/
  ∃(o:Obj) (its:Array Value) (n:Nat),K.lookup a=some o/\o.cls = .type "list" /\ o.dict=none/\o.data = .seq its n/\its.size<=sizeLine/\Vals xs its.toList
def SqT(K:PySem.W.Frag)(H:Hp)(a:Addr)(xs:List V):Prop:=
 Rd H a (.tup xs) \/
  ∃(o:Obj) (its:Array Value) (n:Nat),K.lookup a=some o/\o.cls = .type "tuple" /\ o.data = .seq its n/\its.size<=sizeLine/\Vals xs its.toList
def Zm2:Value->Option V
 | .none=>some .non
 | .bool b=>some (.bl b)
 | .int i _=>some (.int i)
 | .str x _=>some (.str x)
 | .bytes b _=>some (.byt b)
 | .float b _=>some (.flt b)
 | .ref a=>some (.ref a)
 | .type n=>some (.ty n)
 |_=>none
theorem RelV.abs{x:V}{u:Value}(r:RelV x u):Zm2 u=some x:=by
 cases x with
 |non=>cases r;rfl
 |bl _=>cases r;rfl
 |int _=>obtain⟨t,rfl⟩:=r;rfl
 |str _=>obtain⟨t,rfl⟩:=r;rfl
 |byt _=>obtain⟨t,rfl⟩:=r;rfl
 |flt _=>obtain⟨t,rfl⟩:=r;rfl
 |ref _=>cases r;rfl
 |ty _=>cases r;rfl
theorem RelV.inj{x y:V}{u:Value}(r:RelV x u)(q:RelV y u):x=y:=Option.some.inj (r.abs.symm.trans q.abs)
theorem Vals.inj:∀{xs ys:List V}{us:List Value},Vals xs us->Vals ys us->xs=ys
 |_,_,_,.nil,.nil=>rfl
 |_,_,_,.cons r t,.cons r' t'=>by rw [r.inj r',Vals.inj t t']
section
variable{X:Cx}{pins:List (Addr×Obj)}{σ:St}{H:Hp}{s:Shared}{a:Addr}{xs ys:List V}
theorem SqL.of{K:PySem.W.Frag}(h:H a=some (.lst xs)):SqL K H a xs := .inl (.inl h)
theorem SqT.of{K:PySem.W.Frag}(h:H a=some (.tup xs)):SqT K H a xs := .inl (.inl h)
theorem Inv.list(I:Inv X pins σ H s)(h:SqL X.K H a xs):∃its:List Value,Vals xs its/\PlainL s.heap a its.toArray/\xs.length<=sizeLine:=by
 rcases h with h|⟨o,its,n,hk,hc,hd,hs,hz,r⟩
 · obtain⟨z,its,n,r,e⟩:=h.ok I.hok
   exact⟨its,r,⟨_,n,e,rfl,rfl,rfl⟩,z⟩
 · refine⟨its.toList,r,⟨o,n,I.kIn a o hk,hc,hd,by simpa using hs⟩,?_⟩
   have e:=r.length;simp only [Array.length_toList]at e;omega
theorem Inv.tuple(I:Inv X pins σ H s)(h:SqT X.K H a xs):∃its:List Value,Vals xs its/\IsTup s.heap a its.toArray/\xs.length<=sizeLine:=by
 rcases h with h|⟨o,its,n,hk,hc,hs,hz,r⟩
 · obtain⟨z,its,r,p⟩:=h.ok I.hok
   exact⟨its,r,p.tup,z⟩
 · refine⟨its.toList,r,⟨o,I.kIn a o hk,hc,n,by simpa using hs⟩,?_⟩
   have e:=r.length;simp only [Array.length_toList]at e;omega
theorem Inv.list_inj(I:Inv X pins σ H s)(h:SqL X.K H a xs)(h':SqL X.K H a ys):xs=ys:=by
 obtain⟨its,r,⟨o,n,e,_,_,d⟩,_⟩:=I.list h;obtain⟨its',r',⟨o',n',e',_,_,d'⟩,_⟩:=I.list h';rw [e]at e';cases e';rw [d]at d';injection d' with d1 _
 have:its=its':=by simpa using congrArg Array.toList d1
 subst this;exact r.inj r'
theorem Inv.tuple_inj(I:Inv X pins σ H s)(h:SqT X.K H a xs)(h':SqT X.K H a ys):xs=ys:=by
 obtain⟨its,r,⟨o,e,_,n,d⟩,_⟩:=I.tuple h;obtain⟨its',r',⟨o',e',_,n',d'⟩,_⟩:=I.tuple h';rw [e]at e';cases e';rw [d]at d';injection d' with d1 _
 have:its=its':=by simpa using congrArg Array.toList d1
 subst this;exact r.inj r'
end
abbrev Cx.wish(X:Cx)(E:Value->Shared->Prop):Cx:={ X with xe:=E }
abbrev Cx.nox(X:Cx):Cx:=X.wish λ_ _=>False
theorem Cx.Ok.wish{X:Cx}(ok:X.Ok)(E:Value->Shared->Prop):(X.wish E).Ok:=
 ⟨ok.mod,ok.kind,ok.glob,ok.blt,ok.above,ok.inj,ok.has,ok.cab,ok.hd,ok.frames,ok.stk,ok.exf,ok.bs,ok.bsz,ok.noex,ok.exfs,ok.funs,ok.frf⟩
theorem Cx.Ok.unwish{X:Cx}{E:Value->Shared->Prop}(ok:(X.wish E).Ok):X.Ok:=
 ⟨ok.mod,ok.kind,ok.glob,ok.blt,ok.above,ok.inj,ok.has,ok.cab,ok.hd,ok.frames,ok.stk,ok.exf,ok.bs,ok.bsz,ok.noex,ok.exfs,ok.funs,ok.frf⟩
section
variable{X:Cx}{pins:List (Addr×Obj)}{σ:St}{H:Hp}{s:Shared}{E:Value->Shared->Prop}
theorem Inv.wish(I:Inv X pins σ H s)(E:Value->Shared->Prop):Inv (X.wish E) pins σ H s:=⟨I.ok.wish E,I.os,I.bare,I.base,I.loc,I.cell,I.free,I.freeC,I.pin,I.hok,I.len⟩
theorem Inv.unwish(I:Inv (X.wish E) pins σ H s):Inv X pins σ H s:=⟨I.ok.unwish,I.os,I.bare,I.base,I.loc,I.cell,I.free,I.freeC,I.pin,I.hok,I.len⟩
theorem SP.unwish{D:Ends}{f:Flow}{s':Shared}(h:SP (X.wish E) pins D f s'):SP X pins D f s':=by
 cases f with
 |next=>obtain⟨σ',H',I,q⟩:=h;exact⟨σ',H',I.unwish,q⟩
 |brk=>obtain⟨σ',H',I,q⟩:=h;exact⟨σ',H',I.unwish,q⟩
 |cont=>obtain⟨σ',H',I,q⟩:=h;exact⟨σ',H',I.unwish,q⟩
 |ret u=>obtain⟨v,σ',H',I,r,q⟩:=h;exact⟨v,σ',H',I.unwish,r,q⟩
theorem PSs.nox{st:List Stmt}{t:TS}(h:PSs X.nox st t):PSs X st t:=λpins s σ H D I hw=>
 wpAny_mono (h pins s σ H D (I.wish _) hw) (λ_ _ q=>q.unwish) λ_ _ z=>False.elim z
end
section
variable{X:Cx}{st:Stmt}{rest:List Stmt}{t u:TS}{e:Expr}{te:TE}{pos:Pos}
def tNext:TS:=λD σ H=>D.nx σ H
def Qy(t u:TS):TS:=λD σ H=>t { D with nx:=u D } σ H
theorem Yn:PSs X [] tNext:=λ_ _ σ H _ I h=>wpAny_execs_nil ⟨σ,H,I,h⟩
theorem Zp(h1:PS X st t)(h2:PSs X rest u):PSs X (st::rest) (Qy t u):=by
 intro pins s σ H D I h;refine wpAny_execs_cons (thn (h1 pins s σ H { D with nx:=u D } I h) λf s1 q => ?_);cases f with
 |next=>
  obtain⟨σ',H',I',q⟩:=q;exact h2 pins s1 σ' H' D I' q
 |ret v=>exact q
 |brk=>exact q
 |cont=>exact q
theorem Zr(h1:PS X st t):PSs X [st] t:=by
 intro pins s σ H D I h;refine wpAny_execs_cons (thn (h1 pins s σ H D I h) λf s1 q => ?_);cases f with
 |next=>exact wpAny_execs_nil q
 |ret v=>exact q
 |brk=>exact q
 |cont=>exact q
def tBreak:TS:=λD σ H=>D.bk σ H
theorem Ze6:PS X (.Break pos) tBreak:=λ_ _ σ H _ I h=>wpAny_Break ⟨σ,H,I,h⟩
theorem Inv.quiet{pins:List (Addr×Obj)}{σ:St}{H:Hp}{s:Shared}(I:Inv X pins σ H s):interactive X.env=false:=by simp [interactive,I.ok.kind]
def Qz(te:TE):TS:=λD σ H=>te σ H λ_ H1=>D.nx σ H1
theorem YS(he:PE X e te)(hs:swapsWith e none pos.line X.env=pure false:=by rfl):PS X (.Expr e pos) (Qz te):=by
 intro pins s σ H D I h;exact wpAny_Expr_any (thn (he pins s σ H _ I h) λv s1 ⟨x,H1,I1,r1,q1⟩=>⟨σ,H1,I1,q1⟩) I.quiet hs
def ZkH(te:TE):TS:=λD σ H=>te σ H D.rt
theorem ZJ(he:PE X e te):PS X (.Return (some e) pos) (ZkH te):=by
 intro pins s σ H D I h;exact wpAny_Return_some (thn (he pins s σ H _ I h) λv s1 ⟨x,H1,I1,r1,q1⟩=>⟨x,σ,H1,I1,r1,q1⟩)
def ZkI(c:TT)(t u:TS):TS:=λD σ H=>c σ H λb H1=>if b=true then t D σ H1 else u D σ H1
theorem Yo{c:Expr}{a b:List Stmt}{tc:TT}(hc:PT X c tc)(ha:PSs X a t)(hb:PSs X b u):PS X (.If c a b pos) (ZkI tc t u):=by
 intro pins s σ H D I h;refine wpAny_If (thn (hc pins s σ H _ I h) λd s1 ⟨H1,I1,q1⟩ => ?_);cases d with
 |true=>exact ha pins s1 σ H1 D I1 q1
 |false=>exact hb pins s1 σ H1 D I1 q1
def tNever:TS:=λ_ _ _=>False
theorem Zbi:PS X st tNever:=λ_ _ _ _ _ _ h=>h.elim
end
abbrev TG:=V->St->Hp->(St->Hp->Prop)->Prop
abbrev TGs:=List V->St->Hp->(St->Hp->Prop)->Prop
def PG(X:Cx)(target:Expr)(t:TG):Prop:=
 ∀(pins:List (Addr×Obj))(s:Shared)(σ:St)(H:Hp)(v:V)(u:Value)(Q:St->Hp->Prop),Inv X pins σ H s->RelV v u->t v σ H Q ->
  wpAny (model X.prog X.w) X.A (assign target X.env u) (λ_ s'=>∃σ' H',Inv X pins σ' H' s'/\Q σ' H') X.xe s
def PGs(X:Cx)(ts:List Expr)(t:TGs):Prop:=
 ∀(pins:List (Addr×Obj))(s:Shared)(σ:St)(H:Hp)(vs:List V)(us:List Value)(Q:St->Hp->Prop),Inv X pins σ H s->Vals vs us->t vs σ H Q ->
  wpAny (model X.prog X.w) X.A (assignInOrder ((assignEach ts X.env).map (·.2)) us) (λ_ s'=>∃σ' H',Inv X pins σ' H' s'/\Q σ' H') X.xe s
section
variable{X:Cx}{pos:Pos}
def VB(i:Nat):TG:=λv σ H Q=>Q (σ.set i (some v)) H
theorem YL{i:Nat}{x:Str}(hN:X.N.Nodup)(hi:X.N[i]? = some x:=by rfl)(hx:Loc X.env.scope x:=by first|exact Or.inl rfl|exact Or.inr rfl)(hf:X.fn x=true\/X.env.scope.names.lookup x=some .local:=by first|exact .inl rfl|exact .inr rfl|assumption):PG X (.Name x pos) (VB i):=by
 intro pins s σ H v u Q I r h;exact wpAny_assign_Name (ZaE I hN hi hx r (λs' I'=>⟨_,H,I',h⟩) hf)
def gNil:TGs:=λvs σ H Q=>vs=[]/\Q σ H
def ZhR(t:TG)(u:TGs):TGs:=λvs σ H Q=>∃v r,vs=v::r/\t v σ H λσ' H'=>u r σ' H' Q
theorem Zb8:PGs X [] gNil:=by
 intro pins s σ H vs us Q I r h;obtain⟨e,h⟩:=h;subst e;cases r;exact assignInOrder_nil ⟨σ,H,I,h⟩
theorem QA {e:Expr} {es:List Expr} {t:TG} {u:TGs} (h1:PG X e t) (h2:PGs X es u)
 (hs:(assignEach (e::es) X.env).map (·.2)=assign e X.env::(assignEach es X.env).map (·.2):=by rfl):PGs X (e::es) (ZhR t u):=by
 intro pins s σ H vs us Q I r h;obtain⟨v,vr,e1,h⟩:=h;subst e1;cases r with
 |cons r rr=>
  rw [hs];refine assignInOrder_cons (thn (h1 pins s σ H _ _ _ I r h) λ_ s1 ⟨σ1,H1,I1,q1⟩ => ?_);exact h2 pins s1 σ1 H1 _ _ Q I1 rr q1
def ZkJ(K:PySem.W.Frag)(n:Nat)(t:TGs):TG:=λv σ H Q=>∃a xs,v = .ref a/\SqT K H a xs/\xs.length=n/\t xs σ H Q
theorem Ziw {es:List Expr} {k:Nat} {t:TGs} {n:Nat} (hc:X.calm=true) (h:PGs X es t)
 (hn:(assignEach es X.env).length=n:=by rfl) (hst:(assignEach es X.env).findIdx? (·.1)=none:=by rfl):PG X (.Tuple es k pos) (ZkJ X.K n t):=by
 intro pins s σ H v u Q I r hw;obtain⟨a,xs,e1,hq,hl,hw⟩:=hw;subst e1;cases r;obtain⟨its,rv,ht,hz⟩:=I.tuple hq;refine assign_Tuple_tuple (I.ok.hd hc) ht (by simp [hn,<-hl,rv.length]) hst λh' hx => ?_
 have I1:Inv X pins σ H { s with heap:=h' }:=I.kept (t':=s.toks) λb o e=>hx b o (Nat.ne_of_lt (Heap.lt_size e)) e
 exact h pins _ σ H xs _ Q I1 (by simpa using rv) hw
def VC(te:TE)(g:TG):TS:=λD σ H=>te σ H λx H1=>g x σ H1 D.nx
theorem Zix {tg e:Expr} {te:TE} {g:TG} (he:PE X e te) (hg:PG X tg g) (hs:swapsWithSole [tg] e pos.line X.env=pure false:=by rfl) (hw:swappedStores [tg] e X.env=pure none:=by rfl)
 (h1:(assignEach [tg] X.env).map (·.2)=[assign tg X.env]:=by rfl):PS X (.Assign [tg] e pos) (VC te g):=by
 intro pins s σ H D I h;refine wpAny_Assign_stores (thn (he pins s σ H _ I h) λv s1 ⟨x,H1,I1,r1,q1⟩ => ?_) hs hw;rw [h1];exact thn (hg pins s1 σ H1 x v _ I1 r1 q1) λ_ s2 q=>q
theorem Yh{i:Nat}{x:Str}{e:Expr}{te:TE}{pos':Pos}(hN:X.N.Nodup)(hi:X.N[i]? = some x)(hx:Loc X.env.scope x)(he:PE X e te)(hs:swapsWith e (some (.Name x pos')) pos.line X.env=pure false:=by rfl)(hf:X.fn x=true\/X.env.scope.names.lookup x=some .local:=by first|exact .inl rfl|exact .inr rfl|assumption) :
 PS X (.Assign [.Name x pos'] e pos) (VC te (VB i)):=by
 intro pins s σ H D I h;refine wpAny_Assign_Name (thn (he pins s σ H _ I h) λv s1 ⟨y,H1,I1,r1,q1⟩ => ?_) hs;exact ZaE I1 hN hi hx r1 (λs2 I2=>⟨_,H1,I2,q1⟩) hf
end
section
variable{X:Cx}{pos:Pos}
def Zga(c:TT)(tb:TS):TS:=λD σ H=>∃W:Nat->St->Hp->Prop,(∃m,W m σ H)/\∀m σ H,W m σ H ->
 c σ H λb H1=>if b=true then ∃N:St->Hp->Prop,(∀σ' H',N σ' H'->∃m',m'<m/\W m' σ' H')/\tb { D with nx:=N,ct:=N,bk:=D.nx } σ H1 else D.nx σ H1
theorem Ze7{c:Expr}{body:List Stmt}{tc:TT}{tb:TS}(hp:PassesOwn (model X.prog X.w) X.A X.env X.xe)(hc:PT X c tc)(hb:PSs X body tb):PS X (.While c body [] pos) (Zga tc tb):=by
 intro pins s σ H D I h;obtain⟨W,⟨m0,w0⟩,turn⟩:=h;refine wpAny_While (codeAny_whileLoop (λn s'=>∃σ' H',Inv X pins σ' H' s'/\W n σ' H') ?_ m0 ⟨σ,H,I,w0⟩)
 rintro n s1 ⟨σ1,H1,I1,w1⟩
 refine wpAny_passesOwn hp (thn (hc pins s1 σ1 H1 _ I1 (turn n σ1 H1 w1)) λb s2 ⟨H2,I2,q2⟩ => ?_);cases b with
 |true=>
  obtain⟨N,hN,q2⟩:=q2;rw [if_pos rfl];refine wpAny_passesOwn hp (thn (hb pins s2 σ1 H2 _ I2 q2) λf s3 q3 => ?_);cases f with
  |next=>
   obtain⟨σ3,H3,I3,n3⟩:=q3;obtain⟨m',hm,w3⟩:=hN σ3 H3 n3;exact⟨m',hm,σ3,H3,I3,w3⟩
  |cont=>
   obtain⟨σ3,H3,I3,n3⟩:=q3;obtain⟨m',hm,w3⟩:=hN σ3 H3 n3;exact⟨m',hm,σ3,H3,I3,w3⟩
  |brk=>exact q3
  |ret v=>exact q3
 |false=>
  rw [if_neg Bool.false_ne_true];exact wpAny_execs_nil ⟨σ1,H2,I2,q2⟩
end
structure It where
 go:Nat->Hp->Prop
 yld:Nat->Hp->V->Hp->Prop
 stop:Nat->Hp->Prop
def XO(X:Cx)(pins:List (Addr×Obj))(H:Hp)(b:Addr):Prop:=
 H b=none/\b≠X.env.locals/\b∉X.fs/\(b∈X.ex\/X.s₀.heap.objs.size<=b)/\(∀x c,X.env.cells.lookup x=some c->c≠b)/\∀p∈X.pn++pins,p.1≠b
theorem Inv.fpOk{X:Cx}{pins:List (Addr×Obj)}{σ:St}{H H':Hp}{s:Shared}{b:Addr}(I:Inv X pins σ H s)(hb:s.heap.objs.size<=b)(hn:H' b=none):XO X pins H' b:=by
 refine⟨hn,Nat.ne_of_gt (Nat.lt_of_lt_of_le I.lt hb),I.nofs hb,.inr (Nat.le_trans I.sz hb),λx c e z => ?_,λp hp z => ?_⟩
 · obtain⟨v,q⟩:=I.cell x c e
   exact absurd (Nat.lt_of_lt_of_le q.lt (by rw [z];exact hb)) (Nat.lt_irrefl _)
 · exact absurd (Nat.lt_of_lt_of_le (Heap.lt_size (I.pin p hp).1) (by rw [z];exact hb)) (Nat.lt_irrefl _)
structure Turn(P:Program)(w:World)(K:PySem.W.Frag)(tg:Expr)(J:It)(fp:List Addr)(it:Addr)(tn:Nat->Heap->Prop):Prop where
 mem:it∈fp
 obj:∀i h,tn i h->∀b∈fp,∃o,h.get? b=some o/\∀v,o.data ≠ .cell v
 keep:∀i h h',tn i h->(∀b∈fp,∀o,h.get? b=some o->h'.get? b=some o)->tn i h'
 item:∀(X:Cx),X.prog=P->X.w=w->X.K=K->X.calm=true->∀(i:Nat)(pins:List (Addr×Obj))(s:Shared)(σ:St)(H:Hp)(E:Value->Shared->Prop),Inv X pins σ H s->(∀b∈fp,XO X pins H b)->tn i s.heap->J.go i H ->
  wpAny (model P w) X.A (pyNext (.ref it)) (λr s1=>∃u,r=some u /\
   wpAny (model P w) X.A (letOwnedTupleGo tg (.ref it) u) (λ_ s2=>∃x H',Inv X pins σ H' s2/\RelV x u/\J.yld i H x H'/\tn (i+1) s2.heap/\∀b∈fp,H' b=none) E s1) E s
 done:∀(X:Cx),X.prog=P->X.w=w->X.K=K->X.calm=true->∀(i:Nat)(pins:List (Addr×Obj))(s:Shared)(σ:St)(H:Hp)(E:Value->Shared->Prop),Inv X pins σ H s->(∀b∈fp,XO X pins H b)->tn i s.heap->J.stop i H ->
  wpAny (model P w) X.A (pyNext (.ref it)) (λr s1=>r=none/\Inv X pins σ H s1) E s
 self:∀(A:Around)(i:Nat)(s:Shared)(Q:Value->Shared->Prop)(E:Value->Shared->Prop),tn i s.heap->Q (.ref it) s->wpAny (model P w) A (pyIter (.ref it)) Q E s
abbrev TI:=St->Hp->(It->Hp->Prop)->Prop
def PIE(X:Cx)(pins:List (Addr×Obj))(σ:St)(tg:Expr)(R:It->Hp->Prop)(itv:Value)(s2:Shared):Prop:=
 ∃(it:Addr) (fp:List Addr) (tn:Nat->Heap->Prop) (J:It) (H':Hp),itv = .ref it/\Inv X pins σ H' s2/\Turn X.prog X.w X.K tg J fp it tn/\tn 0 s2.heap/\(∀b∈fp,XO X pins H' b)/\R J H'
def PI(X:Cx)(tg iter:Expr)(wi:TI):Prop:=
 ∀(pins:List (Addr×Obj))(s:Shared)(σ:St)(H:Hp)(R:It->Hp->Prop),Inv X pins σ H s->wi σ H R ->
  wpAny (model X.prog X.w) X.A (eval iter X.env) (λv s1=>wpAny (model X.prog X.w) X.A (pyIter v) (PIE X pins σ tg R) X.xe s1) X.xe s
theorem ZeX {M:Model} {A:Around} {E:Value->Shared->Prop} {s:Shared} {tg:Expr} {it:Addr} {u:Value} {o:Obj} {n:String} {vs:Array Value} {Q:Unit->Shared->Prop} (ho:s.heap.get? it=some o) (hc:o.cls = .type n) (hd:o.data = .fields vs)
 (hn:["enumerate", "zip", "dict_itemiterator", "dict_reverseitemiterator", "odict_iterator", "itertools.zip_longest", "itertools.pairwise"].contains n=false) (hQ:Q () s):wpAny M A (letOwnedTupleGo tg (.ref it) u) Q E s:=by
 unfold letOwnedTupleGo
 cases tg<;>first
  |exact wpAny_pure hQ
  | (cases u <;> first
      |exact wpAny_pure hQ
      | (refine wpAny_bind (wpAny_load ho ?_)
         rw [hc,hd];show wpAny M A (if(["enumerate", "zip", "dict_itemiterator", "dict_reverseitemiterator", "odict_iterator", "itertools.zip_longest", "itertools.pairwise"].contains n&&vs[0]? == some (rawInt _))=true then _ else _) Q E s;rw [if_neg (by intro h;rw [hn,Bool.false_and]at h;cases h)];exact wpAny_pure hQ))
def Itl(K:PySem.W.Frag)(a:Addr):It:=
 ⟨λi H=>∃xs x,SqL K H a xs/\xs[i]? = some x,λi H x H'=>H'=H/\∀xs,SqL K H a xs->xs[i]? = some x,λi H=>∃xs,SqL K H a xs/\xs.length<=i⟩
def Itt(K:PySem.W.Frag)(a:Addr):It:=
 ⟨λi H=>∃xs x,SqT K H a xs/\xs[i]? = some x,λi H x H'=>H'=H/\∀xs,SqT K H a xs->xs[i]? = some x,λi H=>∃xs,SqT K H a xs/\xs.length<=i⟩
def Itr(lo:Int)(n:Nat):It:=⟨λi _=>i<n,λi H x H'=>H'=H/\x = .int (lo+i),λi _=>n<=i⟩
theorem Zei{P:Program}{w:World}{K:PySem.W.Frag}{tg:Expr}(a it:Addr):Turn P w K tg (Itl K a) [it] it (λi h=>h.IsListIter it a i) where
 mem:=by simp
 obj:=λi h st b hb=>by
  have e:b=it:=by simpa using hb
  subst e;obtain⟨o,e,c,d⟩:=st;exact⟨o,e,λv z=>by rw [d]at z;cases z⟩
 keep:=λi h h' st k=>st.at λo e=>k it (by simp) o e
 item:=by
  intro X hP hw hK hc i pins s σ H E I hf st hg;subst hP hw hK;obtain⟨xs,x,hq,hx⟩:=hg;obtain⟨its,rv,p,hz⟩:=I.list hq;obtain⟨u,hu,ru⟩:=rv.get hx;obtain⟨f0,f1,f2,f3,f4,f5⟩:=hf it (by simp);refine wpAny_pyNext_list_item st p.isList (x:=u) (by simpa using hu) λh' st' sb => ?_
  have I1:Inv X pins σ H { s with heap:=h' }:=I.turned (t':=s.toks) (λb o hb e=>(sb.2 b hb).trans e) f0 f1 f3 f4 f5;obtain⟨o,e,c,d⟩:=id st';exact⟨u,rfl,ZeX (s:={ s with heap:=h' }) e c d (by decide) ⟨x,H,I1,ru,⟨rfl,λys hy=>by rw [I.list_inj hy hq];exact hx⟩,st',λb hb=>(hf b hb).1⟩⟩
 done:=by
  intro X hP hw hK hc i pins s σ H E I hf st hg;subst hP hw hK;obtain⟨xs,hq,hx⟩:=hg;obtain⟨its,rv,p,hz⟩:=I.list hq;obtain⟨f0,f1,f2,f3,f4,f5⟩:=hf it (by simp);have hl:=rv.length;exact wpAny_pyNext_list_end (I.ok.hd hc) st p.isList (by simp;omega) λh' eb=>⟨rfl,I.turned (t':=s.toks) (λb o hb e=>eb b o hb e) f0 f1 f3 f4 f5⟩
 self:=λ_ _ _ _ _ st h=>wpAny_pyIter_listiter st h
theorem ZaY{P:Program}{w:World}{K:PySem.W.Frag}{tg:Expr}(a it:Addr):Turn P w K tg (Itt K a) [it] it (λi h=>h.IsTupleIter it a i) where
 mem:=by simp
 obj:=λi h st b hb=>by
  have e:b=it:=by simpa using hb
  subst e;obtain⟨o,e,c,d⟩:=st;exact⟨o,e,λv z=>by rw [d]at z;cases z⟩
 keep:=λi h h' st k=>st.at λo e=>k it (by simp) o e
 item:=by
  intro X hP hw hK hc i pins s σ H E I hf st hg;subst hP hw hK;obtain⟨xs,x,hq,hx⟩:=hg;obtain⟨its,rv,p,hz⟩:=I.tuple hq;obtain⟨u,hu,ru⟩:=rv.get hx;obtain⟨f0,f1,f2,f3,f4,f5⟩:=hf it (by simp);refine wpAny_pyNext_tuple_item st (show s.heap.IsTuple a its.toArray from p) (x:=u) (by simpa using hu) λh' st' sb => ?_
  have I1:Inv X pins σ H { s with heap:=h' }:=I.turned (t':=s.toks) (λb o hb e=>(sb.2 b hb).trans e) f0 f1 f3 f4 f5;obtain⟨o,e,c,d⟩:=id st';exact⟨u,rfl,ZeX (s:={ s with heap:=h' }) e c d (by decide) ⟨x,H,I1,ru,⟨rfl,λys hy=>by rw [I.tuple_inj hy hq];exact hx⟩,st',λb hb=>(hf b hb).1⟩⟩
 done:=by
  intro X hP hw hK hc i pins s σ H E I hf st hg;subst hP hw hK;obtain⟨xs,hq,hx⟩:=hg;obtain⟨its,rv,p,hz⟩:=I.tuple hq;obtain⟨f0,f1,f2,f3,f4,f5⟩:=hf it (by simp);have hl:=rv.length;exact wpAny_pyNext_tuple_end (I.ok.hd hc) st (show s.heap.IsTuple a its.toArray from p) (by simp;omega) λh' eb=>⟨rfl,I.turned (t':=s.toks) (λb o hb e=>eb b o hb e) f0 f1 f3 f4 f5⟩
 self:=λ_ _ _ _ _ st h=>wpAny_pyIter_tupleiter st h
theorem Zdc{P:Program}{w:World}{K:PySem.W.Frag}{tg:Expr}(it:Addr)(lo:Int)(n:Nat):Turn P w K tg (Itr lo n) [it] it (λi h=>IsRangeIter h it (lo+(i:Nat)*1) ((n:Int)-(i:Nat)) 1) where
 mem:=by simp
 obj:=λi h st b hb=>by
  have e:b=it:=by simpa using hb
  subst e
  exact⟨_,st,λv z=>by
   have z':Data.fields _=Data.cell v:=z;cases z'⟩
 keep:=λi h h' st k=>k it (by simp) _ st
 item:=by
  intro X hP hw hK hc i pins s σ H E I hf st hg;subst hP hw hK;obtain⟨f0,f1,f2,f3,f4,f5⟩:=hf it (by simp);have W:=Walks.range (prog:=X.prog) (w:=X.w) (I.ok.hd hc) it lo 1 n;refine W.item i s _ _ hg st λv h' tk hv st' kk => ?_
  obtain⟨t,rfl⟩:=hv;have I1:Inv X pins σ H { s with heap:=h',toks:=tk }:=I.turned (λb o hb e=>kk b o (by simpa using hb) e) f0 f1 f3 f4 f5;refine⟨_,rfl,ZeX (s:={ s with heap:=h',toks:=tk }) (n:="range_iterator") st' rfl rfl (by decide) ⟨.int (lo+i),H,I1,⟨t,?_⟩,⟨rfl,rfl⟩,st',λb hb=>(hf b hb).1⟩⟩;rw [Int.mul_one]
 done:=by
  intro X hP hw hK hc i pins s σ H E I hf st hg;subst hP hw hK;obtain⟨f0,f1,f2,f3,f4,f5⟩:=hf it (by simp);exact wpAny_pyNext_range_end (I.ok.hd hc) st (by have:n<=i:=hg;omega) λh' eb=>⟨rfl,I.turned (t':=s.toks) (λb o hb e=>eb b o hb e) f0 f1 f3 f4 f5⟩
 self:=λ_ _ _ _ _ st h=>wpAny_pyIter_rangeiter st h
end L2
namespace L2
open PySem PySem.Spec PyProof.Rows
section
variable{X:Cx}{tg:Expr}
def Zm3(K:PySem.W.Frag)(tl:TE):TI:=λσ H R=>tl σ H λx H1=>∃a,x = .ref a/\(∃xs,SqT K H1 a xs)/\R (Itt K a) H1
theorem Ziy{l:Expr}{tl:TE}(hl:PE X l tl):PI X tg l (Zm3 X.K tl):=by
 intro pins s σ H R I h;refine thn (hl pins s σ H _ I h) λv s1 ⟨x,H1,I1,r1,q1⟩ => ?_
 obtain⟨a,e,⟨xs,hq⟩,q⟩:=q1;subst e;cases r1;obtain⟨its,rv,p,hz⟩:=I1.tuple hq;refine wpAny_pyIter_tuple (show s1.heap.IsTuple a its.toArray from p) ?_;refine⟨s1.heap.objs.size,[s1.heap.objs.size],_,_,H1,rfl,I1.kept (t':=s1.toks) λb o e=>Heap.get?_push_of_some _ e,ZaY a _,⟨_,Heap.get?_push_size _ rfl,rfl,rfl⟩,λb hb => ?_,q⟩;have e:b=s1.heap.objs.size:=by simpa using hb
 subst e;exact I1.fpOk (Nat.le_refl _) (I1.hok.fresh (Nat.le_refl _))
theorem Ze8 {pins:List (Addr×Obj)} {σ:St} {H:Hp} {s:Shared} {R:It->Hp->Prop} {E:Value->Shared->Prop} {lo hi:Int} {t u v:Tok} {tk:Nat} (I:Inv X pins σ H s) (h1 : -(2 ^ 62)<=lo) (h2:lo<2 ^ 62) (h3 : -(2 ^ 62)<=hi) (h4:hi<2 ^ 62)
 (q:R (Itr lo (hi-lo).toNat) H):wpAny (model X.prog X.w) X.A (pyIter (.ref s.heap.objs.size)) (PIE X pins σ tg R) E { s with heap:=s.heap.push { cls := .type "range",data := .fields #[.int lo t,.int hi u,.int 1 v] },toks:=tk }:=by
 refine wpAny_pyIter_range (IsRange.new ..) (small_one h1 h2 h3 h4) ?_;have I1:Inv X pins σ H { s with heap:=s.heap.push { cls := .type "range",data := .fields #[.int lo t,.int hi u,.int 1 v] },toks:=tk }:=I.kept λb o e=>Heap.get?_push_of_some _ e
 refine⟨(s.heap.push { cls := .type "range",data := .fields #[.int lo t,.int hi u,.int 1 v] }).objs.size,[(s.heap.push { cls := .type "range",data := .fields #[.int lo t,.int hi u,.int 1 v] }).objs.size],_,_,H,rfl,
  I1.kept (t':=tk) λb o e=>Heap.get?_push_of_some _ e,Zdc _ lo (hi-lo).toNat,?_,λb hb => ?_,q⟩
 · have e1:lo+((0:Nat):Int)*1=lo:=by simp
   have e2:(((hi-lo).toNat:Nat):Int)-((0:Nat):Int)=Builtin.Range.rangeSize lo hi 1:=by rw [rangeSize_one];split<;>omega
   show IsRangeIter _ _ (lo+((0:Nat):Int)*1) ((((hi-lo).toNat:Nat):Int)-((0:Nat):Int)) 1;rw [e1,e2];exact Heap.get?_push_size _ rfl
 · have e:b=(s.heap.push { cls := .type "range",data := .fields #[.int lo t,.int hi u,.int 1 v] }).objs.size:=by simpa using hb
   subst e;exact I1.fpOk (Nat.le_refl _) (I1.hok.fresh (Nat.le_refl _))
def ZhS(ta:TA):TI:=λσ H R=>ta σ H λvs H1=>∃j:Int,vs=[.int j] /\ -(2 ^ 62)<=j/\j<2 ^ 62/\R (Itr 0 j.toNat) H1
theorem QB {a:Expr} {ta:TA} {p pos:Pos} (hg:Gl X "range") (hm:X.mg "range" = none) (ha:PA X [a] ta) (hs:starEach [a] X.env=[(false,eval a X.env)]:=by rfl):PI X tg (.Call (.Name "range" p) [a] [] pos) (ZhS ta):=by
 intro pins s σ H R I h;refine Call_ (Qv I hg hm boot_range (PyProof.Rows.callWith_type1 (thn (ha pos pins s σ H _ I h) λus s1 ⟨vs,H1,I1,r1,q1⟩ => ?_) hs rfl));obtain⟨j,e,q1,q2,q⟩:=q1;subst e;cases r1 with
 |cons r rr=>
  cases rr;obtain⟨t,rfl⟩:=r;exact call_range_1 (Ze8 I1 (by omega) (by omega) q1 q2 (by simpa using q))
def ZkK(wi:TI)(g:TG)(tb:TS):TS:=λD σ H=>wi σ H λJ H1=>∃W:Nat->Nat->St->Hp->Prop,(∃m,W 0 m σ H1)/\∀i m σ H,W i m σ H ->
 (J.stop i H/\D.nx σ H)\/(J.go i H/\∃N:St->Hp->Prop,(∀σ' H',N σ' H'->∃m',m'<m/\W (i+1) m' σ' H')/\∀x H',J.yld i H x H'->g x σ H' λσ2 H2=>tb { D with nx:=N,ct:=N,bk:=D.nx } σ2 H2)
def VZ(fp:List Addr)(h:Heap):List (Addr×Obj):=fp.filterMap λb=>(h.get? b).map λo=>(b,o)
theorem Zai{fp:List Addr}{h:Heap}{b:Addr}{o:Obj}(hb:b∈fp)(e:h.get? b=some o):(b,o)∈VZ fp h:=List.mem_filterMap.mpr ⟨b,hb,by rw [e];rfl⟩
theorem ZbF{fp:List Addr}{h:Heap}{p:Addr×Obj}(hp:p∈VZ fp h):p.1∈fp/\h.get? p.1=some p.2:=by
 obtain⟨b,hb,e⟩:=List.mem_filterMap.mp hp;cases q:h.get? b with
 |none=>rw [q]at e;cases e
 |some o=>
  rw [q]at e;have e':(b,o)=p:=Option.some.inj e;subst e';exact⟨hb,q⟩
theorem Inv.pinned{pins:List (Addr×Obj)}{σ:St}{H:Hp}{s:Shared}{fp:List Addr}(I:Inv X pins σ H s)(hf:∀b∈fp,XO X pins H b)(ho:∀b∈fp,∃o,s.heap.get? b=some o/\∀v,o.data ≠ .cell v):Inv X (pins++VZ fp s.heap) σ H s:=
 I.pins_of λp hp=>(List.mem_append.mp hp).elim (λz=>I.pin p (List.mem_append_right _ z)) λz=>by
  obtain⟨hb,e⟩:=ZbF z;obtain⟨f0,f1,f2,_⟩:=hf p.1 hb;obtain⟨o,e',d⟩:=ho p.1 hb;rw [e]at e';cases e';exact⟨e,f0,f1,f2,d⟩
theorem Inv.unpinned{pins pl:List (Addr×Obj)}{σ:St}{H:Hp}{s:Shared}(I:Inv X (pins++pl) σ H s):Inv X pins σ H s:=I.pins_of λp hp=>I.pin p (List.mem_append_right _ (List.mem_append_left _ hp))
theorem V0 {iter:Expr} {body:List Stmt} {wi:TI} {g:TG} {tb:TS} {pos:Pos} (hp:PassesOwn (model X.prog X.w) X.A X.env X.xe) (hc:X.calm=true) (hi:PI X tg iter wi) (hg:PG X tg g) (hb:PSs X body tb)
 (hs:∀x,foldedSetIterable iter X.env x=pure x:=by intro _;rfl):PS X (.For tg iter body [] pos) (ZkK wi g tb):=by
 intro pins s σ H D I h;refine wpAny_For (thn (hi pins s σ H _ I h) λv s1 h1=>thn h1 λitv s2 h2 => ?_) hs;obtain⟨it,fp,tn,J,H2,e,I2,T,st2,f2,W,⟨m0,w0⟩,turn⟩:=h2;subst e;have stat:∀{H':Hp},(∀b∈fp,H' b=none)->∀b∈fp,XO X pins H' b:=λhn b hb=>⟨hn b hb,(f2 b hb).2⟩
 refine codeAny_forLoop_any (λn s'=>∃i σ' H',Inv X pins σ' H' s'/\tn i s'.heap/\(∀b∈fp,H' b=none)/\W i n σ' H') ?_ m0 ⟨0,σ,H2,I2,st2,λb hb=>(f2 b hb).1,w0⟩
 rintro n s3 ⟨i,σ3,H3,I3,st3,fr3,w3⟩
 rcases turn i n σ3 H3 w3 with⟨stop,qn⟩|⟨go,N,hN,step⟩
 · refine wpAny_passesOwn hp (thn (T.done X rfl rfl rfl hc i pins s3 σ3 H3 X.xe I3 (stat fr3) st3 stop) λr s4 ⟨hr,I4⟩ => ?_)
   subst hr;exact wpAny_execs_nil ⟨σ3,H3,I4,qn⟩
 · refine wpAny_passesOwn hp (thn (T.item X rfl rfl rfl hc i pins s3 σ3 H3 X.xe I3 (stat fr3) st3 go) λr s4 ⟨u,hr,h4⟩ => ?_)
   subst hr;refine wpAny_passesOwn hp (thn h4 λ_ s5 ⟨x,H5,I5,r5,y5,st5,fr5⟩ => ?_);have I5':=I5.pinned (stat fr5) (T.obj _ _ st5);refine wpAny_passesOwn hp (thn (hg _ s5 σ3 H5 x u _ I5' r5 (step x H5 y5)) λ_ s6 ⟨σ6,H6,I6,q6⟩ => ?_);refine wpAny_passesOwn hp (thn (hb _ s6 σ6 H6 _ I6 q6) λf s7 q7 => ?_)
   have again:∀{σ7:St}{H7:Hp},Inv X (pins++VZ fp s5.heap) σ7 H7 s7->N σ7 H7->∃m,m<n/\∃i σ' H',Inv X pins σ' H' s7/\tn i s7.heap/\(∀b∈fp,H' b=none)/\W i m σ' H':=λ{σ7 H7} I7 n7=>by
    obtain⟨m',hm,w7⟩:=hN σ7 H7 n7;refine⟨m',hm,i+1,σ7,H7,I7.unpinned,T.keep _ _ _ st5 λb hb o e=>(I7.pin (b,o) (List.mem_append_right _ (List.mem_append_right _ (Zai hb e)))).1,λb hb => ?_,w7⟩;obtain⟨o,e,d⟩:=T.obj _ _ st5 b hb;exact(I7.pin (b,o) (List.mem_append_right _ (List.mem_append_right _ (Zai hb e)))).2.1
   cases f with
   |next=>obtain⟨σ7,H7,I7,n7⟩:=q7;exact again I7 n7
   |cont=>obtain⟨σ7,H7,I7,n7⟩:=q7;exact again I7 n7
   |brk=>obtain⟨σ7,H7,I7,q7⟩:=q7;exact⟨σ7,H7,I7.unpinned,q7⟩
   |ret v=>obtain⟨x7,σ7,H7,I7,r7,q7⟩:=q7;exact⟨x7,σ7,H7,I7.unpinned,r7,q7⟩
end
end L2
namespace L2
open PySem PySem.Spec PyProof.Rows
abbrev R2:=V->V->Hp->VK->Prop
def OpR(X:Cx)(f:Value->Value->Sem Value)(r:R2):Prop:=
 ∀(pins:List (Addr×Obj))(s:Shared)(σ:St)(H:Hp)(x y:V)(v u:Value)(Q:VK),Inv X pins σ H s->RelV x v->RelV y u->r x y H Q ->
  wpAny (model X.prog X.w) X.A (f v u) (EP X pins σ Q) X.xe s
def UnR(X:Cx)(f:Value->Sem Value)(r:V->Hp->VK->Prop):Prop:=
 ∀(pins:List (Addr×Obj))(s:Shared)(σ:St)(H:Hp)(x:V)(v:Value)(Q:VK),Inv X pins σ H s->RelV x v->r x H Q ->
  wpAny (model X.prog X.w) X.A (f v) (EP X pins σ Q) X.xe s
def Y5(X:Cx)(f:Value)(r:List V->Hp->VK->Prop):Prop:=
 ∀(pins:List (Addr×Obj))(s:Shared)(σ:St)(H:Hp)(xs:List V)(us:List Value)(Q:VK),Inv X pins σ H s->Vals xs us->r xs H Q ->
  wpAny (model X.prog X.w) X.A (call f us) (EP X pins σ Q) X.xe s
def tOp(r:R2)(ta tb:TE):TE:=λσ H Q=>ta σ H λx H1=>tb σ H1 λy H2=>r x y H2 Q
def tUn(r:V->Hp->VK->Prop)(ta:TE):TE:=λσ H Q=>ta σ H λx H1=>r x H1 Q
def rI(C:Int->Int->Prop)(g:Int->Int->V):R2:=λx y H Q=>∃i j,x = .int i/\y = .int j/\C i j/\Q (g i j) H
def rI0(g:Int->Int->V):R2:=λx y H Q=>∃i j,x = .int i/\y = .int j/\Q (g i j) H
def rU(g:Int->V):V->Hp->VK->Prop:=λx H Q=>∃i,x = .int i/\Q (g i) H
section
variable{X:Cx}{a b c:Expr}{ta tb tc:TE}{pos:Pos}
theorem ZkL (ha:PE X a ta) (hb:PE X b tb) {pins:List (Addr×Obj)} {s:Shared} {σ:St} {H:Hp} {R:V->V->Hp->Prop} (I:Inv X pins σ H s)
 (h:ta σ H λx H1=>tb σ H1 λy H2=>R x y H2) {Q:Value->Shared->Prop} {f:Value->Value->Sem Value}
 (hf:∀v u s2 x y H2,Inv X pins σ H2 s2->RelV x v->RelV y u->R x y H2->wpAny (model X.prog X.w) X.A (f v u) Q X.xe s2) :
 wpAny (model X.prog X.w) X.A (eval a X.env) (λv s₁=>wpAny (model X.prog X.w) X.A (eval b X.env) (λu s₂=>wpAny (model X.prog X.w) X.A (f v u) Q X.xe s₂) X.xe s₁) X.xe s:=by
 refine thn (ha pins s σ H _ I h) λv s1 ⟨x,H1,I1,r1,q1⟩ => ?_
 refine thn (hb pins s1 σ H1 _ I1 q1) λu s2 ⟨y,H2,I2,r2,q2⟩ => ?_
 exact hf v u s2 x y H2 I2 r1 r2 q2
theorem Zv{op:Operator}{r:R2}(ho:OpR X (binaryOp op) r)(ha:PE X a ta)(hb:PE X b tb):PE X (.BinOp a op b pos) (tOp r ta tb):=by
 intro pins s σ H Q I h;exact wpAny_BinOp (ZkL ha hb I h λv u s2 x y H2 I2 rx ry q=>ho pins s2 σ H2 x y v u Q I2 rx ry q)
theorem UE{op:UnaryOp}{r:V->Hp->VK->Prop}(ho:UnR X (unaryOp op) r)(ha:PE X a ta):PE X (.UnaryOp op a pos) (tUn r ta):=by
 intro pins s σ H Q I h;exact UnaryOp_ (thn (ha pins s σ H _ I h) λv s1 ⟨x,H1,I1,r1,q1⟩=>ho pins s1 σ H1 x v Q I1 r1 q1)
theorem opI {f:Value->Value->Sem Value} {C:Int->Int->Prop} {g:Int->Int->Int}
 (rule:∀(i j:Int)(t u:Tok)(s:Shared)(Q:Value->Shared->Prop)(E:Value->Shared->Prop),C i j->Q (.int (g i j) s.toks) { s with toks:=s.toks+1 }->wpAny (model X.prog X.w) X.A (f (.int i t) (.int j u)) Q E s) :
 OpR X f (rI C λi j => .int (g i j)):=by
 intro pins s σ H x y v u Q I rx ry h;obtain⟨i,j,rfl,rfl,hc,q⟩:=h;obtain⟨t,rfl⟩:=rx;obtain⟨t',rfl⟩:=ry;exact rule i j t t' s _ _ hc ⟨.int (g i j),H,I.tok _,⟨_,rfl⟩,q⟩
theorem ZmO {f:Value->Value->Sem Value} {g:Int->Int->Int}
 (rule:∀(i j:Int)(t u:Tok)(s:Shared)(Q:Value->Shared->Prop)(E:Value->Shared->Prop),Q (.int (g i j) s.toks) { s with toks:=s.toks+1 }->wpAny (model X.prog X.w) X.A (f (.int i t) (.int j u)) Q E s) :
 OpR X f (rI0 λi j => .int (g i j)):=by
 intro pins s σ H x y v u Q I rx ry h;obtain⟨i,j,rfl,rfl,q⟩:=h;obtain⟨t,rfl⟩:=rx;obtain⟨t',rfl⟩:=ry;exact rule i j t t' s _ _ ⟨.int (g i j),H,I.tok _,⟨_,rfl⟩,q⟩
theorem Zjn {f:Value->Value->Sem Value} {g:Int->Int->Bool}
 (rule:∀(i j:Int)(t u:Tok)(s:Shared)(Q:Value->Shared->Prop)(E:Value->Shared->Prop),Q (.bool (g i j)) s->wpAny (model X.prog X.w) X.A (f (.int i t) (.int j u)) Q E s) :
 OpR X f (rI0 λi j => .bl (g i j)):=by
 intro pins s σ H x y v u Q I rx ry h;obtain⟨i,j,rfl,rfl,q⟩:=h;obtain⟨t,rfl⟩:=rx;obtain⟨t',rfl⟩:=ry;exact rule i j t t' s _ _ ⟨.bl (g i j),H,I,rfl,q⟩
def ZK(i j:Int):Prop:=0<j/\j<1073741824
def ZmP(i j:Int):Prop:=0<=j/\j<=1000000/\i.natAbs<2 ^ 64
def CMul(i j:Int):Prop:=(-(2 ^ 64)<i/\i<2 ^ 64)\/(-(2 ^ 64)<j/\j<2 ^ 64)
theorem CMul.ok{i j:Int}(h:CMul i j):IntMulOk i j:=by
 rcases h with⟨h1,h2⟩|⟨h1,h2⟩
 · exact .of_left (intBits_le_64 h1 h2)
 · exact .of_right (intBits_le_64 h1 h2)
theorem op_add:OpR X (binaryOp .Add) (rI0 λi j => .int (i+j)):=ZmO λ_ _ _ _ _ _ _ q=>add_int q
theorem V1:OpR X (binaryOp .Sub) (rI0 λi j => .int (i-j)):=ZmO λ_ _ _ _ _ _ _ q=>sub_int q
theorem op_mul:OpR X (binaryOp .Mult) (rI CMul λi j => .int (i*j)):=opI λ_ _ _ _ _ _ _ hc q=>mul_int q hc.ok
theorem Xp:OpR X (binaryOp .FloorDiv) (rI ZK λi j => .int (i / j)):=opI λi j _ _ _ _ _ hc q=>by
 have h1:(0:Int)<j:=hc.1;have h2:j<1073741824:=hc.2;exact floordiv_int (by omega) (by rw [Int.fdiv_eq_ediv_of_nonneg i (by omega)];exact q) (.inl (PyProof.noPylong_small (by omega)))
theorem Yw:OpR X (binaryOp .Mod) (rI (λ_ j=>0<j) λi j => .int (i % j)):=opI λi j _ _ _ _ _ hc q=>by
 have h1:(0:Int)<j:=hc;exact mod_int' (by omega) (by rw [Int.fmod_eq_emod_of_nonneg i (by omega)];exact q)
theorem unI {f:Value->Sem Value} {g:Int->Int}
 (rule:∀(i:Int)(t:Tok)(s:Shared)(Q:Value->Shared->Prop)(E:Value->Shared->Prop),Q (.int (g i) s.toks) { s with toks:=s.toks+1 }->wpAny (model X.prog X.w) X.A (f (.int i t)) Q E s) :
 UnR X f (rU λi => .int (g i)):=by
 intro pins s σ H x v Q I rx h;obtain⟨i,rfl,q⟩:=h;obtain⟨t,rfl⟩:=rx;exact rule i t s _ _ ⟨.int (g i),H,I.tok _,⟨_,rfl⟩,q⟩
theorem UF:UnR X (unaryOp .USub) (rU λi => .int (-i)):=unI λ_ _ _ _ _ q=>neg_int q
end
def Vk:V->V->Bool
 | .non,.non=>true | .non,.int _=>true | .int _,.non=>true | .non,.bl _=>true | .bl _,.non=>true | .non,.str _=>true | .str _,.non=>true
 | .int _,.int _=>true | .bl _,.bl _=>true | .str _,.str _=>true | .byt _,.byt _=>true
 | .int _,.str _=>true | .str _,.int _=>true | .bl _,.str _=>true | .str _,.bl _=>true
 |_,_=>false
def rEq:R2:=λx y H Q=>Vk x y=true/\Q (.bl (decide (x=y))) H
def rNe:R2:=λx y H Q=>Vk x y=true/\Q (.bl (!decide (x=y))) H
theorem ZdM{i j:Int}:decide (V.int i=V.int j)=(i == j):=by
 rw [Bool.eq_iff_iff];simp
theorem Zgb{i j:Bool}:decide (V.bl i=V.bl j)=(i == j):=by
 rw [Bool.eq_iff_iff];simp
theorem ZdN{i j:Str}:decide (V.str i=V.str j)=(i == j):=by
 rw [Bool.eq_iff_iff];simp
theorem ZdO{i j:Array UInt8}:decide (V.byt i=V.byt j)=(i.toList == j.toList):=by
 rw [Bool.eq_iff_iff];cases i;cases j;simp
section
variable{X:Cx}{a b c:Expr}{ta tb tc:TE}{pos:Pos}
theorem YC{pins:List (Addr×Obj)}{σ:St}{H:Hp}{s:Shared}{Q:VK}{k k':Bool}(I:Inv X pins σ H s)(q:Q (.bl k) H)(e:k=k'):EP X pins σ Q (.bool k') s:=by
 subst e;exact⟨.bl k,H,I,rfl,q⟩
theorem Zli:OpR X (compareOp .Eq) rEq:=by
 intro pins s σ H x y v u Q I rx ry h;obtain⟨hs,q⟩:=h;cases x with
 |non=>
  cases rx;cases y with
  |non=>cases ry;exact PySem.EqNone.eq_none_none (YC I q (by simp))
  |bl j=>cases ry;exact PySem.EqNone.eq_none_bool (YC I q (by simp))
  |int j=>obtain⟨t',rfl⟩:=ry;exact PySem.EqNone.eq_none_int (YC I q (by simp))
  |str j=>obtain⟨t',rfl⟩:=ry;exact PySem.EqNone.eq_none_str (YC I q (by simp))
  |_=>exact absurd (show false=true from hs) Bool.false_ne_true
 |bl i=>
  cases rx;cases y with
  |non=>cases ry;exact PySem.EqNone.eq_bool_none (YC I q (by simp))
  |bl j=>cases ry;exact eq_bool (YC I q Zgb)
  |str j=>obtain⟨t',rfl⟩:=ry;exact PySem.EqMixed.eq_bool_str (YC I q (by simp))
  |_=>exact absurd (show false=true from hs) Bool.false_ne_true
 |int i=>
  obtain⟨t,rfl⟩:=rx;cases y with
  |non=>cases ry;exact PySem.EqNone.eq_int_none (YC I q (by simp))
  |int j=>obtain⟨t',rfl⟩:=ry;exact eq_int (YC I q ZdM)
  |str j=>obtain⟨t',rfl⟩:=ry;exact PySem.EqMixed.eq_int_str (YC I q (by simp))
  |_=>exact absurd (show false=true from hs) Bool.false_ne_true
 |str i=>
  obtain⟨t,rfl⟩:=rx;cases y with
  |non=>cases ry;exact PySem.EqNone.eq_str_none (YC I q (by simp))
  |bl j=>cases ry;exact PySem.EqMixed.eq_str_bool (YC I q (by simp))
  |int j=>obtain⟨t',rfl⟩:=ry;exact PySem.EqMixed.eq_str_int (YC I q (by simp))
  |str j=>obtain⟨t',rfl⟩:=ry;exact eq_str (YC I q ZdN)
  |_=>exact absurd (show false=true from hs) Bool.false_ne_true
 |byt i=>
  obtain⟨t,rfl⟩:=rx;cases y with
  |byt j=>obtain⟨t',rfl⟩:=ry;exact PySem.W.eq_bytes (YC I q ZdO)
  |_=>exact absurd (show false=true from hs) Bool.false_ne_true
 |_=>cases y<;>exact absurd (show false=true from hs) Bool.false_ne_true
theorem Zlj:OpR X (compareOp .NotEq) rNe:=by
 intro pins s σ H x y v u Q I rx ry h;obtain⟨hs,q⟩:=h;cases x with
 |non=>
  cases rx;cases y with
  |non=>cases ry;exact PySem.EqNone.ne_none_none (YC I q (by simp))
  |bl j=>cases ry;exact PySem.EqNone.ne_none_bool (YC I q (by simp))
  |int j=>obtain⟨t',rfl⟩:=ry;exact PySem.EqNone.ne_none_int (YC I q (by simp))
  |str j=>obtain⟨t',rfl⟩:=ry;exact PySem.EqNone.ne_none_str (YC I q (by simp))
  |_=>exact absurd (show false=true from hs) Bool.false_ne_true
 |bl i=>
  cases rx;cases y with
  |non=>cases ry;exact PySem.EqNone.ne_bool_none (YC I q (by simp))
  |bl j=>cases ry;exact ne_bool (YC I q (congrArg not Zgb))
  |str j=>obtain⟨t',rfl⟩:=ry;exact PySem.EqMixed.ne_bool_str (YC I q (by simp))
  |_=>exact absurd (show false=true from hs) Bool.false_ne_true
 |int i=>
  obtain⟨t,rfl⟩:=rx;cases y with
  |non=>cases ry;exact PySem.EqNone.ne_int_none (YC I q (by simp))
  |int j=>obtain⟨t',rfl⟩:=ry;exact ne_int (YC I q (congrArg not ZdM))
  |str j=>obtain⟨t',rfl⟩:=ry;exact PySem.EqMixed.ne_int_str (YC I q (by simp))
  |_=>exact absurd (show false=true from hs) Bool.false_ne_true
 |str i=>
  obtain⟨t,rfl⟩:=rx;cases y with
  |non=>cases ry;exact PySem.EqNone.ne_str_none (YC I q (by simp))
  |bl j=>cases ry;exact PySem.EqMixed.ne_str_bool (YC I q (by simp))
  |int j=>obtain⟨t',rfl⟩:=ry;exact PySem.EqMixed.ne_str_int (YC I q (by simp))
  |str j=>obtain⟨t',rfl⟩:=ry;exact ne_str (YC I q (congrArg not ZdN))
  |_=>exact absurd (show false=true from hs) Bool.false_ne_true
 |byt i=>
  obtain⟨t,rfl⟩:=rx;cases y with
  |byt j=>obtain⟨t',rfl⟩:=ry;exact PySem.W.ne_bytes (YC I q (congrArg not ZdO))
  |_=>exact absurd (show false=true from hs) Bool.false_ne_true
 |_=>cases y<;>exact absurd (show false=true from hs) Bool.false_ne_true
theorem U7:OpR X (compareOp .Lt) (rI0 λi j => .bl (decide (i<j))):=Zjn λ_ _ _ _ _ _ _ q=>lt_int q
theorem UG:OpR X (compareOp .LtE) (rI0 λi j => .bl (decide (i<=j))):=Zjn λ_ _ _ _ _ _ _ q=>le_int q
theorem ZeY:OpR X (compareOp .Gt) (rI0 λi j => .bl (decide (j<i))):=Zjn λ_ _ _ _ _ _ _ q=>gt_int q
theorem Zlk:OpR X (compareOp .GtE) (rI0 λi j => .bl (decide (j<=i))):=Zjn λ_ _ _ _ _ _ _ q=>ge_int q
theorem Zej:OpR X (compareOp .In) (λx y H Q=>∃i j,x = .str i/\y = .str j/\Q (.bl (!(Builtin.Str.occurrences j i 0 j.length 1).isEmpty)) H):=by
 intro pins s σ H x y v u Q I rx ry h;obtain⟨i,j,rfl,rfl,q⟩:=h;obtain⟨t,rfl⟩:=rx;obtain⟨t',rfl⟩:=ry;exact in_str (YC I q rfl)
theorem ZbZ:OpR X (compareOp .NotIn) (λx y H Q=>∃i j,x = .str i/\y = .str j/\Q (.bl (!(!(Builtin.Str.occurrences j i 0 j.length 1).isEmpty))) H):=by
 intro pins s σ H x y v u Q I rx ry h;obtain⟨i,j,rfl,rfl,q⟩:=h;obtain⟨t,rfl⟩:=rx;obtain⟨t',rfl⟩:=ry;exact notIn_str (YC I q rfl)
theorem OpR.or{f:Value->Value->Sem Value}{r r':R2}(h:OpR X f r)(h':OpR X f r'):OpR X f (λx y H Q=>r x y H Q\/r' x y H Q):=by
 intro pins s σ H x y v u Q I rx ry q;rcases q with q|q
 · exact h pins s σ H x y v u Q I rx ry q
 · exact h' pins s σ H x y v u Q I rx ry q
theorem Yk(b:Expr){op:CmpOp}(h:op ≠ .In:=by decide)(h2:op ≠ .NotIn:=by decide):behindInMarks op b=false:=by
 have e1:(op == CmpOp.In)=false:=by cases op<;>first|rfl|exact absurd rfl h
 have e2:(op == CmpOp.NotIn)=false:=by cases op<;>first|rfl|exact absurd rfl h2
 cases b<;>simp [behindInMarks,e1,e2]
theorem Xf{op:CmpOp}{r:R2}(ho:OpR X (compareOp op) r)(ha:PE X a ta)(hb:PE X b tb)(hm:behindInMarks op b=false):PE X (.Compare a [op] [b] pos) (tOp r ta tb):=by
 intro pins s σ H Q I h;exact wpAny_Compare1 (ZkL ha hb I h λv u s2 x y H2 I2 rx ry q=>ho pins s2 σ H2 x y v u Q I2 rx ry q) hm
def ZgB(t:TE):TT:=λσ H Q=>t σ H λx H'=>∃k,x = .bl k/\Q k H'
theorem Yx{op:CmpOp}{r:R2}(ho:OpR X (compareOp op) r)(ha:PE X a ta)(hb:PE X b tb)(hm:behindInMarks op b=false):PT X (.Compare a [op] [b] pos) (ZgB (tOp r ta tb)):=by
 intro pins s σ H Q I h
 refine wpAny_isTrue_Compare1 (thn (ha pins s σ H _ I h) λv s1 ⟨x,H1,I1,r1,q1⟩=>thn (hb pins s1 σ H1 _ I1 q1) λu s2 ⟨y,H2,I2,r2,q2⟩=>
  thn (ho pins s2 σ H2 x y v u _ I2 r1 r2 q2) λc s3 ⟨z,H3,I3,r3,k,e,q3⟩ => ?_) hm
 subst e;cases r3;exact wpAny_truthy_bool ⟨H3,I3,q3⟩
def Zdy(r r':R2)(ta tb tc:TE):TE:=λσ H Q=>ta σ H λx H1=>tb σ H1 λy H2=>r x y H2 λz H3=>∃k,z = .bl k /\
 (if k=true then tc σ H3 λw' H4=>r' y w' H4 Q else Q (.bl false) H3)
theorem ZcG {op op':CmpOp} {r r':R2} (ho:OpR X (compareOp op) r) (ho':OpR X (compareOp op') r') (ha:PE X a ta) (hb:PE X b tb) (hc:PE X c tc)
 (hm:lastMarks [op,op'] [b,c]=false:=by with_unfolding_all rfl):PE X (.Compare a [op,op'] [b,c] pos) (Zdy r r' ta tb tc):=by
 intro pins s σ H Q I h
 refine Compare_chain (thn (ha pins s σ H _ I h) λv s1 ⟨x,H1,I1,r1,q1⟩=>chain_link (thn (hb pins s1 σ H1 _ I1 q1) λu s2 ⟨y,H2,I2,r2,q2⟩=>
  thn (ho pins s2 σ H2 x y v u _ I2 r1 r2 q2) λd s3 ⟨z,H3,I3,r3,k,e,q3⟩ => ?_)) hm
 subst e;cases r3;refine wpAny_truthy_bool ?_;cases k with
 |false=>exact ite_ff ⟨.bl false,H3,I3,rfl,q3⟩
 |true=>exact ite_tt (chain_last (thn (hc pins s3 σ H3 _ I3 q3) λw' s4 ⟨z',H4,I4,r4,q4⟩=>ho' pins s4 σ H4 y z' u w' Q I4 r2 r4 q4))
theorem Ze9 {op op':CmpOp} {r r':R2} (ho:OpR X (compareOp op) r) (ho':OpR X (compareOp op') r') (ha:PE X a ta) (hb:PE X b tb) (hc:PE X c tc)
 (hm:lastMarks [op,op'] [b,c]=false:=by with_unfolding_all rfl):PT X (.Compare a [op,op'] [b,c] pos) (ZgB (Zdy r r' ta tb tc)):=by
 intro pins s σ H Q I h
 refine isTrue_chain (thn (ha pins s σ H _ I h) λv s1 ⟨x,H1,I1,r1,q1⟩=>test_link (thn (hb pins s1 σ H1 _ I1 q1) λu s2 ⟨y,H2,I2,r2,q2⟩=>
  thn (ho pins s2 σ H2 x y v u _ I2 r1 r2 q2) λd s3 ⟨z,H3,I3,r3,k,e,q3⟩ => ?_)) hm
 subst e;cases r3;refine wpAny_truthy_bool ?_;cases k with
 |false=>
  obtain⟨k',e',q'⟩:=q3;cases e';exact ite_ff ⟨H3,I3,q'⟩
 |true=>
  refine ite_tt (test_last (thn (hc pins s3 σ H3 _ I3 q3) λw' s4 ⟨z',H4,I4,r4,q4⟩=>thn (ho' pins s4 σ H4 y z' u w' _ I4 r2 r4 q4) λd' s5 ⟨z2,H5,I5,r5,k2,e2,q5⟩ => ?_));subst e2;cases r5;exact wpAny_truthy_bool ⟨H5,I5,q5⟩
theorem Jd:(sizeLine:Nat)<2 ^ 63:=by rw [sizeLine_eq];decide
theorem Zdd:OpR X (binaryOp .Add) (λx y H Q=>∃i j,x = .str i/\y = .str j/\i.length+j.length<=sizeLine/\Q (.str (i++j)) H):=by
 intro pins s σ H x y v u Q I rx ry h;obtain⟨i,j,rfl,rfl,hz,q⟩:=h;obtain⟨t,rfl⟩:=rx;obtain⟨t',rfl⟩:=ry;exact add_str (λt' tk=>⟨.str (i++j),H,I.tok _,⟨_,rfl⟩,q⟩) hz
theorem XZ{x:V}{us:List Value}(r:Vals [x] us):∃u,us=[u]/\RelV x u:=by
 cases r with
 |cons r1 r2=>cases r2;exact⟨_,rfl,r1⟩
theorem Je{x y:V}{us:List Value}(r:Vals [x,y] us):∃u w',us=[u,w']/\RelV x u/\RelV y w':=by
 cases r with
 |cons r1 r2=>
  cases r2 with
  |cons r3 r4=>cases r4;exact⟨_,_,rfl,r1,r3⟩
theorem ZbG(hc:X.calm=true):Y5 X (.builtin "min") (λxs H Q=>∃i j,xs=[.int i,.int j]/\Q (.int (if j<i then j else i)) H):=by
 intro pins s σ H xs us Q I r h;obtain⟨i,j,rfl,q⟩:=h;obtain⟨u,w',rfl,⟨t,rfl⟩,⟨t',rfl⟩⟩:=Je r;refine min_two_ints (I.ok.hd hc) λh' tk k=>⟨_,H,I.kept k,?_,q⟩
 by_cases hj:j<i
 · rw [if_pos hj,if_pos hj];exact⟨_,rfl⟩
 · rw [if_neg hj,if_neg hj];exact⟨_,rfl⟩
theorem Zek:Y5 X (.type "int") (λxs H Q=>(∃i,xs=[.int i]/\Q (.int i) H)\/∃k,xs=[.bl k]/\Q (.int (if k then 1 else 0)) H):=by
 intro pins s σ H xs us Q I r h;rcases h with⟨i,rfl,q⟩|⟨k,rfl,q⟩
 · obtain⟨u,rfl,t,rfl⟩:=XZ r
   exact call_int_int ⟨.int i,H,I,⟨_,rfl⟩,q⟩
 · obtain⟨u,rfl,r1⟩:=XZ r
   cases r1;exact call_int_bool ⟨.int (if k then 1 else 0),H,I.tok _,⟨_,rfl⟩,q⟩
end
end L2
namespace L2
open PySem PySem.Spec PyProof.Rows
structure ObjM(h:Heap)(x dx C:Addr)(mA:Str->Option Value):Prop where
 obj:h.get? x=some (instObj C dx)
 ns:h.Ns1 dx mA
 ne:dx≠x
theorem Zel{h:Heap}{dx:Addr}{mA:Str->Option Value}(n:h.Ns1 dx mA):∃od,h.get? dx=some od/\∀name,PySem.W.lookIn name od=some (mA name):=by
 obtain⟨o,es,ep,ho,hd,hk,_,hm⟩:=n;refine⟨o,ho,λname => ?_⟩;have e:=hm name;unfold nsFind findBy at e;rw [<-Array.find?_toList]at e;unfold PySem.W.lookIn;rw [hd];dsimp only
 split
 · rename_i y q
   rw [q]at e;exact congrArg some e
 · rename_i q
   rw [q]at e
   have a:es.toList.any (·.refKey)=false:=by
    rw [List.any_eq_false];intro y hy;obtain⟨z,t,hkey⟩:=hk y (Array.mem_toList_iff.mp hy);simp [DictEntry.refKey,hkey]
   have a':¬es.toList.any (·.refKey)=true:=by rw [a];exact Bool.false_ne_true
   rw [if_neg a'];exact congrArg some e
theorem ObjM.look{h:Heap}{x dx C:Addr}{mA:Str->Option Value}(I:ObjM h x dx C mA):∃od,PySem.W.InstAt h x (instObj C dx) C (some od)/\∀name,PySem.W.lookIn name od=some (mA name):=
 let⟨od,ho,hl⟩:=Zel I.ns
 ⟨od,⟨I.obj,rfl,rfl,ho⟩,hl⟩
section
variable{prog:Program}{w:World}{A:Around}{E:Value->Shared->Prop}{s:Shared}{K:PySem.W.Frag}{x dx C f:Addr}{mA:Str->Option Value}{name:Str}{v:Value}
theorem ZgU {expr:Bool} {Q:Value->Shared->Prop} (X:K.In s.heap) (I:ObjM s.heap x dx C mA) (hg:PySem.W.plainGet K C name=true) (hh:PySem.W.hasDictIn K C=true)
 (ha:PySem.W.findIn K (.ref C) name=some none) (hv:mA name=some v) (hv':PySem.W.handedIn v=true) (h:Q v { s with toks:=s.toks+1 }) :
 wpAny (model prog w) A (getAttr (.ref x) name expr) Q E s:=by
 obtain⟨od,J,hl⟩:=I.look;exact PySem.W.get_value X J (PySem.W.plainGet_of hg).1 (PySem.W.findObj_own hh ha rfl (by rw [hl,hv])) hv' h
theorem Zfa {pl:Sem Bool} {Q:Value×List Value->Shared->Prop} (X:K.In s.heap) (I:ObjM s.heap x dx C mA) (hg:PySem.W.plainGet K C name=true)
 (hf:PySem.W.findIn K (.ref C) name=some (some (.ref f))) (ht:isFn K (.ref f)=true) (hv:mA name=none) (h:Q (.ref f,[.ref x]) s) :
 wpAny (model prog w) A (getMethod (.ref x) name pl) Q E s:=by
 obtain⟨od,J,hl⟩:=I.look;exact PySem.W.method_fn X J (PySem.W.plainGet_of hg).1 (PySem.W.plainGet_of hg).2 hf (beq_iff_eq.mp ht) (by show(PySem.W.lookIn name od).map (·.isSome)=some false;rw [hl,hv];rfl) h
theorem ZgV {ns:List Str} {Q:Unit->Shared->Prop} (X:K.In s.heap) (I:ObjM s.heap x dx C mA)
 (hs:PySem.W.findIn K (.ref C) "__setattr__" = some (some (.builtin "object.__setattr__"))) (hp:PySem.W.plainOver K C=true) (ht:PySem.W.takerIn K C name=some none) (hh:PySem.W.hasDictIn K C=true)
 (hw:PySem.Within mA ns) (hsz:ns.length<=sizeLine)
 (h:∀h',ObjM h' x dx C (λy=>if y=name then some v else mA y)->Heap.SameBut dx s.heap h'->Q () { s with heap:=h',toks:=s.toks+2 }) :
 wpAny (model prog w) A (setAttr (.ref x) name v) Q E s:=by
 obtain⟨od,J,hl⟩:=I.look;refine PySem.W.set_plain X J hs (PySem.W.osa_open (s:={ s with toks:=s.toks+1 }) (r:=none) X J hp ht λb => ?_);obtain⟨cd,hc,hd'⟩:=PySem.W.any_some hh;have hx:s.heap.get? x=some ⟨.ref C,some dx,.plain,#[]⟩:=I.obj;refine wpAny_bind (wpAny_pure (wpAny_bind (wpAny_bind (wpAny_loadPart hx (wpAny_bind (PySem.W.Looks.here (s:={ s with toks:=s.toks+1 }) (PySem.W.looks_clsIn X hc) ?_))))))
 rw [hd'];refine wpAny_pure (a:=some dx) (wpAny_bind (wpAny_pure (wpAny_bind ?_)));refine wpAny_nsSet1 (s:={ s with toks:=s.toks+1 }) I.ns λh' hn2 hs2 => ?_
 obtain⟨oD,esD,epD,hoD,hdD,hcD⟩:=hn2.count (PySem.Within.cons name v hw);refine wpAny_bind (wpAny_lookBehind hoD (by rw [hdD];exact pastItsLine_dict (Nat.le_trans hcD (by rw [List.length_cons];omega))) ?_);exact wpAny_pure (h _ ⟨(hs2.2 _ (Ne.symm I.ne)).trans I.obj,hn2,I.ne⟩ hs2)
theorem Zfb {R:Result->Shared->Prop} {vs:List Value} {kw:List (Str×Value)} (X:K.In s.heap) (hm:PySem.W.makesIn K C=true)
 (hi:PySem.W.findIn K (.ref C) "__init__" = some (some (.ref f))) (hf:PySem.W.typeIn K (.ref f)=some (.type "function"))
 (h:codeAny (model prog w) (A.under (.builtin "type.__call__" ⟨.ref C::vs,kw⟩)) (.call (.ref f) ⟨.ref (s.heap.objs.size+1)::vs,kw⟩) (PySem.W.InitBack (s.heap.objs.size+1) R)
   { s with heap:=(s.heap.push emptyDict).push (instObj C s.heap.objs.size) }) :
 codeAny (model prog w) A (.call (.ref C) ⟨vs,kw⟩) R s:=by
 obtain⟨hh,g,d,t,os⟩:=s;exact PySem.W.make_core (PySem.W.makes_of X hm) (PySem.W.looks_findIn X hi) (λself=>PySem.W.bind_fn X self hf) (.inl rfl) h
end
def Xc(f:Str)(v:V):List (Str×V)->List (Str×V)
 | []=>[(f,v)]
 |(g,x)::r=>if g=f then(g,v)::r else(g,x)::Xc f v r
theorem ZaS(f g:Str)(v:V):∀fs:List (Str×V),(Xc f v fs).lookup g=if g=f then some v else fs.lookup g
 | []=>by
  show List.lookup g [(f,v)]=_
  by_cases h:g=f
  · have hb:(g == f)=true:=beq_iff_eq.mpr h
    simp only [List.lookup,hb,if_pos h]
  · have hb:(g == f)=false:=beq_eq_false_iff_ne.mpr h
    simp only [List.lookup,hb,if_neg h]
 |(k,x)::r=>by
  have ih:=ZaS f g v r;rw [show Xc f v ((k,x)::r)=(if k=f then(k,v)::r else(k,x)::Xc f v r)from rfl]
  by_cases hk:k=f
  · rw [if_pos hk]
    by_cases h:g=k
    · have hb:(g == k)=true:=beq_iff_eq.mpr h
      simp only [List.lookup,hb,if_pos (h.trans hk)]
    · have hb:(g == k)=false:=beq_eq_false_iff_ne.mpr h
      simp only [List.lookup,hb,if_neg (λe:g=f=>h (e.trans hk.symm))]
  · rw [if_neg hk]
    by_cases h:g=k
    · have hb:(g == k)=true:=beq_iff_eq.mpr h
      simp only [List.lookup,hb,if_neg (λe:g=f=>hk (h.symm.trans e))]
    · have hb:(g == k)=false:=beq_eq_false_iff_ne.mpr h
      simp only [List.lookup,hb];exact ih
theorem ZaL(f:Str)(v:V):∀fs:List (Str×V),f∈(Xc f v fs).map (·.1)/\∀g,g∈fs.map (·.1)->g∈(Xc f v fs).map (·.1)
 | []=>⟨by simp [Xc],λg h=>by simp at h⟩
 |(k,x)::r=>by
  obtain⟨i1,i2⟩:=ZaL f v r;rw [show Xc f v ((k,x)::r)=(if k=f then(k,v)::r else(k,x)::Xc f v r)from rfl]
  by_cases hk:k=f
  · rw [if_pos hk]
    subst hk;exact⟨by simp,λg h=>by simpa using h⟩
  · rw [if_neg hk]
    refine⟨?_,λg h => ?_⟩
    · rw [List.map_cons]
      exact List.mem_cons_of_mem _ i1
    · rw [List.map_cons]at h ⊢
      rcases List.mem_cons.mp h with e|e
      · exact List.mem_cons.mpr (.inl e)
      · exact List.mem_cons_of_mem _ (i2 g e)
theorem ZaT(f:Str)(v:V):∀fs:List (Str×V),(Xc f v fs).length<=fs.length+1
 | []=>by simp [Xc]
 |(k,x)::r=>by
  have ih:=ZaT f v r;rw [show Xc f v ((k,x)::r)=(if k=f then(k,v)::r else(k,x)::Xc f v r)from rfl]
  by_cases hk:k=f
  · rw [if_pos hk,List.length_cons,List.length_cons];omega
  · rw [if_neg hk,List.length_cons,List.length_cons];omega
theorem RelO.some_of{v:V}{o:Option Value}(r:RelO (some v) o):∃u,o=some u/\RelV v u:=by
 cases o with
 |none=>exact(show False from r).elim
 |some u=>exact⟨u,rfl,r⟩
theorem RelO.none_of{o:Option Value}(r:RelO none o):o=none:=by
 cases o with
 |none=>rfl
 |some u=>exact(show False from r).elim
theorem Zem{v:V}{u:Value}(r:RelV v u):PySem.W.handedIn u=true:=by
 cases v with
 |non=>cases(show u=Value.none from r);rfl
 |bl b=>cases(show u=Value.bool b from r);rfl
 |int i=>obtain⟨t,e⟩:=(show ∃t,u=Value.int i t from r);cases e;rfl
 |str x=>obtain⟨t,e⟩:=(show ∃t,u=Value.str x t from r);cases e;rfl
 |byt b=>obtain⟨t,e⟩:=(show ∃t,u=Value.bytes b t from r);cases e;rfl
 |flt b=>obtain⟨t,e⟩:=(show ∃t,u=Value.float b t from r);cases e;rfl
 |ref a=>cases(show u=Value.ref a from r);rfl
 |ty n=>cases(show u=Value.type n from r);rfl
section
variable{P:Program}{w:World}{H H':Hp}{h h':Heap}{a C dx:Addr}{fs fs':List (Str×V)}
theorem Zba(hok:HOk P w H h)(e:H a=some (.ins C dx fs)):∃mA,ObjM h a dx C mA/\(∀f,RelO (fs.lookup f) (mA f))/\PySem.Within mA (fs.map (·.1))/\fs.length<=1000/\H dx=some (.own a):=by
 obtain⟨d,z,ne,ob,mA,n,r,q⟩:=(show ObjOk P w H h a (.ins C dx fs)from hok a _ e)
 exact⟨mA,⟨ob,n,ne⟩,r,q,z,d⟩
end
structure Cls(K:PySem.W.Frag)(C:Addr):Prop where
 pg:PySem.W.plainGet K C Str.empty=true
 hd:PySem.W.hasDictIn K C=true
 po:PySem.W.plainOver K C=true
 sa:PySem.W.findIn K (.ref C) "__setattr__" = some (some (.builtin "object.__setattr__"))
theorem Cls.get{K:PySem.W.Frag}{C:Addr}(c:Cls K C)(f:Str):PySem.W.plainGet K C f=true:=c.pg
def NoAttr(K:PySem.W.Frag)(C:Addr)(f:Str):Prop:=PySem.W.findIn K (.ref C) f=some none
theorem NoAttr.taker{K:PySem.W.Frag}{C:Addr}{f:Str}(n:NoAttr K C f):PySem.W.takerIn K C f=some none:=by
 unfold PySem.W.takerIn;rw [show PySem.W.findIn K (.ref C) f=some none from n];rfl
structure Con(K:PySem.W.Frag)(C:Addr)(f:Str)(v:V)(u:Value):Prop where
 at_:PySem.W.findIn K (.ref C) f=some (some u)
 rel:RelV v u
 get:PySem.W.specialIn K u "__get__" = some none
 cp:PySem.W.copiedNames.contains f=false
structure Meth(K:PySem.W.Frag)(C:Addr)(m:Str)(f:Addr):Prop where
 at_:PySem.W.findIn K (.ref C) m=some (some (.ref f))
 fn:isFn K (.ref f)=true
 kp:keepIn K (.ref f)=true
section
variable{X:Cx}{pins:List (Addr×Obj)}{σ:St}{H:Hp}{s:Shared}{a C dx:Addr}{fs:List (Str×V)}{f:Str}{v:V}{A:Around}{E:Value->Shared->Prop}
theorem Zde {b:Bool} {Q:Value->Shared->Prop} (I:Inv X pins σ H s) (e:H a=some (.ins C dx fs)) (c:Cls X.K C) (n:NoAttr X.K C f) (l:fs.lookup f=some v)
 (h:∀u s',Inv X pins σ H s'->RelV v u->Q u s'):wpAny (model X.prog X.w) A (getAttr (.ref a) f b) Q E s:=by
 obtain⟨mA,O,r,_,_,_⟩:=Zba I.hok e;obtain⟨u,hu,ru⟩:=RelO.some_of (v:=v) (o:=mA f) (by rw [<-l];exact r f);exact ZgU I.kIn O (c.get f) c.hd n hu (Zem ru) (h u _ (I.tok _) ru)
theorem Zaj {m:Str} {g:Addr} {pl:Sem Bool} {Q:Value×List Value->Shared->Prop} (I:Inv X pins σ H s) (e:H a=some (.ins C dx fs)) (c:Cls X.K C) (k:Meth X.K C m g) (l:fs.lookup m=none)
 (h:Q (.ref g,[.ref a]) s):wpAny (model X.prog X.w) A (getMethod (.ref a) m pl) Q E s:=by
 obtain⟨mA,O,r,_,_,_⟩:=Zba I.hok e;have hn:mA m=none:=RelO.none_of (by rw [<-l];exact r m);exact Zfa I.kIn O (c.get m) k.at_ k.fn hn h
theorem Zdf {y:V} {u:Value} {Q:Unit->Shared->Prop} (I:Inv X pins σ H s) (e:H a=some (.ins C dx fs)) (c:Cls X.K C) (n:NoAttr X.K C f) (hl:fs.length<1000) (ry:RelV y u)
 (h:∀s',Inv X pins σ (upd H a (.ins C dx (Xc f y fs))) s'->Q () s'):wpAny (model X.prog X.w) A (setAttr (.ref a) f u) Q E s:=by
 obtain⟨mA,O,r,wi,_,ho⟩:=Zba I.hok e;have hz:(fs.map (·.1)).length<=sizeLine:=by rw [List.length_map,sizeLine_eq];omega
 refine ZgV I.kIn O c.sa c.po n.taker c.hd wi hz λh' O' sb=>h _ ?_
 have hd:∃o,h'.get? dx=some o:=let⟨o,_,_,e',_⟩:=O'.ns;⟨o,e'⟩
 refine I.write (x:=a) (e:=dx) (by rw [e];exact True.intro) (.inr ho) (λb q hb z=>(sb.2 b hb).trans z) hd ?_;refine⟨by rw [Ye O.ne];exact ho,?_,O.ne,O'.obj,_,O'.ns,λg => ?_,λg hg => ?_⟩
 · have:=ZaT f y fs;omega
 · show RelO ((Xc f y fs).lookup g) (if g=f then some u else mA g)
   rw [ZaS]
   by_cases q:g=f
   · rw [if_pos q,if_pos q];exact ry
   · rw [if_neg q,if_neg q];exact r g
 · by_cases q:g=f
   · rw [q];exact(ZaL f y fs).1
   · refine(ZaL f y fs).2 g (wi g λz=>hg ?_)
     show(if g=f then some u else mA g)=none;rw [if_neg q];exact z
theorem Inv.made(I:Inv X pins σ H s):Inv X pins σ (upd (upd H s.heap.objs.size (.own (s.heap.objs.size+1))) (s.heap.objs.size+1) (.ins C s.heap.objs.size []))
 { s with heap:=(s.heap.push emptyDict).push (instObj C s.heap.objs.size) }:=by
 have e1:(s.heap.push emptyDict).get? s.heap.objs.size=some emptyDict:=Heap.get?_push_size s.heap rfl
 have e2:((s.heap.push emptyDict).push (instObj C s.heap.objs.size)).get? (s.heap.objs.size+1)=some (instObj C s.heap.objs.size):=by
  have:=Heap.get?_push_size (s.heap.push emptyDict) (o:=instObj C s.heap.objs.size) rfl
  rwa [Heap.size_push]at this
 have e3:(s.heap.push emptyDict).Ns s.heap.objs.size (λ_=>none):=⟨emptyDict,#[],_,e1,rfl,(λe he=>absurd he (by simp)),λ_=>rfl⟩
 have I1:=I.laid (a:=s.heap.objs.size) (o:=.own (s.heap.objs.size+1)) (h':=s.heap.push emptyDict) (t':=s.toks) (λb u q=>Heap.get?_push_of_some _ q) (Nat.le_refl _) ⟨_,e1⟩;refine I1.laid (a:=s.heap.objs.size+1) (o:=.ins C s.heap.objs.size []) (t':=s.toks) (λb u q=>Heap.get?_push_of_some _ q) (Nat.le_of_eq (Heap.size_push _ _)) ?_;have ne:s.heap.objs.size≠s.heap.objs.size+1:=Nat.ne_of_lt (Nat.lt_succ_self _)
 refine⟨by rw [Ye ne,YO],Nat.zero_le _,ne,e2,λ_=>none,(Heap.Ns1.of_empty e3).at λo q=>Heap.get?_push_of_some _ q,λ_=>True.intro,λy hy=>absurd rfl hy⟩
theorem ZgW {prog:Program} {w:World} {env:Env} {e:Expr} {f:Str} {pos:Pos} {s:Shared} {Q:Value->Shared->Prop} (hb:attributeBase e f env (eval e env)=eval e env)
 (h:wpAny (model prog w) A (eval e env) (λo s₁=>wpAny (model prog w) A (getAttr o f true) Q E s₁) E s):wpAny (model prog w) A (eval (.Attribute e f pos) env) Q E s:=
 Attribute_any_ h (by rw [arm_eval_Attribute,hb])
end
def ZkM(K:PySem.W.Frag)(ta:TE)(f:Str):TE:=λσ H Q=>ta σ H λx H1=>∃a C dx fs v,x = .ref a/\H1 a=some (.ins C dx fs)/\Cls K C/\NoAttr K C f/\fs.lookup f=some v/\Q v H1
def ZmQ(K:PySem.W.Frag)(ta tv:TE)(f:Str):TS:=λD σ H=>tv σ H λy H1=>ta σ H1 λx H2=>∃a C dx fs,x = .ref a/\H2 a=some (.ins C dx fs)/\Cls K C/\NoAttr K C f/\fs.length<1000 /\
 D.nx σ (upd H2 a (.ins C dx (Xc f y fs)))
section
variable{X:Cx}{o e value:Expr}{f:Str}{pos pos' tpos:Pos}{ta tv:TE}
theorem Ziz(he:PE X e ta)(hb:attributeBase e f X.env (eval e X.env)=eval e X.env):PE X (.Attribute e f pos) (ZkM X.K ta f):=by
 intro pins s σ H Q I h;refine ZgW hb (thn (he pins s σ H _ I h) λu s1 ⟨x,H1,I1,rx,a,C,dx,fs,v,ex,ea,c,n,l,q⟩ => ?_);subst ex;obtain rfl:u=Value.ref a:=rx;exact Zde I1 ea c n l λu' s2 I2 ru=>⟨v,H1,I2,ru,q⟩
theorem X8(ha:PE X o ta)(hv:PE X value tv)(hs:swapsWith value (some (.Attribute o f pos')) pos.line X.env=pure false):PS X (.Assign [.Attribute o f pos'] value pos) (ZmQ X.K ta tv f):=by
 intro pins s σ H D I h;refine plainObj_wpAny_Assign_Attribute (thn (hv pins s σ H _ I h) λu s1 ⟨y,H1,I1,ry,q⟩=>thn (ha pins s1 σ H1 _ I1 q) λov s2 ⟨x,H2,I2,rx,a,C,dx,fs,ex,ea,c,n,l,q2⟩ => ?_) hs;subst ex;obtain rfl:ov=Value.ref a:=rx;exact Zdf I2 ea c n l ry λs3 I3=>⟨σ,_,I3,q2⟩
end
section
variable{X:Cx}{pins:List (Addr×Obj)}{σ:St}{H:Hp}{s:Shared}{A:Around}{E:Value->Shared->Prop}{Q:Value->Shared->Prop}{c:Value}{b:Bool}
inductive TyOf(K:PySem.W.Frag)(H:Hp):V->Value->Prop where
 |non:TyOf K H .non (.type "NoneType")
 |bl (x:Bool):TyOf K H (.bl x) (.type "bool")
 |int (i:Int):TyOf K H (.int i) (.type "int")
 |str (x:Str):TyOf K H (.str x) (.type "str")
 |flt (x:UInt64):TyOf K H (.flt x) (.type "float")
 |lst {a:Addr} {xs:List V} (e:H a=some (.lst xs)):TyOf K H (.ref a) (.type "list")
 |frz {a:Addr} {o:Obj} {xs:List V} (e:H a=some (.frz o (.lst xs))):TyOf K H (.ref a) (.type "list")
 |tup {a:Addr} {xs:List V} (e:H a=some (.tup xs)):TyOf K H (.ref a) (.type "tuple")
 |dK {a:Addr} {kvs:List (Key×V)} (e:H a=some (.dK kvs)):TyOf K H (.ref a) (.type "dict")
 |dT {a:Addr} {kvs:List (List Key×V)} (e:H a=some (.dT kvs)):TyOf K H (.ref a) (.type "dict")
 |ins {a C dx:Addr} {fs:List (Str×V)} (e:H a=some (.ins C dx fs)) (cl:Cls K C) (ha:PySem.W.findIn K (.ref C) "__class__" = some (some (.builtin "object.__class__")))
  (hn:PySem.W.specialIn K (.builtin "object.__class__") "__get__" = some (some (.builtin "getset_descriptor.__get__"))) (htk:PySem.W.takesIn K (.builtin "object.__class__")=some true)
  (hm:PySem.W.mroIn K C (.type "object")=some true):TyOf K H (.ref a) (.ref C)
theorem Zen{x:V}{u t:Value}(I:Inv X pins σ H s)(rx:RelV x u)(ty:TyOf X.K H x t)(e:kitOne X.K t c=some b)(h:∀tk,Q (.bool b) { s with toks:=tk }) :
 wpAny (model X.prog X.w) A (call (.builtin "isinstance") [u,c]) Q E s:=by
 cases ty with
 |non=>cases(show u=Value.none from rx);exact PySem.W.kia_one PySem.W.kitx_none I.kIn True.intro e (λz=>nomatch z) h
 |bl y=>cases(show u=Value.bool y from rx);exact PySem.W.kia_one PySem.W.kitx_bool I.kIn True.intro e (λz=>nomatch z) h
 |int i=>obtain⟨t,q⟩:=(show ∃t,u=Value.int i t from rx);cases q;exact PySem.W.kia_one PySem.W.kitx_int I.kIn True.intro e (λz=>nomatch z) h
 |str y=>obtain⟨t,q⟩:=(show ∃t,u=Value.str y t from rx);cases q;exact PySem.W.kia_one PySem.W.kitx_str I.kIn True.intro e (λz=>nomatch z) h
 |flt y=>obtain⟨t,q⟩:=(show ∃t,u=Value.float y t from rx);cases q;exact PySem.W.kia_one PySem.W.kitx_float I.kIn True.intro e (λz=>nomatch z) h
 | @lst a xs ea=>
  cases(show u=Value.ref a from rx);obtain⟨_,_,n,_,h1⟩:=(show ObjOk X.prog X.w H s.heap a (.lst xs)from I.hok a _ ea)
  exact PySem.W.kia_one PySem.W.kitx_list I.kIn ⟨_,h1,rfl⟩ e (λz=>nomatch z) h
 | @frz a ob xs ea=>
  cases(show u=Value.ref a from rx);obtain⟨_,_,_,n,_,h1⟩:=(show ObjOk X.prog X.w H s.heap a (.frz ob (.lst xs))from I.hok a _ ea)
  exact PySem.W.kia_one PySem.W.kitx_list I.kIn ⟨_,h1,rfl⟩ e (λz=>nomatch z) h
 | @tup a xs ea=>
  cases(show u=Value.ref a from rx);obtain⟨_,_,_,p⟩:=(show ObjOk X.prog X.w H s.heap a (.tup xs)from I.hok a _ ea)
  obtain⟨o,h1,h2,_⟩:=p;exact PySem.W.kia_one PySem.W.kitx_tuple I.kIn ⟨o,h1,h2⟩ e (λz=>nomatch z) h
 | @dK a kvs ea=>
  cases(show u=Value.ref a from rx);obtain⟨_,_,vs,_,p⟩:=(show ObjOk X.prog X.w H s.heap a (.dK kvs)from I.hok a _ ea)
  obtain⟨o,es,ep,h1,h2,_⟩:=p;exact PySem.W.kia_one PySem.W.kitx_dict I.kIn ⟨o,h1,h2.1⟩ e (λz=>nomatch z) h
 | @dT a kvs ea=>
  cases(show u=Value.ref a from rx);obtain⟨_,_,xs,_,o,es,ep,h1,h2,_⟩:=(show ObjOk X.prog X.w H s.heap a (.dT kvs)from I.hok a _ ea)
  exact PySem.W.kia_one PySem.W.kitx_dict I.kIn ⟨o,h1,h2.1⟩ e (λz=>nomatch z) h
 | @ins a C dx fs ea cl ha hn htk hm=>
  cases(show u=Value.ref a from rx);obtain⟨mA,O,_⟩:=Zba I.hok ea;obtain⟨od,J,_⟩:=O.look;exact PySem.W.kia_one (PySem.W.kitx_own (cl.get _) cl.hd ha hn htk hm) I.kIn J e (λz=>nomatch z) h
end
end L2
namespace L2
open PySem PySem.Spec PyProof.Rows
structure Room(k:Nat)(A:Around):Prop where
 hd:A.handled=none
 dp:A.depth+3*k+5<recursionLimit
 un:A.units+16*k+200<cLine
theorem Room.mono{j k:Nat}{A:Around}(r:Room k A)(h:j<=k):Room j A:=⟨r.hd,by have:=r.dp;omega,by have:=r.un;omega⟩
theorem Room.deeper{k:Nat}{A:Around}(r:Room (k+1) A)(env:Env):Room k (A.deeper env):=
 ⟨r.hd,by have:=r.dp;show A.depth+1+3*k+5<_;omega,by have:=r.un;show A.units+3+16*k+200<_;omega⟩
theorem Zdg{A:Around}{C:Addr}{us:List Value}{kw:List (Str×Value)}:(A.under (.builtin "type.__call__" ⟨.ref C::us,kw⟩)).depth=A.depth+1:=by
 first|rfl|simp [Around.under,Code.weight,Code.isCreation,Code.isGuard,Code.isCaller,Code.frames,Code.isFrame,guardIds]
theorem Zdh{A:Around}{C:Addr}{us:List Value}{kw:List (Str×Value)}:(A.under (.builtin "type.__call__" ⟨.ref C::us,kw⟩)).units=A.units+1:=by
 first|rfl|simp [Around.under,Code.cUnits,Code.frames,Code.isFrame]
theorem Room.make{k:Nat}{A:Around}(r:Room (k+1) A)(C:Addr)(us:List Value)(kw:List (Str×Value)):Room k (A.under (.builtin "type.__call__" ⟨.ref C::us,kw⟩)):=
 ⟨r.hd,by have:=r.dp;rw [Zdg];omega,by have:=r.un;rw [Zdh];omega⟩
theorem Room.depth{k:Nat}{A:Around}(r:Room k A):A.depth<recursionLimit:=by have:=r.dp;omega
theorem Room.units{k:Nat}{A:Around}(r:Room k A):A.units+64<cLine:=by have:=r.un;omega
def tNil:TA:=λ_ H Q=>Q [] H
def Xk(ta:TE)(tr:TA):TA:=λσ H Q=>ta σ H λx H1=>tr σ H1 λxs H2=>Q (x::xs) H2
section
variable{X:Cx}{e:Expr}{es:List Expr}{te:TE}{t:TA}{pos:Pos}
theorem Zj:PA X [] tNil:=λ_ _ _ _ H Q I h=>Calls.spliced_nil ⟨[],H,I,.nil,h⟩
theorem Zd(ha:PE X e te)(hr:PA X es t)(hs:starEach (e::es) X.env=(false,eval e X.env)::starEach es X.env:=by rfl):PA X (e::es) (Xk te t):=by
 intro pos pins s σ H Q I h;rw [hs];show wpAny _ _ (spliced ((false,eval e X.env)::backTo pos (starEach es X.env))) _ _ s;refine Calls.spliced_cons (thn (ha pins s σ H _ I h) λu s1 ⟨x,H1,I1,r1,q1⟩ => ?_);exact thn (hr pos pins s1 σ H1 _ I1 q1) λus s2 ⟨xs,H2,I2,r2,q2⟩=>⟨x::xs,H2,I2,.cons r1 r2,q2⟩
def ZkN(t:TA):TE:=λσ H Q=>t σ H λxs H1=>xs.length<=sizeLine/\∀p,H1 p=none->Q (.ref p) (upd H1 p (.tup xs))
def Jf(t:TA):TE:=λσ H Q=>t σ H λxs H1=>xs.length<=sizeLine/\∀p,H1 p=none->Q (.ref p) (upd H1 p (.lst xs))
theorem VD{x1}(h:PA X es t):PE X (.Tuple es x1 pos) (ZkN t):=by
 intro pins s σ H Q I hq;refine wpAny_Tuple_spliced (thn (h pos pins s σ H _ I hq) λus s1 ⟨xs,H1,I1,r,z,q⟩=>⟨by rw [<-r.length];exact z,?_⟩);have hf:H1 s1.heap.objs.size=none:=I1.hok.fresh (Nat.le_refl _);refine⟨.ref s1.heap.objs.size,upd H1 s1.heap.objs.size (.tup xs),I1.laid (t':=s1.toks) (λb u e=>Heap.get?_push_of_some _ e) (Nat.le_refl _) ?_,rfl,q _ hf⟩;exact⟨z,us,r,⟨_,Heap.get?_push_size _ rfl,rfl,⟨_,rfl⟩,rfl⟩⟩
theorem Vl(h:PA X es t):PE X (.List es pos) (Jf t):=by
 intro pins s σ H Q I hq;refine wpAny_List_spliced (thn (h pos pins s σ H _ I hq) λus s1 ⟨xs,H1,I1,r,z,q⟩=>⟨by rw [<-r.length];exact z,?_⟩);have hf:H1 s1.heap.objs.size=none:=I1.hok.fresh (Nat.le_refl _);refine⟨.ref s1.heap.objs.size,upd H1 s1.heap.objs.size (.lst xs),I1.laid (t':=s1.toks) (λb u e=>Heap.get?_push_of_some _ e) (Nat.le_refl _) ?_,rfl,q _ hf⟩;exact⟨z,us,0,r,Heap.get?_push_size _ rfl⟩
end
abbrev Sp:=List V->Hp->VK->XK->Prop
abbrev CXT:=List Env->Hp->Shared->XK->Value->Shared->Prop
structure Env0(P:Program)(w:World)(K:PySem.W.Frag)(mg:Str->Option Value)(base:Heap)(A:Around)(outer:List Env)(s:Shared)(H:Hp):Prop where
 frames:A.frames=some outer
 mod:Mod K mg base
 bs:∀b o,base.get? b=some o->s.heap.get? b=some o/\H b=none
 bsz:base.objs.size<=s.heap.objs.size
 funs:s.heap.FunFrames base outer
 frf:∀b∈frs outer,H b=none
 hok:HOk P w H s.heap
 bare:AllBare s.gens
def CE(outer:List Env)(P:Program)(w:World)(H:Hp)(s:Shared)(Q:VK)(u:Value)(s':Shared):Prop:=
 ∃v H',s'.os=s.os/\AllBare s'.gens/\Un (frs outer) [] H H' s.heap s'.heap/\HOk P w H' s'.heap/\RelV v u/\Q v H'
def CR(CX:CXT)(outer:List Env)(P:Program)(w:World)(H:Hp)(s:Shared)(Q:VK)(E:XK)(r:Result)(s':Shared):Prop:=
 match r with
 | .ok (.ret u)=>CE outer P w H s Q u s'
 | .ok _=>False
 | .error e=>CX outer H s E e s'
structure FnOk(P:Program)(w:World)(K:PySem.W.Frag)(mg:Str->Option Value)(base:Heap)(CX:CXT)(k:Nat)(f:Addr)(fd:FuncData)(ps:List Str)(sp:Sp):Prop where
 len:∀vs H Q E,sp vs H Q E->vs.length=ps.length
 run:∀(A:Around)(outer:List Env)(s:Shared)(H:Hp)(args:Args)(us:List Value)(vs:List V)(Q:VK)(E:XK),Room k A->Env0 P w K mg base A outer s H->BindsTo s fd args (ps.zip us)->Vals vs us->sp vs H Q E ->
  codeAny (model P w) A (.call (.ref f) args) (CR CX outer P w H s Q E) s
theorem FnOk.mono{P:Program}{w:World}{K:PySem.W.Frag}{mg:Str->Option Value}{base:Heap}{CX:CXT}{j k:Nat}{f:Addr}{fd:FuncData}{ps:List Str}{sp:Sp}(F:FnOk P w K mg base CX j f fd ps sp)(h:j<=k) :
 FnOk P w K mg base CX k f fd ps sp:=⟨F.len,λA outer s H args us vs Q E hr=>F.run A outer s H args us vs Q E (hr.mono h)⟩
theorem FnOk.imp {P:Program} {w:World} {K:PySem.W.Frag} {mg:Str->Option Value} {base:Heap} {CX:CXT} {k:Nat} {f:Addr} {fd:FuncData} {ps:List Str} {sp sp':Sp} (F:FnOk P w K mg base CX k f fd ps sp)
 (h:∀vs H Q E,sp' vs H Q E->sp vs H Q E):FnOk P w K mg base CX k f fd ps sp':=
 ⟨λvs H Q E q=>F.len vs H Q E (h _ _ _ _ q),λA outer s H args us vs Q E hr he hb hv hs=>F.run A outer s H args us vs Q E hr he hb hv (h _ _ _ _ hs)⟩
theorem Env0.make{P:Program}{w:World}{K:PySem.W.Frag}{mg:Str->Option Value}{base:Heap}{A:Around}{outer:List Env}{s:Shared}{H:Hp}(e:Env0 P w K mg base A outer s H)(C:Addr)(us:List Value)(kw:List (Str×Value)) :
 Env0 P w K mg base (A.under (.builtin "type.__call__" ⟨.ref C::us,kw⟩)) outer s H:=⟨by first|exact e.frames|(simpa [Around.under,Code.envs,Code.isFrame,pushEnvs]using e.frames),e.mod,e.bs,e.bsz,e.funs,e.frf,e.hok,e.bare⟩
section
variable{X:Cx}{pins:List (Addr×Obj)}{σ:St}{H:Hp}{s s':Shared}
theorem Inv.env0(I:Inv X pins σ H s):Env0 X.prog X.w X.K X.mg X.base X.A X.stack s H:=
 ⟨I.ok.frames,I.ok.mod,I.bs,Nat.le_trans I.ok.bsz I.sz,I.stack,I.stkFree,I.hok,I.bare⟩
theorem Inv.after{Q:VK}{u:Value}(I:Inv X pins σ H s)(h:CE X.stack X.prog X.w H s Q u s'):EP X pins σ Q u s':=by
 obtain⟨v,H',os,bare,un,hok,r,q⟩:=h;obtain⟨hh,g,d,t,os'⟩:=s';obtain rfl:os'=s.os:=os;exact⟨v,H',I.call (h':=hh) (g':=g) (d':=d) (t':=t) (ch:=[]) un hok bare (λb z=>absurd z (by simp)),r,q⟩
end
def ZeZ(sp:Sp)(dvs:List V)(E:XK)(t:TA):TE:=λσ H Q=>t σ H λvs H1=>sp (vs++dvs) H1 Q E
def ZhT(C:Addr)(sp:Sp)(dvs:List V)(E:XK)(t:TA):TE:=λσ H Q=>t σ H λvs H1=>∀x dx,H1 x=none->H1 dx=none->dx≠x ->
 sp (.ref x::(vs++dvs)) (upd (upd H1 dx (.own x)) x (.ins C dx [])) (λv H2=>v = .non/\Q (.ref x) H2) E
def Binds(K:PySem.W.Frag)(fd:FuncData)(ps:List Str)(ds:List Value):Prop:=
 ∀(s:Shared)(us:List Value),K.In s.heap->(us++ds).length=ps.length->BindsTo s fd ⟨us,[]⟩ (ps.zip (us++ds))
theorem Binds.all{K:PySem.W.Frag}{fd:FuncData}{ps:List Str}(h:∀us:List Value,us.length=ps.length->bindArgs fd ⟨us,[]⟩=pure (ps.zip us)):Binds K fd ps []:=λs us _ hl=>by
 rw [List.append_nil]at hl ⊢;exact .of_eq (h us hl)
def Uj(CX:CXT)(X:Cx)(E:XK):Prop:=∀(pins:List (Addr×Obj))(σ:St)(H:Hp)(s:Shared)(e:Value)(s':Shared),Inv X pins σ H s->CX X.stack H s E e s'->X.xe e s'
section
variable{X:Cx}{CX:CXT}{k:Nat}{f C:Addr}{fd:FuncData}{ps:List Str}{sp:Sp}{dvs:List V}{ds:List Value}{E:XK}{x m:Str}{p pos apos:Pos}{e o:Expr}{es:List Expr}{ta:TE}{t:TA}
theorem Jg {pins:List (Addr×Obj)} {σ:St} {H:Hp} {s:Shared} {Q:VK} {us:List Value} {vs:List V} (F:FnOk X.prog X.w X.K X.mg X.base CX k f fd ps sp) (hr:Room k X.A) (hb:Binds X.K fd ps ds) (hd:Vals dvs ds) (hx:Uj CX X E)
 (I:Inv X pins σ H s) (r:Vals vs us) (h:sp (vs++dvs) H Q E):wpAny (model X.prog X.w) X.A (call (.ref f) us) (EP X pins σ Q) X.xe s:=by
 have r2:Vals (vs++dvs) (us++ds):=r.append hd;have hl:(us++ds).length=ps.length:=by rw [<-r2.length];exact F.len _ _ _ _ h
 refine wpAny_call (codeAny_mono (F.run X.A X.stack s H ⟨us,[]⟩ (us++ds) (vs++dvs) Q E hr I.env0 (hb s us I.kIn hl) r2 h) λr s' hq => ?_);cases r with
 |error e=>exact hx pins σ H s e s' I hq
 |ok fl=>
  cases fl with
  |ret u=>exact I.after hq
  |next=>exact False.elim hq
  |brk=>exact False.elim hq
  |cont=>exact False.elim hq
theorem ZV (F:FnOk X.prog X.w X.K X.mg X.base CX k f fd ps sp) (hr:Room k X.A) (hg:Gl X x) (hm:X.mg x=some (.ref f)) (hk:keepIn X.K (.ref f)=true) (hb:Binds X.K fd ps ds) (hd:Vals dvs ds) (hx:Uj CX X E)
 (ha:PA X (e::es) t) (hdb:(x == ("__debug__" : Str))=false:=by decide) (he:starEach (e::es) X.env=(false,eval e X.env)::starEach es X.env:=by rfl) (hpl:(backTo pos (starEach es X.env)).any (·.1)=false:=by rfl) :
 PE X (.Call (.Name x p) (e::es) [] pos) (ZeZ sp dvs E t):=by
 intro pins s σ H Q I h;refine wpAny_Call_Name_kw (U6 I hg hm ?_ hdb);refine PySem.W.callWith_K (h₀:=X.base) I.ok.mod.kin hk (thn (ha pos pins s σ H _ I h) λus s1 ⟨vs,H1,I1,r,q⟩=>⟨I1.kIn,?_⟩) he hpl;exact Jg F hr hb hd hx I1 r q
structure Mk(K:PySem.W.Frag)(C f:Addr):Prop where
 makes:PySem.W.makesIn K C=true
 init:PySem.W.findIn K (.ref C) "__init__" = some (some (.ref f))
 fn:isFn K (.ref f)=true
 kp:keepIn K (.ref C)=true
theorem Zfc {pins:List (Addr×Obj)} {σ:St} {H:Hp} {s:Shared} {Q:VK} {us:List Value} {vs:List V} (M:Mk X.K C f) (F:FnOk X.prog X.w X.K X.mg X.base CX k f fd ps sp) (hr:Room (k+1) X.A) (hb:Binds X.K fd ps ds) (hd:Vals dvs ds)
 (hx:Uj CX X E) (I:Inv X pins σ H s) (r:Vals vs us)
 (h:∀x dx,H x=none->H dx=none->dx≠x->sp (.ref x::(vs++dvs)) (upd (upd H dx (.own x)) x (.ins C dx [])) (λv H2=>v = .non/\Q (.ref x) H2) E) :
 wpAny (model X.prog X.w) X.A (call (.ref C) us) (EP X pins σ Q) X.xe s:=by
 have hq:=h (s.heap.objs.size+1) s.heap.objs.size (I.hok.fresh (Nat.le_succ _)) (I.hok.fresh (Nat.le_refl _)) (Nat.ne_of_lt (Nat.lt_succ_self _));have I2:=Inv.made (C:=C) I;have r2:Vals (V.ref (s.heap.objs.size+1)::(vs++dvs)) (Value.ref (s.heap.objs.size+1)::(us++ds)) := .cons rfl (r.append hd)
 have hl:(Value.ref (s.heap.objs.size+1)::us++ds).length=ps.length:=by
  have e:=r2.length;rw [F.len _ _ _ _ hq]at e;exact e.symm
 refine wpAny_call (Zfb (f:=f) I.kIn M.makes M.init (beq_iff_eq.mp M.fn) (codeAny_mono (F.run _ X.stack _ _ ⟨Value.ref (s.heap.objs.size+1)::us,[]⟩ (Value.ref (s.heap.objs.size+1)::(us++ds)) _ _ E (hr.make C us [])
  (I2.env0.make C us []) (hb _ (Value.ref (s.heap.objs.size+1)::us) I2.kIn hl) r2 hq) λr s' hq' => ?_))
 cases r with
 |error e=>exact hx pins σ _ _ e s' I2 hq'
 |ok fl=>
  cases fl with
  |ret u=>
   obtain⟨v,H',I3,rv,ev,q3⟩:=I2.after hq';subst ev;exact⟨rv,⟨V.ref (s.heap.objs.size+1),H',I3,rfl,q3⟩⟩
  |next=>exact False.elim hq'
  |brk=>exact False.elim hq'
  |cont=>exact False.elim hq'
theorem V2 (M:Mk X.K C f) (F:FnOk X.prog X.w X.K X.mg X.base CX k f fd ps sp) (hr:Room (k+1) X.A) (hg:Gl X x) (hm:X.mg x=some (.ref C)) (hb:Binds X.K fd ps ds) (hd:Vals dvs ds) (hx:Uj CX X E)
 (ha:PA X (e::es) t) (hdb:(x == ("__debug__" : Str))=false:=by decide) (he:starEach (e::es) X.env=(false,eval e X.env)::starEach es X.env:=by rfl) (hpl:(backTo pos (starEach es X.env)).any (·.1)=false:=by rfl) :
 PE X (.Call (.Name x p) (e::es) [] pos) (ZhT C sp dvs E t):=by
 intro pins s σ H Q I h;refine wpAny_Call_Name_kw (U6 I hg hm ?_ hdb);refine PySem.W.callWith_K (h₀:=X.base) I.ok.mod.kin M.kp (thn (ha pos pins s σ H _ I h) λus s1 ⟨vs,H1,I1,r,q⟩=>⟨I1.kIn,?_⟩) he hpl;exact Zfc M F hr hb hd hx I1 r q
end
section
variable{X:Cx}{CX:CXT}{k:Nat}{f C:Addr}{fd:FuncData}{ps ks:List Str}{sp:Sp}{E:XK}{x m:Str}{p pos apos kpos:Pos}{e o:Expr}{es:List Expr}{kws:List Keyword}{te ta:TE}{t tk:TA}{nm:Option Str}
structure KBinds(K:PySem.W.Frag)(fd:FuncData)(ps ks:List Str)(g:List Value->List Value->List Value)(gV:List V->List V->List V):Prop where
 to:∀(s:Shared)(us ws:List Value),K.In s.heap->(g us ws).length=ps.length->BindsTo s fd ⟨us,ks.zip ws⟩ (ps.zip (g us ws))
 rel:∀{vs:List V}{us:List Value}{zs:List V}{ws:List Value},Vals vs us->Vals zs ws->Vals (gV vs zs) (g us ws)
variable{g:List Value->List Value->List Value}{gV:List V->List V->List V}
end
structure FnScope(N P:List Str)(sc:Scope):Prop where
 kind:sc.kind = .function
 co:sc.isCoroutine=false
 gen:sc.isGenerator=false
 nd:N.Nodup
 pre:N.take P.length=P
 par:∀x∈P,sc.names.lookup x=some .local\/sc.names.lookup x=some .cell
 nofree:∀y∈sc.names,y.2 ≠ .free
theorem ZbH{kindOf:Str->Option NameKind}{x:Str}:∀{binds:List (Str×Value)}{m:Str->Option Value},(∀v,(x,v)∉binds)->bindL kindOf binds m x=m x
 | [],_,_=>rfl
 |(n,v)::r,m,h=>by
  unfold bindL;rw [ZbH λw hw=>h w (List.mem_cons_of_mem _ hw)]
  split
  · have:x≠n:=by rintro rfl;exact h v List.mem_cons_self
    simp [this]
  · rfl
theorem ZbI{kindOf:Str->Option NameKind}{x:Str}:∀{binds:List (Str×Value)}{m:Str->Option Value},(∀v,(x,v)∉binds)->bindC kindOf binds m x=m x
 | [],_,_=>rfl
 |(n,v)::r,m,h=>by
  unfold bindC;rw [ZbI λw hw=>h w (List.mem_cons_of_mem _ hw)]
  split
  · rfl
  · have:x≠n:=by rintro rfl;exact h v List.mem_cons_self
    simp [this]
theorem ZbJ{kindOf:Str->Option NameKind}{x:Str}{v:Value}:∀{P:List Str}{vs:List Value}{i:Nat}{m:Str->Option Value},P.Nodup->P[i]? = some x->vs[i]? = some v->kindOf x=some .local ->
 bindL kindOf (P.zip vs) m x=some v
 | [],_,_,_,_,h,_,_=>by simp at h
 |_::_,[],_,_,_,_,h,_=>by simp at h
 |p::P,w::vs,0,m,nd,h1,h2,hk=>by
  simp at h1 h2;subst h1;subst h2;show bindL kindOf ((p,w)::P.zip vs) m p=_;unfold bindL;rw [ZbH λv hv=>(List.nodup_cons.mp nd).1 (List.of_mem_zip hv).1,if_pos hk];simp
 |p::P,w::vs,i+1,m,nd,h1,h2,hk=>by
  show bindL kindOf ((p,w)::P.zip vs) m x=_;unfold bindL;exact ZbJ (i:=i) (List.nodup_cons.mp nd).2 (by simpa using h1) (by simpa using h2) hk
theorem ZbK{kindOf:Str->Option NameKind}{x:Str}{v:Value}:∀{P:List Str}{vs:List Value}{i:Nat}{m:Str->Option Value},P.Nodup->P[i]? = some x->vs[i]? = some v->kindOf x≠some .local ->
 bindC kindOf (P.zip vs) m x=some v
 | [],_,_,_,_,h,_,_=>by simp at h
 |_::_,[],_,_,_,_,h,_=>by simp at h
 |p::P,w::vs,0,m,nd,h1,h2,hk=>by
  simp at h1 h2;subst h1;subst h2;show bindC kindOf ((p,w)::P.zip vs) m p=_;unfold bindC;rw [ZbI λv hv=>(List.nodup_cons.mp nd).1 (List.of_mem_zip hv).1,if_neg hk];simp
 |p::P,w::vs,i+1,m,nd,h1,h2,hk=>by
  show bindC kindOf ((p,w)::P.zip vs) m x=_;unfold bindC;exact ZbK (i:=i) (List.nodup_cons.mp nd).2 (by simpa using h1) (by simpa using h2) hk
def start(N:List Str)(vs:List V):St:=vs.map some++List.replicate (N.length-vs.length) none
def Xq(CX:CXT)(P:Program)(w:World)(K:PySem.W.Frag)(mg:Str->Option Value)(base:Heap)(N:List Str)(qual:Str)(scope:Scope)(f:Addr)(cd:Value)(A:Around)(outer:List Env)(s:Shared)(H:Hp)(E:XK):Cx where
 prog:=P
 w:=w
 K:=K
 mg:=mg
 base:=base
 A:=A.deeper (envOfC qual scope s.heap.objs.size f cd)
 N:=N
 s₀:=s
 H₀:=H
 env:=envOfC qual scope s.heap.objs.size f cd
 outer:=outer
 stack:=envOfC qual scope s.heap.objs.size f cd::outer
 ex:=[]
 calm:=true
 fn:=λ_=>true
 pn:=[]
 xe:=λe s'=>wpAny (model P w) (A.deeper (envOfC qual scope s.heap.objs.size f cd)) (leaving (envOfC qual scope s.heap.objs.size f cd) e) (λ_ s''=>CX outer H s E e s'') (λe' s''=>CX outer H s E e' s'') s'
theorem ZcH{sc:Scope}{n:Nat}{x:Str}(h:sc.names.lookup x=some .cell):∃c,(cellsFrom n sc.names []).lookup x=some c:=by
 have q:=PySem.W.cellsFrom_some sc.names n [] (.inl h);exact Option.isSome_iff_exists.mp q
theorem Zeo {CX:CXT} {P:Program} {w:World} {K:PySem.W.Frag} {mg:Str->Option Value} {base:Heap} {N ps:List Str} {qual:Str} {scope:Scope} {f:Addr} {cd:Value} {A:Around} {outer:List Env} {s s1:Shared} {H:Hp} {E:XK} {us:List Value} {vs:List V}
 (S:FnScope N ps scope) (hd:A.handled=none) (e0:Env0 P w K mg base A outer s H) (hl:vs.length=ps.length) (r:Vals vs us)
 (x:InCallC s s.heap.objs.size (bindL (envOfC qual scope s.heap.objs.size f cd).kindOf (ps.zip us) λ_=>none) (cellsFrom (s.heap.objs.size+1) scope.names []) (bindC (envOfC qual scope s.heap.objs.size f cd).kindOf (ps.zip us) λ_=>none) s1) :
 Inv (Xq CX P w K mg base N qual scope f cd A outer s H E) [] (start N vs) H s1:=by
 have hpl:ps.length<=N.length:=by have:=congrArg List.length S.pre;rw [List.length_take]at this;omega
 obtain⟨h1,tk,rfl,hk⟩:=x.done;have noA:∀b:Addr,b∉(Xq CX P w K mg base N qual scope f cd A outer s H E).ex:=λb z=>absurd (show b∈([]:List Addr)from z) (by simp)
 refine⟨⟨e0.mod,S.kind,rfl,rfl,Nat.le_refl _,λy z c h1 h2 => ?_,λy hy => ?_,λy c _ h => ?_,λ_=>hd,Around.frames_deeper e0.frames,.inr ⟨rfl,rfl⟩,λb z=>absurd z (noA b),e0.bs,e0.bsz,λb _ _=>noA b,λb z=>absurd z (noA b),e0.funs,e0.frf⟩,
  rfl,e0.bare,Un.kept hk,⟨_,x.toInCall.ns,λi y v h1 h2 h3 => ?_⟩,λy c h=>⟨_,x.cell y c h⟩,e0.hok.fresh (Nat.le_refl _),λy c h => ?_,λp hp=>absurd (show p∈([]:List (Addr×Obj))from hp) (by simp),e0.hok.kept hk,?_⟩
 · exact name_of_addr x.apart (PySem.mem_of_lookup h1) (PySem.mem_of_lookup h2)
 · have hy:scope.names.lookup y=some .cell\/scope.names.lookup y=some .free:=hy
   rcases hy with hy|hy
   · exact ZcH hy
   · exact absurd rfl (S.nofree _ (PySem.mem_of_lookup hy))
 · exact Nat.le_of_lt (x.above y c (PySem.mem_of_lookup h))
 · have hi : i < vs.length := by
    unfold start at h2
    by_cases hi:i<vs.length
    · exact hi
    · rw [List.getElem?_append_right (by simpa using hi)]at h2
      rw [List.getElem?_replicate]at h2
      split at h2<;>cases h2
   have ha:vs[i]? = some v:=by
    unfold start at h2;rw [List.getElem?_append_left (by simpa using hi),List.getElem?_map]at h2;cases e:vs[i]? with
    |none=>rw [e]at h2;cases h2
    |some a=>rw [e]at h2;cases h2;rfl
   obtain⟨u,hu,rv⟩:=r.get ha
   have hp:ps[i]? = some y:=by
    rw [<-S.pre,List.getElem?_take_of_lt (by omega)];exact h1
   have ndP:ps.Nodup:=by rw [<-S.pre];exact S.nd.sublist (List.take_sublist _ _)
   refine⟨u,rv,?_⟩;rcases S.par y (List.mem_of_getElem? hp)with k|k
   · exact .inl ⟨k,ZbJ ndP hp hu k⟩
   · obtain⟨c,e⟩:=ZcH (n:=s.heap.objs.size+1) k
     refine .inr ⟨.inl k,c,e,?_⟩;have q:=x.cell y c e;rw [ZbK ndP hp hu (by show scope.names.lookup y≠_;rw [k];decide)]at q;exact q
 · exact e0.hok.fresh (Nat.le_of_lt (x.above y c (PySem.mem_of_lookup h)))
 · unfold start
   show _=N.length;rw [List.length_append,List.length_map,List.length_replicate];omega
theorem ZgC {CX:CXT} {P:Program} {w:World} {K:PySem.W.Frag} {mg:Str->Option Value} {base:Heap} {k:Nat} {f:Addr} {name qual:Str} {params:Arguments} {body:List Stmt} {scope:Scope} {dV kV doc pm cdv ct oc:Value} {an od:Option Addr}
 {osl:Array (Option Value)} {N ps:List Str} {sp:Sp} (lk:K.lookup f=some ⟨oc,od,.func (fnOf name qual params body scope dV kV doc pm an cdv ct),osl⟩) (hcd:codeIn K cdv qual=true) (S:FnScope N ps scope)
 (len:∀vs H Q E,sp vs H Q E->vs.length=ps.length)
 (hbody:∀(A:Around)(outer:List Env)(s:Shared)(H:Hp)(vs:List V)(Q:VK)(E:XK),Room k (A.deeper (envOfC qual scope s.heap.objs.size f cdv))->sp vs H Q E ->
   ∃t,PSs (Xq CX P w K mg base N qual scope f cdv A outer s H E) body t/\t { nx:=λ_ H'=>Q .non H',rt:=Q } (start N vs) H) :
 FnOk P w K mg base CX (k+1) f (fnOf name qual params body scope dV kV doc pm an cdv ct) ps sp:=by
 refine⟨len,λA outer s H args us vs Q E hr e0 hb r hsp => ?_⟩;have hl:=len _ _ _ _ hsp;have KX:K.In s.heap:=e0.mod.kin.keeps λb o e=>(e0.bs b o e).1
 have lim:s.heap.NoLimit:=e0.mod.nolimit.keeps λb o e=>(e0.bs b o e).1
 have hkind:∀y∈ps.zip us,scope.names.lookup y.1=some .local\/(scope.names.lookup y.1=some .cell/\((cellsFrom (s.heap.objs.size+1) scope.names []).lookup y.1).isSome=true):=λ⟨n,v⟩ hy=>by
  rcases S.par n (List.of_mem_zip hy).1 with q|q
  · exact .inl q
  · exact .inr ⟨q,PySem.W.cellsFrom_some _ _ _ (.inl q)⟩
 refine codeAny_call_function hr.depth (KX _ _ lk) rfl S.co S.gen rfl (PySem.W.codeRec_of KX hcd) (hb _ _ _ _ ?_);refine wpAny_newFunctionEnv_cells S.kind hkind λenv he s1 x => ?_
 subst he;refine⟨lim.keeps x.toInCall.keep,codeAny_func ?_⟩;obtain⟨t,ht,hq⟩:=hbody A outer s H vs Q E (hr.deeper _) hsp;have I:Inv (Xq CX P w K mg base N qual scope f cdv A outer s H E) [] (start N vs) H s1:=Zeo S hr.hd e0 hl r x;refine wpAny_mono (ht [] s1 (start N vs) H _ I hq) (λfl s' hs => ?_) λe s' hs=>hs
 have fin:∀{σ':St}{H':Hp}{v:V}{u:Value},Inv (Xq CX P w K mg base N qual scope f cdv A outer s H E) [] σ' H' s'->RelV v u->Q v H'->CE outer P w H s Q u s':=
  λ{σ' H' v u} J rv q=>⟨v,H',J.os,J.bare,J.base,J.hok,rv,q⟩
 cases fl with
 |ret u=>
  obtain⟨v,σ',H',J,rv,q⟩:=hs;exact fin J rv q
 |next=>
  obtain⟨σ',H',J,q⟩:=hs;exact fin (v:=V.non) (u:=Value.none) J rfl q
 |brk=>
  obtain⟨_,_,_,q⟩:=hs;exact False.elim q
 |cont=>
  obtain⟨_,_,_,q⟩:=hs;exact False.elim q
end L2
namespace L2
open PySem PySem.Spec PyProof.Rows
section
variable{X:Cx}{x:Str}{p pos:Pos}{e:Expr}{es:List Expr}{t:TA}{id T:String}{r:List V->Hp->VK->Prop}
def tCB(r:List V->Hp->VK->Prop)(t:TA):TE:=λσ H Q=>t σ H λvs H1=>r vs H1 Q
theorem Yq (hc:Y5 X (.builtin id) r) (hg:Gl X x) (hm:X.mg x=none) (hv:bootBuiltins x=some (.builtin id)) (ha:PA X (e::es) t) (hn:x ≠ "__name__" := by decide) (hdb:(x == ("__debug__" : Str))=false:=by decide)
 (he:starEach (e::es) X.env=(false,eval e X.env)::starEach es X.env:=by rfl) (hpl:(backTo pos (starEach es X.env)).any (·.1)=false:=by rfl):PE X (.Call (.Name x p) (e::es) [] pos) (tCB r t):=by
 intro pins s σ H Q I h;refine wpAny_Call_Name_kw (Qv I hg hm hv ?_ hn hdb);exact PyProof.Rows.callWith_builtin1 (thn (ha pos pins s σ H _ I h) λus s1 ⟨vs,H1,I1,r1,q1⟩=>hc pins s1 σ H1 vs us Q I1 r1 q1) he hpl
theorem QC (hc:Y5 X (.type T) r) (hg:Gl X x) (hm:X.mg x=none) (hv:bootBuiltins x=some (.type T)) (ha:PA X (e::es) t) (hn:x ≠ "__name__" := by decide) (hdb:(x == ("__debug__" : Str))=false:=by decide)
 (he:starEach (e::es) X.env=(false,eval e X.env)::starEach es X.env:=by rfl) (hpl:(backTo pos (starEach es X.env)).any (·.1)=false:=by rfl):PE X (.Call (.Name x p) (e::es) [] pos) (tCB r t):=by
 intro pins s σ H Q I h;refine wpAny_Call_Name_kw (Qv I hg hm hv ?_ hn hdb);exact PyProof.Rows.callWith_type1 (thn (ha pos pins s σ H _ I h) λus s1 ⟨vs,H1,I1,r1,q1⟩=>hc pins s1 σ H1 vs us Q I1 r1 q1) he hpl
end
end L2
namespace HT
open PySem PyProof.Rows
section
open PySem.SeqAt
open PySem.AutoSeq1 (wpAny_loadPart')
open PySem.MeetsSeq PySem.MeetsSeq2 PySem.MeetsSeq3
end
section
variable{prog:Program}{w:World}{A:Around}{E:Value->Shared->Prop}{s:Shared}
def sIx(n d:Nat):Option Int->Nat
 |none=>d
 |some v=>if v<0 then(v+(n:Int)).toNat else min v.toNat n
theorem ZiA(n d:Nat)(hd:d<=n)(o:Option Int):sIx n d o<=n:=by
 cases o with
 |none=>exact hd
 |some v=>
  show(if v<0 then(v+(n:Int)).toNat else min v.toNat n)<=n
  by_cases hv:v<0
  · rw [if_pos hv];omega
  · rw [if_neg hv];exact Nat.min_le_right _ _
theorem ZdP(v:Int)(n d:Nat):(if v<0 then max (v+(n:Int)) 0 else min v (n:Int))=((sIx n d (some v):Nat):Int):=by
 show(if v<0 then max (v+(n:Int)) 0 else min v (n:Int))=(((if v<0 then(v+(n:Int)).toNat else min v.toNat n):Nat):Int)
 by_cases hv:v<0
 · simp only [if_pos hv];omega
 · simp only [if_neg hv];omega
theorem Zdi(lo hi:Option Int)(n:Nat):Builtin.Slice.sliceAdjust lo hi 1 (n:Int)=(((sIx n 0 lo:Nat):Int),((sIx n n hi:Nat):Int)):=by
 have h1:¬((1:Int)<0):=by omega
 unfold Builtin.Slice.sliceAdjust;simp only [h1,if_false];refine Prod.ext ?_ ?_
 · cases lo with
   |none=>rfl
   |some v=>exact ZdP v n 0
 · cases hi with
   |none=>rfl
   |some v=>exact ZdP v n n
theorem Zdj(i j:Nat):Builtin.Slice.slicePlaces (i:Int) (j:Int) 1=j-i:=by
 unfold Builtin.Slice.slicePlaces;have h1:(1:Int)>0:=by omega
 simp only [h1,if_true,Int.ediv_one]
 split<;>omega
theorem ZaZ{v:Value}{o:Option Int}{Q:Option Int->Shared->Prop}(p:IsPart v o)(h:Q o s):wpAny (model prog w) A (Builtin.Slice.slicePartIndex v) Q E s:=by
 cases p with
 |none=>exact slicePart_none h
 |int i t=>exact slicePart_int h
theorem ZaC {sl:Addr} {vl vu:Value} {lo hi:Option Int} {n:Nat} {Q:Int×Int×Nat->Shared->Prop} (hs:s.heap.IsSliceOf sl vl vu .none) (pl:IsPart vl lo) (pu:IsPart vu hi)
 (h:Q (((sIx n 0 lo:Nat):Int),1,sIx n n hi-sIx n 0 lo) s):wpAny (model prog w) A (Builtin.Slice.sliceApplied (.ref sl) (pure (n:Int))) Q E s:=by
 obtain⟨os,hos,hcs,hds⟩:=id hs;unfold Builtin.Slice.sliceApplied Builtin.Slice.sliceFields;refine wpAny_bind (wpAny_bind (wpAny_field hos hds (x:=vl) rfl (wpAny_bind (wpAny_field hos hds (x:=vu) rfl (wpAny_bind (wpAny_field hos hds (x:=.none) rfl (wpAny_pure ?_)))))));refine wpAny_bind (slicePart_none ?_);show wpAny _ _ (if((1:Int) == 0)=true then _ else _) _ _ s;rw [if_neg (by decide)]
 refine wpAny_bind (ZaZ pl (wpAny_bind (ZaZ pu (wpAny_bind (wpAny_pure ?_)))));show wpAny _ _ (match Builtin.Slice.sliceAdjust lo hi 1 (n:Int)with|(lo,hi)=>pure (lo,(1:Int),Builtin.Slice.slicePlaces lo hi 1)) _ _ s;rw [Zdi lo hi n];show wpAny _ _ (pure (((sIx n 0 lo:Nat):Int),(1:Int),Builtin.Slice.slicePlaces ((sIx n 0 lo:Nat):Int) ((sIx n n hi:Nat):Int) 1)) _ _ s;rw [Zdj]
 exact wpAny_pure h
theorem Zfd(xs:Array Value)(i k:Nat):((List.range k).filterMap λ(m:Nat)=>xs[((i:Int)+(m:Int)*1).toNat]?).toArray=((xs.toList.drop i).take k).toArray:=by
 have e:(λ(m:Nat)=>xs[((i:Int)+(m:Int)*1).toNat]?)=λm=>xs[i+m]? := by
  funext m
  have:((i:Int)+(m:Int)*1).toNat=i+m:=by omega
  rw [this]
 rw [e];have:=pick_run xs i k;rw [List.filterMap_map]at this;have e2:((λx=>xs[x]?)∘λx=>i+x)=λm=>xs[i+m]? := rfl
 rw [e2]at this;rw [this]
theorem getItem_tuple_cut {t sl:Addr} {items:Array Value} {vl vu:Value} {lo hi:Option Int} {Q:Value->Shared->Prop} (ht:IsTup s.heap t items) (hs:s.heap.IsSliceOf sl vl vu .none) (pl:IsPart vl lo) (pu:IsPart vu hi)
 (hw:¬(sIx items.size 0 lo=0/\sIx items.size items.size hi=items.size))
 (h:Q (.ref s.heap.objs.size) { s with heap:=s.heap.push { cls := .type "tuple",data := .seq ((items.toList.drop (sIx items.size 0 lo)).take (sIx items.size items.size hi-sIx items.size 0 lo)).toArray } })
 (hsz:items.size<=sizeLine):wpAny (model prog w) A (getItem (.ref t) (.ref sl)) Q E s:=by
 have htake:sizeOk (.seq ((items.toList.drop (sIx items.size 0 lo)).take (sIx items.size items.size hi-sIx items.size 0 lo)).toArray):=by
  show((items.toList.drop (sIx items.size 0 lo)).take (sIx items.size items.size hi-sIx items.size 0 lo)).toArray.size<=sizeLine;rw [List.size_toArray,List.length_take,List.length_drop,Array.length_toList];omega
 have hj:sIx items.size items.size hi<=items.size:=ZiA _ _ (Nat.le_refl _) hi;obtain⟨os,hos,hcs,hds⟩:=id hs;have hTs:s.TypeIs (.ref sl) "slice" := ⟨os,hos,hcs⟩
 unfold getItem
 try with_reducible refine wpAny_holding ?_
 first|refine wpAny_bind (wpAny_pure ?_)|skip
 refine wpAny_bind (wpAny_sequenceKey ht.typeIs (by decide) ?_)
 refine wpAny_bind (wpAny_callSpecial?_slot (name:=Str.ofString "__getitem__") ht.typeIs PyProof.Rows.slot_tuple_getitem
  (wpAny_call_entry PyProof.Rows.slot_tuple_getitem ht.typeIs entry_tuple_getitem ?_ (args_tuple_getitem _ _)))
 show wpAny _ _ (Builtin.Tuple.tupleItemsOf (.ref t) >>= _) _ _ s;refine wpAny_bind (tupleItemsOf_ ht ?_);refine wpAny_bind (wpAny_typeOf hTs ?_);rw [if_pos (by decide)];refine wpAny_bind (ZaC hs pl pu ?_)
 have hno:¬((((sIx items.size 0 lo:Nat):Int) == 0&&(1:Int) == 1&&(sIx items.size items.size hi-sIx items.size 0 lo) == items.size)=true):=by
  intro q;rw [Bool.and_eq_true,Bool.and_eq_true]at q;have q1:((sIx items.size 0 lo:Nat):Int)=0:=eq_of_beq q.1.1;have q2:sIx items.size items.size hi-sIx items.size 0 lo=items.size:=eq_of_beq q.2;exact hw ⟨by omega,by omega⟩
 show wpAny _ _ (if(((sIx items.size 0 lo:Nat):Int) == 0&&(1:Int) == 1&&(sIx items.size items.size hi-sIx items.size 0 lo) == items.size)=true then _ else _) _ _ s;rw [if_neg hno,Zfd]
 first
  |exact wpAny_bind (m:=Builtin.Tuple.tupleExact _) (wpAny_newObj_type (wpAny_pure ⟨_,rfl,wpAny_pure h⟩) htake)
  |exact wpAny_bind (m:=Builtin.Tuple.tupleExact _) (wpAny_newObj_type (wpAny_bind (wpAny_pure (wpAny_pure ⟨_,rfl,wpAny_pure h⟩))) htake)
  |exact wpAny_bind (wpAny_bind (m:=Builtin.Tuple.tupleExact _) (wpAny_newObj_type (wpAny_pure (wpAny_pure ⟨_,rfl,wpAny_pure h⟩)) htake))
  |exact wpAny_bind (wpAny_bind (m:=Builtin.Tuple.tupleExact _) (wpAny_newObj_type (wpAny_pure ⟨_,rfl,wpAny_pure h⟩) htake))
end
end HT
namespace L2
open PySem PySem.Spec PyProof.Rows
abbrev TO:=St->Hp->(Option Int->Hp->Prop)->Prop
def PO(X:Cx)(e:Option Expr)(t:TO):Prop:=
 ∀(pins:List (Addr×Obj))(s:Shared)(σ:St)(H:Hp)(Q:Option Int->Hp->Prop),Inv X pins σ H s->t σ H Q ->
  wpAny (model X.prog X.w) X.A (evalPart e X.env) (λu s'=>∃o H',Inv X pins σ H' s'/\IsPart u o/\Q o H') X.xe s
def tNoPart:TO:=λ_ H Q=>Q none H
def ZhU(t:TE):TO:=λσ H Q=>t σ H λx H1=>∃i,x = .int i/\Q (some i) H1
section
variable{X:Cx}{e:Expr}{te:TE}{lo hi:Option Expr}{tl th:TO}{pos p2:Pos}
theorem XD:PO X none tNoPart:=by
 intro pins s σ H Q I h;rw [evalPart_none];exact wpAny_pure ⟨none,H,I,.none,h⟩
theorem Xr(h:PE X e te):PO X (some e) (ZhU te):=by
 intro pins s σ H Q I hw;rw [evalPart_some];refine thn (h pins s σ H _ I hw) λu s1 ⟨x,H1,I1,r1,q1⟩ => ?_
 obtain⟨i,rfl,q⟩:=q1;obtain⟨t,rfl⟩:=r1;exact⟨some i,H1,I1,.int i t,q⟩
def SlR(X:Cx)(r:V->Option Int->Option Int->Hp->VK->Prop):Prop:=
 ∀(pins:List (Addr×Obj))(s:Shared)(σ:St)(H:Hp)(x:V)(v vl vu:Value)(lo hi:Option Int)(sl:Addr)(Q:VK),Inv X pins σ H s->RelV x v->s.heap.IsSliceOf sl vl vu .none->IsPart vl lo->IsPart vu hi->r x lo hi H Q ->
  ∃T id,typeLookup (.type T) "__getitem__" = pure (some (.builtin id))/\s.TypeIs v T/\wpAny (model X.prog X.w) X.A (getItem v (.ref sl)) (EP X pins σ Q) X.xe s
theorem SlR.or{r r':V->Option Int->Option Int->Hp->VK->Prop}(h:SlR X r)(h':SlR X r'):SlR X (λx lo hi H Q=>r x lo hi H Q\/r' x lo hi H Q):=by
 intro pins s σ H x v vl vu lo hi sl Q I rx hs pl pu q;rcases q with q|q
 · exact h pins s σ H x v vl vu lo hi sl Q I rx hs pl pu q
 · exact h' pins s σ H x v vl vu lo hi sl Q I rx hs pl pu q
def tSl(r:V->Option Int->Option Int->Hp->VK->Prop)(te:TE)(tl th:TO):TE:=λσ H Q=>te σ H λx H1=>tl σ H1 λl H2=>th σ H2 λu H3=>r x l u H3 Q
theorem XE{r:V->Option Int->Option Int->Hp->VK->Prop}(hr:SlR X r)(he:PE X e te)(hl:PO X lo tl)(hu:PO X hi th):PE X (.Subscript e (.Slice lo hi none p2) pos) (tSl r te tl th):=by
 intro pins s σ H Q I h;refine Subscript_ (thn (he pins s σ H _ I h) λv s1 ⟨x,H1,I1,r1,q1⟩ => ?_);refine wpAny_Slice (thn (hl pins s1 σ H1 _ I1 q1) λvl s2 ⟨l,H2,I2,pl,q2⟩=>thn (hu pins s2 σ H2 _ I2 q2) λvu s3 ⟨u,H3,I3,pu,q3⟩ => ?_);rw [evalPart_none];refine wpAny_pure ?_;have I4:Inv X pins σ H3 { s3 with heap:=s3.heap.push { cls := .type "slice",data := .fields #[vl,vu,.none] } }:=I3.kept (t':=s3.toks) λb ob q=>Heap.get?_push_of_some _ q
 obtain⟨T,id,hT,ht,hg⟩:=hr pins { s3 with heap:=s3.heap.push { cls := .type "slice",data := .fields #[vl,vu,.none] } } σ H3 x v vl vu l u s3.heap.objs.size Q I4 r1 (Heap.IsSliceOf.new ..) pl pu q3;show wpAny (model X.prog X.w) X.A (subscriptTail e (.Slice lo hi none p2) v (.ref s3.heap.objs.size)) (EP X pins σ Q) X.xe { s3 with heap:=s3.heap.push { cls := .type "slice",data := .fields #[vl,vu,.none] } }
 exact tail_any (ops:=[.ref s3.heap.objs.size,v]) ht hT hg (by with_unfolding_all rfl)
def UH(xs:List V)(lo hi:Option Int):List V:=(xs.drop (HT.sIx xs.length 0 lo)).take (HT.sIx xs.length xs.length hi-HT.sIx xs.length 0 lo)
theorem ZaU(xs:List V)(lo hi:Option Int):(UH xs lo hi).length<=xs.length:=by
 unfold UH;rw [List.length_take,List.length_drop];omega
def ZmR(K:PySem.W.Frag):V->Option Int->Option Int->Hp->VK->Prop:=λx lo hi H Q=>∃a xs,x = .ref a/\SqT K H a xs /\
 ¬(HT.sIx xs.length 0 lo=0/\HT.sIx xs.length xs.length hi=xs.length)/\∀p,H p=none->Q (.ref p) (upd H p (.tup (UH xs lo hi)))
theorem ZiB:SlR X (ZmR X.K):=by
 intro pins s σ H x v vl vu lo hi sl Q I rx hs pl pu h;obtain⟨a,xs,rfl,hx,hw,q⟩:=h;cases rx;obtain⟨its,r,ht,hz⟩:=I.tuple hx;have hlen:its.toArray.size=xs.length:=by rw [List.size_toArray];exact r.length.symm
 refine⟨"tuple",_,PyProof.Rows.slot_tuple_getitem.lookup,ht.typeIs,?_⟩;refine HT.getItem_tuple_cut ht hs pl pu (by rw [hlen];exact hw) ?_ (by rw [hlen];exact hz);rw [hlen];refine⟨.ref s.heap.objs.size,_,I.laid (t':=s.toks) (o:=.tup (UH xs lo hi)) (λb ob q=>Heap.get?_push_of_some _ q) (Nat.le_refl _) ?_,rfl,q _ (I.hok.fresh (Nat.le_refl _))⟩;exact⟨Nat.le_trans (ZaU xs lo hi) hz,_,(r.drop (HT.sIx xs.length 0 lo)).take (HT.sIx xs.length xs.length hi-HT.sIx xs.length 0 lo),TupN.new _ _⟩
end
end L2
namespace L2
open PySem PySem.Spec PyProof.Rows
def ixN(n:Nat)(i:Int):Option Nat:=if 0<=i then(if i<n then some i.toNat else none)else if -(n:Int)<=i then some (i+n).toNat else none
def atI{α:Type}(xs:List α)(i:Int):Option α:=(ixN xs.length i).bind λj=>xs[j]?
theorem ZgX{n:Nat}{i:Int}{j:Nat}(h:ixN n i=some j):seqIndex? i n=some j/\j<n /\ -(n:Int)<=i/\i<n:=by
 unfold ixN at h
 by_cases h0:0<=i
 · rw [if_pos h0]at h
   by_cases h1:i<n
   · rw [if_pos h1]at h
     have e:i.toNat=j:=Option.some.inj h;exact⟨by rw [seqIndex_of h0 h1,e],by omega,by omega,h1⟩
   · rw [if_neg h1]at h;cases h
 · rw [if_neg h0]at h
   by_cases h1 : -(n:Int)<=i
   · rw [if_pos h1]at h
     have e:(i+n).toNat=j:=Option.some.inj h;exact⟨by rw [seqIndex_neg (by omega) h1,e],by omega,h1,by omega⟩
   · rw [if_neg h1]at h;cases h
theorem Zb9{α:Type}{xs:List α}{i:Int}{v:α}(h:atI xs i=some v):∃j,seqIndex? i xs.length=some j/\xs[j]? = some v/\j<xs.length /\ -(xs.length:Int)<=i/\i<xs.length:=by
 unfold atI at h;cases e:ixN xs.length i with
 |none=>rw [e]at h;cases h
 |some j=>
  rw [e]at h;obtain⟨h1,h2,h3,h4⟩:=ZgX e;exact⟨j,h1,h,h2,h3,h4⟩
theorem Zbb{α:Type}{xs:List α}{j:Nat}{v:α}(h:xs[j]? = some v):atI xs (j:Int)=some v:=by
 have hj:j<xs.length:=(List.getElem?_eq_some_iff.mp h).1
 have e:ixN xs.length (j:Int)=some j:=by
  unfold ixN;rw [if_pos (by omega),if_pos (by omega)];simp
 unfold atI;rw [e];exact h
theorem Zfe{α:Type}(xs:List α)(v:α):atI (xs++[v]) (-1)=some v:=by
 have hl:(xs++[v]).length=xs.length+1:=by simp
 have e:ixN (xs++[v]).length (-1)=some xs.length:=by
  unfold ixN;rw [hl,if_neg (by decide),if_pos (by omega)]
  congr 1
  omega
 unfold atI;rw [e];show(xs++[v])[xs.length]? = some v;simp
def ZgY(b:Expr):Prop:=∀o i,subscripted b false o i=operate [o,i] (getItem o i)
def IxR(X:Cx)(r:R2):Prop:=
 ∀(value slice:Expr)(pins:List (Addr×Obj))(s:Shared)(σ:St)(H:Hp)(x y:V)(v u:Value)(Q:VK),Inv X pins σ H s->RelV x v->RelV y u->r x y H Q ->
  subscripted slice false v u=operate [v,u] (getItem v u)->wpAny (model X.prog X.w) X.A (subscriptTail value slice v u) (EP X pins σ Q) X.xe s
def MtR(X:Cx)(id:String)(r:V->List V->Hp->VK->Prop):Prop:=
 ∀(pins:List (Addr×Obj))(s:Shared)(σ:St)(H:Hp)(x:V)(xs:List V)(v:Value)(us:List Value)(Q:VK),Inv X pins σ H s->RelV x v->Vals xs us->r x xs H Q ->
  wpAny (model X.prog X.w) X.A (call (.builtin id) (v::us)) (EP X pins σ Q) X.xe s
section
variable{X:Cx}{a b:Expr}{ta tb:TE}{pos:Pos}
theorem IxR.or{r r':R2}(h:IxR X r)(h':IxR X r'):IxR X (λx y H Q=>r x y H Q\/r' x y H Q):=by
 intro value slice pins s σ H x y v u Q I rx ry q hs;rcases q with q|q
 · exact h value slice pins s σ H x y v u Q I rx ry q hs
 · exact h' value slice pins s σ H x y v u Q I rx ry q hs
theorem Z8{r:R2}(hr:IxR X r)(ha:PE X a ta)(hb:PE X b tb)(hs:ZgY b):PE X (.Subscript a b pos) (tOp r ta tb):=by
 intro pins s σ H Q I h;exact Subscript_ (ZkL ha hb I h λv u s2 x y H2 I2 rx ry q=>hr a b pins s2 σ H2 x y v u Q I2 rx ry q (hs _ _))
def ZmS(K:PySem.W.Frag):R2:=λx y H Q=>∃p xs i v,x = .ref p/\y = .int i/\SqL K H p xs/\atI xs i=some v/\Q v H
def ZmT(K:PySem.W.Frag):R2:=λx y H Q=>∃p xs i v,x = .ref p/\y = .int i/\SqT K H p xs/\atI xs i=some v/\Q v H
def rIxS:R2:=λx y H Q=>∃z i c,x = .str z/\y = .int i/\z.length<=sizeLine/\atI z.cps.toList i=some c/\Q (.str ⟨#[c]⟩) H
theorem ix_list:IxR X (ZmS X.K):=by
 intro value slice pins s σ H x y v u Q I rx ry h hs;obtain⟨p,xs,i,z,rfl,rfl,hq,he,q⟩:=h;cases rx;obtain⟨t,rfl⟩:=ry;obtain⟨its,r,pl,hz⟩:=I.list hq;obtain⟨j,h1,h2,h3,h4,h5⟩:=Zb9 he;obtain⟨w,ew,rw'⟩:=r.get h2;have hl:=r.length;have hn:=Jd;have fin:EP X pins σ Q w s:=⟨z,H,I,rw',q⟩
 by_cases h0:0<=i
 · have hj : i.toNat = j := by
    rw [seqIndex_of h0 h5]at h1;exact Option.some.inj h1
   exact item_listR pl.isList h0 (by omega) (by rw [hj];simpa using ew) fin hs
 · have hj : (i + (its.toArray.size : Int)).toNat = j := by
    rw [seqIndex_neg (by omega) h4]at h1;rw [List.size_toArray,<-hl];exact Option.some.inj h1
   exact subscriptTail_builtinR (x:=w) pl.isList.typeIs slot_list_getitem.lookup
    (wpAny_getItem_list_neg (Q:=λr s'=>r=w/\EP X pins σ Q r s') pl.isList (by omega) (by rw [List.size_toArray]<;>omega) (by omega) (by rw [hj];simpa using ew) ⟨rfl,fin⟩) hs
theorem ix_tup:IxR X (ZmT X.K):=by
 intro value slice pins s σ H x y v u Q I rx ry h hs;obtain⟨p,xs,i,z,rfl,rfl,hq,he,q⟩:=h;cases rx;obtain⟨t,rfl⟩:=ry;obtain⟨its,r,pl,hz⟩:=I.tuple hq;obtain⟨j,h1,h2,h3,h4,h5⟩:=Zb9 he;obtain⟨w,ew,rw'⟩:=r.get h2;have hl:=r.length;have hn:=Jd;have fin:EP X pins σ Q w s:=⟨z,H,I,rw',q⟩
 exact subscriptTail_builtinR (x:=w) pl.typeIs slot_tuple_getitem.lookup
  (getItem_tuple (j:=j) (Q:=λr s'=>r=w/\EP X pins σ Q r s') pl (by omega) (by omega) (by rw [List.size_toArray,<-hl];exact h1) (by simpa using ew) ⟨rfl,fin⟩) hs
theorem ZiC:IxR X rIxS:=by
 intro value slice pins s σ H x y v u Q I rx ry h hs;obtain⟨z,i,c,rfl,rfl,hz,he,q⟩:=h;obtain⟨t,rfl⟩:=rx;obtain⟨t',rfl⟩:=ry;obtain⟨j,h1,h2,h3,h4,h5⟩:=Zb9 he;have hl:z.cps.toList.length=z.length:=by simp [Str.length]
 rw [hl]at h1 h4 h5;have hn:=Jd
 exact tail_any (typeIs_str s z t) slot_str_getitem.lookup (getItem_str (c:=c) (by
  have e1:decide (i < -(2 ^ 63:Int))=false:=decide_eq_false (by omega);have e2:decide (i ≥ 2 ^ 63)=false:=decide_eq_false (by omega);rw [e1,e2,Bool.or_false]) (by rw [h1];simpa using h2) ⟨.str ⟨#[c]⟩,H,I.tok _,⟨_,rfl⟩,q⟩) hs
theorem Inv.lst{pins:List (Addr×Obj)}{σ:St}{H:Hp}{s:Shared}{p:Addr}{xs:List V}(I:Inv X pins σ H s)(h:H p=some (.lst xs)) :
 ∃(its:List Value) (n:Nat),Vals xs its/\s.heap.get? p=some { cls := .type "list",data := .seq its.toArray n }/\xs.length<=sizeLine:=by
 obtain⟨z,its,n,r,e⟩:=I.hok p _ h;exact⟨its,n,r,e,z⟩
theorem Zb0(lo hi:Option Int)(n:Nat):(sliceBounds lo hi none n).1=((HT.sIx n 0 lo:Nat):Int)/\(sliceBounds lo hi none n).2.1=((HT.sIx n n hi:Nat):Int)/\(sliceBounds lo hi none n).2.2=1:=by
 refine⟨?_,?_,rfl⟩
 · cases lo with
   |none=>simp [sliceBounds,HT.sIx]
   |some i=>
    simp only [sliceBounds,HT.sIx,Option.getD_none,show(1:Int)>0 by decide,if_true]
    by_cases h:i<0
    · simp only [h,if_true]<;>omega
    · simp only [h,if_false]<;>omega
 · cases hi with
   |none=>simp [sliceBounds,HT.sIx]
   |some i=>
    simp only [sliceBounds,HT.sIx,Option.getD_none,show(1:Int)>0 by decide,if_true]
    by_cases h:i<0
    · simp only [h,if_true]<;>omega
    · simp only [h,if_false]<;>omega
theorem Zbz(its:List Value)(lo hi:Option Int):slicePick its.toArray lo hi none=((its.drop (HT.sIx its.length 0 lo)).take (HT.sIx its.length its.length hi-HT.sIx its.length 0 lo)).toArray:=by
 obtain⟨h1,h2,h3⟩:=Zb0 lo hi its.toArray.size;unfold slicePick;rw [h1,h2,h3];simp only [sliceRange_one,pick_run,List.size_toArray]<;>rfl
def ZmU(K:PySem.W.Frag):V->Option Int->Option Int->Hp->VK->Prop:=λx lo hi H Q=>∃a xs,x = .ref a/\SqL K H a xs/\∀p,H p=none->Q (.ref p) (upd H p (.lst (UH xs lo hi)))
theorem sl_list:SlR X (ZmU X.K):=by
 intro pins s σ H x v vl vu lo hi sl Q I rx hs pl pu h;obtain⟨a,xs,rfl,hx,q⟩:=h;cases rx;obtain⟨its,r,ht,hz⟩:=I.list hx;have hlen:=r.length;refine⟨"list",_,slot_list_getitem.lookup,ht.isList.typeIs,?_⟩;refine wpAny_getItem_list_slice ht.isList hs pl pu .none (by simp) ?_ (by rw [List.size_toArray]<;>omega);rw [Zbz,<-hlen];refine⟨.ref s.heap.objs.size,_,I.laid (t':=s.toks) (o:=.lst (UH xs lo hi)) (λb ob q=>Heap.get?_push_of_some _ q) (Nat.le_refl _) ?_,rfl,q _ (I.hok.fresh (Nat.le_refl _))⟩
 exact⟨Nat.le_trans (ZaU xs lo hi) hz,_,0,(r.drop (HT.sIx xs.length 0 lo)).take (HT.sIx xs.length xs.length hi-HT.sIx xs.length 0 lo),Heap.get?_push_size _ rfl⟩
def V3:V->Bool
 | .non=>true
 | .bl _=>true
 | .int _=>true
 | .str _=>true
 |_=>false
def eqV:V->V->Bool
 | .non,.non=>true
 | .bl a,.bl b=>a == b
 | .bl a,.int b=>(if a then 1 else 0) == b
 | .int a,.bl b=>a == (if b then 1 else 0)
 | .int a,.int b=>a == b
 | .str a,.str b=>a == b
 |_,_=>false
theorem ZiD{A:Around}{s:Shared}{y x:V}{u v:Value}(ry:RelV y u)(rx:RelV x v)(fy:V3 y=true)(fx:V3 x=true):SeqAt.EqAt A s u v (eqV y x):=by
 cases y with
 |non=>
  cases ry;cases x with
  |non=>cases rx;exact SeqAt.EqAt.same _
  |bl b=>cases rx;exact SeqAt.EqAt.none_bool b
  |int b=>obtain⟨t,rfl⟩:=rx;exact SeqAt.EqAt.none_int b t
  |str b=>obtain⟨t,rfl⟩:=rx;exact SeqAt.EqAt.none_str b t
  |_=>exact absurd (show false=true from fx) Bool.false_ne_true
 |bl a=>
  cases ry;cases x with
  |non=>cases rx;exact SeqAt.EqAt.bool_none a
  |bl b=>cases rx;exact SeqAt.EqAt.bool_bool a b
  |int b=>obtain⟨t,rfl⟩:=rx;exact SeqAt.EqAt.bool_int a b t
  |str b=>obtain⟨t,rfl⟩:=rx;exact SeqAt.EqAt.bool_str a b t
  |_=>exact absurd (show false=true from fx) Bool.false_ne_true
 |int a=>
  obtain⟨t',rfl⟩:=ry;cases x with
  |non=>cases rx;exact SeqAt.EqAt.int_none a t'
  |bl b=>cases rx;exact SeqAt.EqAt.int_bool a t' b
  |int b=>obtain⟨t,rfl⟩:=rx;exact SeqAt.EqAt.int_int a t' b t
  |str b=>obtain⟨t,rfl⟩:=rx;exact SeqAt.EqAt.int_str a t' b t
  |_=>exact absurd (show false=true from fx) Bool.false_ne_true
 |str a=>
  obtain⟨t',rfl⟩:=ry;cases x with
  |non=>cases rx;exact SeqAt.EqAt.str_none a t'
  |bl b=>cases rx;exact SeqAt.EqAt.str_bool a t' b
  |int b=>obtain⟨t,rfl⟩:=rx;exact SeqAt.EqAt.str_int a t' b t
  |str b=>obtain⟨t,rfl⟩:=rx;exact SeqAt.EqAt.str_str a t' b t
  |_=>exact absurd (show false=true from fx) Bool.false_ne_true
 |_=>exact absurd (show false=true from fy) Bool.false_ne_true
def eqU(x:V)(u:Value):Bool:=match u with
 | .none=>eqV .non x
 | .bool b=>eqV (.bl b) x
 | .int i _=>eqV (.int i) x
 | .str z _=>eqV (.str z) x
 |_=>false
theorem Zgc{x y:V}{u:Value}(r:RelV y u)(f:V3 y=true):eqU x u=eqV y x:=by
 cases y with
 |non=>cases r;rfl
 |bl b=>cases r;rfl
 |int i=>obtain⟨t,rfl⟩:=r;rfl
 |str z=>obtain⟨t,rfl⟩:=r;rfl
 |_=>exact absurd (show false=true from f) Bool.false_ne_true
theorem Jh{x:V}:∀{xs:List V}{us:List Value},Vals xs us->xs.all V3=true->us.any (eqU x)=xs.any λy=>eqV y x
 |_,_,.nil,_=>rfl
 |y::xs,u::us,.cons r t,f=>by
  rw [List.all_cons,Bool.and_eq_true]at f;rw [List.any_cons,List.any_cons,Zgc r f.1,Jh t f.2]
theorem Ji{A:Around}{s:Shared}{x:V}{v:Value}(rx:RelV x v)(fx:V3 x=true):∀{xs:List V}{us:List Value},Vals xs us->xs.all V3=true->∀u∈us,SeqAt.EqAt A s u v (eqU x u)
 |_,_,.nil,_=>λu hu=>by cases hu
 |y::xs,u::us,.cons r t,f=>λu' hu=>by
  rw [List.all_cons,Bool.and_eq_true]at f;rcases List.mem_cons.mp hu with rfl|hu
  · rw [Zgc r f.1];exact ZiD r rx f.1 fx
  · exact Ji rx fx t f.2 u' hu
def inV(x:V)(xs:List V):Bool:=xs.any λy=>eqV y x
def rIn(K:PySem.W.Frag)(neg:Bool):R2:=λx y H Q=>∃p xs,y = .ref p/\(SqL K H p xs\/SqT K H p xs)/\V3 x=true/\xs.all V3=true/\Q (.bl (if neg then !inV x xs else inV x xs)) H
theorem Zep:OpR X (compareOp .In) (rIn X.K false):=by
 intro pins s σ H x y v u Q I rx ry h;obtain⟨p,xs,rfl,hq,fx,fs,q⟩:=h;cases ry;rcases hq with hq|hq
 · obtain⟨its,r,pl,hz⟩:=I.list hq
   refine SeqAt.in_listAt (eqU x) pl.isList (λw hw=>Ji rx fx r fs w (by simpa using hw)) ⟨.bl _,H,I,rfl,?_⟩;rw [show its.toArray.any (eqU x)=its.any (eqU x) by simp,Jh r fs];exact q
 · obtain⟨its,r,pl,hz⟩:=I.tuple hq
   refine SeqAt.in_tupleAt (eqU x) pl (λw hw=>Ji rx fx r fs w (by simpa using hw)) ⟨.bl _,H,I,rfl,?_⟩;rw [show its.toArray.any (eqU x)=its.any (eqU x) by simp,Jh r fs];exact q
theorem Zb1:OpR X (compareOp .NotIn) (rIn X.K true):=by
 intro pins s σ H x y v u Q I rx ry h;obtain⟨p,xs,rfl,hq,fx,fs,q⟩:=h;cases ry;rcases hq with hq|hq
 · obtain⟨its,r,pl,hz⟩:=I.list hq
   refine SeqAt.notIn_listAt (eqU x) pl.isList (λw hw=>Ji rx fx r fs w (by simpa using hw)) ⟨.bl _,H,I,rfl,?_⟩;rw [show its.toArray.any (eqU x)=its.any (eqU x) by simp,Jh r fs];exact q
 · obtain⟨its,r,pl,hz⟩:=I.tuple hq
   refine SeqAt.notIn_tupleAt (eqU x) pl (λw hw=>Ji rx fx r fs w (by simpa using hw)) ⟨.bl _,H,I,rfl,?_⟩;rw [show its.toArray.any (eqU x)=its.any (eqU x) by simp,Jh r fs];exact q
theorem Zb2:Y5 X (.builtin "len") (λxs H Q=>∃p ys,xs=[.ref p]/\(SqL X.K H p ys\/SqT X.K H p ys)/\Q (.int ys.length) H):=by
 intro pins s σ H xs us Q I r h;obtain⟨p,ys,rfl,hq,q⟩:=h;obtain⟨u,rfl,rx⟩:=XZ r;cases rx;have hn:=Jd;rcases hq with hq|hq
 · obtain⟨its,r',pl,hz⟩:=I.list hq
   have hlen:=r'.length;exact Calls.call_len_list pl.isList (by simp only [List.size_toArray]<;>omega) ⟨.int ys.length,H,I.tok _,⟨s.toks+1,by rw [List.size_toArray,hlen]⟩,q⟩
 · obtain⟨its,r',pl,hz⟩:=I.tuple hq
   have hlen:=r'.length;exact len_tuple pl (by simp only [List.size_toArray]<;>omega) ⟨.int ys.length,H,I.tok _,⟨s.toks+1,by rw [List.size_toArray,hlen]⟩,q⟩
theorem Zb3:Y5 X (.builtin "len") (λxs H Q=>∃z,xs=[.str z]/\z.length<=sizeLine/\Q (.int z.length) H):=by
 intro pins s σ H xs us Q I r h;obtain⟨z,rfl,hz,q⟩:=h;obtain⟨u,rfl,t,rfl⟩:=XZ r;have hn:=Jd;exact len_str (by omega) ⟨.int z.length,H,I.tok _,⟨_,rfl⟩,q⟩
theorem ZbA:Y5 X (.type "tuple") (λxs H Q=>∃p ys,xs=[.ref p]/\((SqL X.K H p ys/\∀l,H l=none->Q (.ref l) (upd H l (.tup ys)))\/(SqT X.K H p ys/\Q (.ref p) H))):=by
 intro pins s σ H xs us Q I r h;obtain⟨p,ys,rfl,h⟩:=h;obtain⟨u,rfl,rx⟩:=XZ r;cases rx;rcases h with⟨hq,q⟩|⟨hq,q⟩
 · obtain⟨its,r',pl,hz⟩:=I.list hq
   have hlen:=r'.length;refine call_tuple_list pl.isList (λh' kp => ?_) (by simp only [List.size_toArray]<;>omega);have I1:Inv X pins σ H { s with heap:=h' }:=I.kept (t':=s.toks) kp
   have I2:Inv X pins σ (upd H h'.objs.size (.tup ys)) { s with heap:=h'.push { cls := .type "tuple",data := .seq its.toArray } }:=
    I1.laid (t':=s.toks) (λb o e=>Heap.get?_push_of_some _ e) (Nat.le_refl _) (show ObjOk X.prog X.w _ _ _ (.tup ys)from⟨hz,its,r',TupN.new _ _⟩)
   exact⟨.ref h'.objs.size,_,I2,rfl,q _ (I1.hok.fresh (Nat.le_refl _))⟩
 · obtain⟨its,r',pl,hz⟩:=I.tuple hq
   exact call_tuple_same pl ⟨.ref p,H,I,rfl,q⟩
def tyV(K:PySem.W.Frag)(T:String)(x:V)(H:Hp):Prop:=match x with
 | .str _=>T = "str"
 | .int _=>T = "int"
 | .ref p=>(T = "list" /\ ∃xs,SqL K H p xs)\/(T = "tuple" /\ ∃o,K.lookup p=some o/\o.cls = .type "tuple" /\ o.dict=none) \/
  (T = "dict" /\ ((∃kvs,H p=some (.dK kvs))\/∃kvs,H p=some (.dT kvs)))\/(T = "set" /\ ∃S n,H p=some (.set S n))\/(T = "tuple" /\ ∃xs,H p=some (.tup xs))
 |_=>False
theorem ZiE{pins:List (Addr×Obj)}{σ:St}{H:Hp}{s:Shared}{T:String}{x:V}{v:Value}(I:Inv X pins σ H s)(r:RelV x v)(ty:tyV X.K T x H) :
 s.TypeIs v T/\∀a,v = .ref a->∃ob,s.heap.get? a=some ob/\ob.dict=none:=by
 cases x with
 |str z=>
  obtain⟨t,rfl⟩:=r;cases(show T = "str" from ty);exact⟨typeIs_str s z t,λ_ e=>nomatch e⟩
 |int i=>
  obtain⟨t,rfl⟩:=r;cases(show T = "int" from ty);exact⟨typeIs_int s i t,λ_ e=>nomatch e⟩
 |ref p=>
  cases r;rcases ty with⟨rfl,xs,hq⟩|⟨rfl,o,hk,hc,hd⟩|⟨rfl,hk⟩|⟨rfl,S,n,hk⟩|⟨rfl,xs,hk⟩
  · obtain⟨its,_,pl,_⟩:=I.list hq
    refine⟨pl.isList.typeIs,λa e => ?_⟩;cases e;obtain⟨o,n,e,c,hd,_⟩:=pl;exact⟨o,e,hd⟩
  · refine⟨⟨o,I.kIn p o hk,hc⟩,λa e => ?_⟩
    cases e;exact⟨o,I.kIn _ o hk,hd⟩
  · have z : ∃ o, s.heap.get? p = some o /\ o.ExactDict := by
     rcases hk with⟨kvs,hk⟩|⟨kvs,hk⟩
     · obtain⟨_,_,_,_,o,_,_,e,ex,_⟩:=I.hok p _ hk
       exact⟨o,e,ex⟩
     · obtain⟨_,_,_,_,o,_,_,e,ex,_⟩:=I.hok p _ hk
       exact⟨o,e,ex⟩
    obtain⟨o,e,ex⟩:=z;refine⟨⟨o,e,ex.1⟩,λa e2 => ?_⟩;cases e2;exact⟨o,e,ex.2.1⟩
  · obtain⟨o,_,_,_,e,ex,_⟩:=I.hok p _ hk
    refine⟨⟨o,e,ex.1⟩,λa e2 => ?_⟩;cases e2;exact⟨o,e,ex.2.1⟩
  · obtain⟨_,its,_,o,e,c,_,dn⟩:=(show ObjOk X.prog X.w H s.heap p (.tup xs)from I.hok p _ hk)
    refine⟨⟨o,e,c⟩,λa e2 => ?_⟩;cases e2;exact⟨o,e,dn⟩
 |_=>exact False.elim ty
def tBM(K:PySem.W.Frag)(T:String)(r:V->List V->Hp->VK->Prop)(to:TE)(t:TA):TE:=λσ H Q=>to σ H λx H1=>tyV K T x H1/\t σ H1 λxs H2=>r x xs H2 Q
variable{o e:Expr}{es:List Expr}{to:TE}{t:TA}{name:Str}{apos cpos:Pos}{T id:String}{r:V->List V->Hp->VK->Prop}
theorem Zll (pa:PlainAttrs T) (slot:Slot T name id) (hty:typeOf (.builtin id)=pure (.type "method_descriptor")) (hm:MtR X id r) (ho:PE X o to) (ha:PA X (e::es) t)
 (hbase:attributeBase o name X.env (eval o X.env)=eval o X.env:=by rfl)
 (hfew:((backTo cpos (starEach (e::es) X.env)).all (λx => !x.1)&&(backToKw cpos (keywordEach [] X.env)).all (λx=>x.1.isSome)
   && decide ((e::es).length+([]:List Keyword).length+(if([]:List Keyword).isEmpty then 0 else 1)<30))=true:=by rfl)
 (hline:(apos.endLine == cpos.line)=true:=by rfl) (hs:starEach (e::es) X.env=(false,eval e X.env)::starEach es X.env:=by rfl) (hplain:(backTo cpos (starEach es X.env)).any (·.1)=false:=by rfl) :
 PE X (.Call (.Attribute o name apos) (e::es) [] cpos) (tBM X.K T r to t):=by
 intro pins s σ H Q I h;refine wpAny_Call_method_late hbase hfew hline rfl (thn (ho pins s σ H _ I h) λv s1 ⟨x,H1,I1,r1,ty,q1⟩ => ?_);obtain⟨h1,h2⟩:=ZiE I1 r1 ty;refine⟨T,id,pa,slot,hty,h1,h2,?_⟩;have hA:=ha cpos pins s1 σ H1 _ I1 q1;rw [hs]at hA ⊢;refine Calls.callWith_builtin (by show(false||(backTo cpos (starEach es X.env)).any (·.1))=false;rw [hplain]<;>rfl) (Calls.evalArgs_plain ?_)
 exact thn hA λus s2 ⟨vs,H2,I2,r2,q2⟩=>hm pins s2 σ H2 x vs v us Q I2 r1 r2 q2
end
end L2
namespace L2
open PySem PySem.Spec PyProof.Rows
def MtM(X:Cx)(id:String)(r:V->List V->Hp->VK->Prop):Prop:=
 ∀(pins:List (Addr×Obj))(s:Shared)(σ:St)(H:Hp)(x:V)(xs:List V)(v:Value)(us:List Value)(Q:VK),Inv X pins σ H s->RelV x v->Vals xs us->r x xs H Q ->
  wpAny (model X.prog X.w) X.A (call (.builtin id) (v::us)) (EP X pins σ Q) X.xe s
theorem Vals.one:∀{x:V}{us:List Value},Vals [x] us->∃u,us=[u]/\RelV x u
 |_,_,.cons r .nil=>⟨_,rfl,r⟩
theorem Vals.two:∀{x y:V}{us:List Value},Vals [x,y] us->∃u v,us=[u,v]/\RelV x u/\RelV y v
 |_,_,_,.cons r (.cons q .nil)=>⟨_,_,rfl,r,q⟩
section
variable{X:Cx}{pins:List (Addr×Obj)}{σ:St}{H:Hp}{s:Shared}{l b:Addr}{xs ys zs:List V}
theorem Inv.lset {its its':List Value} {n:Nat} {f:Array Value->Array Value} {t':Nat} (I:Inv X pins σ H s) (hH:H l=some (.lst xs))
 (e:s.heap.get? l=some { cls := .type "list",data := .seq its.toArray n }) (hf:f its.toArray=its'.toArray) (hv:Vals ys its') (hz:ys.length<=sizeLine) :
 Inv X pins σ (upd H l (.lst ys)) { s with heap:=s.heap.update l (Obj.mapSeq f),toks:=t' }:=by
 have q:=PySem.IsL.update e f;rw [hf]at q;refine I.write (x:=l) (e:=l) (by rw [hH];exact trivial) (.inl rfl) (λb' u hb hu=>(Heap.get?_update_other s.heap (Obj.mapSeq f) (Ne.symm hb)).trans hu) ⟨_,q⟩ ?_;exact⟨hz,its',_,hv,q⟩
theorem Inv.lnew{its:List Value}{t':Nat}(I:Inv X pins σ H s)(hv:Vals ys its)(hz:ys.length<=sizeLine) :
 Inv X pins σ (upd H s.heap.objs.size (.lst ys)) { s with heap:=s.heap.push { cls := .type "list",data := .seq its.toArray },toks:=t' }:=
 I.laid (λ_ _ q=>Heap.get?_push_of_some _ q) (Nat.le_refl _) ⟨hz,its,0,hv,Heap.get?_push_size _ rfl⟩
theorem Inv.fresh(I:Inv X pins σ H s):H s.heap.objs.size=none:=I.hok.fresh (Nat.le_refl _)
theorem Inv.lstM(I:Inv X pins σ H s)(hH:H l=some (.lst xs)):xs.length<=sizeLine/\∃(its:List Value) (n:Nat),Vals xs its/\xs.length=its.length/\s.heap.get? l=some { cls := .type "list",data := .seq its.toArray n }:=by
 obtain⟨z,its,n,r,e⟩:=I.hok l _ hH;exact⟨z,its,n,r,r.length,e⟩
end
section
variable{X:Cx}
def rAppend:V->List V->Hp->VK->Prop:=λx vs H Q=>∃l xs y,x = .ref l/\vs=[y]/\H l=some (.lst xs)/\xs.length<sizeLine/\Q .non (upd H l (.lst (xs++[y])))
theorem ZbL:MtM X "list.append" rAppend:=by
 intro pins s σ H x vs v us Q I rx rv h;obtain⟨l,xs,y,rfl,rfl,hH,hz,q⟩:=h;cases rx;obtain⟨u,rfl,ru⟩:=rv.one;obtain⟨z,its,n,r,hl,e⟩:=I.lstM hH;refine call_meets F.slot_list_append ⟨_,e,rfl⟩ F.entry_list_append (F.args_list_append_2 _ _) (PySem.list_append l its.toArray n u (by rw [List.size_toArray];omega)) ⟨e,?_⟩;refine⟨.non,_,I.lset (its':=its++[u]) hH e (by simp) (r.append (.cons ru .nil)) ?_,rfl,q⟩
 rw [List.length_append,List.length_singleton];omega
def rCat:R2:=λx y H Q=>∃l b xs zs,x = .ref l/\y = .ref b/\H l=some (.lst xs)/\H b=some (.lst zs)/\xs.length+zs.length<=sizeLine/\∀p,H p=none->Q (.ref p) (upd H p (.lst (xs++zs)))
theorem ZiF:OpR X (binaryOp .Add) rCat:=by
 intro pins s σ H x y v u Q I rx ry h;obtain⟨l,b,xs,zs,rfl,rfl,hH,hB,hz,q⟩:=h;cases rx;cases ry;obtain⟨z,its,n,r,hl,e⟩:=I.lstM hH;obtain⟨z2,its2,n2,r2,hl2,e2⟩:=I.lstM hB;refine PySem.P.add_list e e2 ?_ (by rw [List.size_toArray,List.size_toArray];omega);have ea:its.toArray++its2.toArray=(its++its2).toArray:=by simp
 rw [ea];exact⟨.ref _,_,I.lnew (t':=s.toks) (r.append r2) (by rw [List.length_append];omega),rfl,q _ I.fresh⟩
end
section
variable{prog:Program}{w:World}{A:Around}{E:Value->Shared->Prop}{s:Shared}
set_option maxRecDepth 100000 in
end
section
variable{X:Cx}
end
end L2
namespace Att
open PySem PySem.W PySem.Calls PyProof.Rows
theorem ZaX{P:Params}{h:Heap}:∀(ns:List Int)(vs:List Value),WellAll P h vs (ns.map WData.int)->IntsAre vs ns:=by
 intro ns
 induction ns with
 |nil=>
  intro vs w;rw [List.map_nil]at w;cases w;exact .nil
 |cons n ns ih=>
  intro vs w;rw [List.map_cons]at w;cases w with
  |cons a b=>
   cases a;exact .cons _ _ (ih _ b)
theorem Zeq {l:OpenLaw} {n:Nat} (hn:l.most=some n) {P:Params} {h:Heap} {args:List WData} {vals:List Value}
 (hpre:l.row.toRowW.claim.pre args=true) (hwl:WellAll P h vals args) :
 ∃a vs ns,vals=[Value.ref a]/\args=[WData.list (ns.map WData.int)]/\h.get? a=some { cls := .type "list",data := .seq vs.toArray }/\IntsAre vs ns/\ns.length<=n:=by
 have hsh:WShape.hasAll [] args [.list .int]=true:=(pre_splitW hpre).1;have hc:l.pre.holds [] { args:=args }=true:=(pre_splitW hpre).2;obtain⟨d,r,rfl,h1,h2⟩:=hasAllW_cons hsh;obtain rfl:=hasAllW_nil h2;obtain⟨xs,rfl,h3⟩:=hasW_list h1;obtain⟨ns,rfl⟩:=items_int h3
 have hlen:ns.length<=n:=by
  unfold OpenLaw.pre at hc
  have h4:(WTm.not (.lt (.lit (.int (n:Int))) (.len (.arg 0)))).holds [] { args:=[.list (ns.map .int)] }=true:=by
   have h4:=(holds_andW hc).1;rw [hn]at h4;exact h4
  have h5:=condW_of h4 (w_not (w_lt w_lit (w_len_list (w_arg rfl))));rw [List.length_map]at h5;refine Nat.le_of_not_lt λq => ?_
  have q':(n:Int)<((ns.length:Nat):Int):=by omega
  first
   |(rw [decide_eq_true q']at h5;exact absurd h5 (by decide))
   |(simp at h5;omega)
 cases hwl with
 |cons w1 w2=>
  cases w2;cases w1 with
  |list ho hall=>exact⟨_,_,ns,rfl,rfl,ho,ZaX ns _ hall,hlen⟩
theorem Zer(l:OpenLaw)(args:List WData):l.row.toRowW.claim.post args (.bool true) args=true:=
 postW_of (r:=l.row.toRowW) (X:=(true == true))
  (show WShape.has [] (.bool true) .bool=true by first|rfl|decide|simp [WShape.has,WShape.arms,WShape.armsAll])
  (show(WTm.eq .res (.lit (.bool true))).value [] { args:=args,res:=some (.bool true),after:=args }=some (.bool (true == true))from w_eq_bool (w_res rfl) w_lit) rfl
theorem attach_call {l:OpenLaw} {n:Nat} {q:Program} {loose:List Str} {XP:(Str->Option Value)->Heap->Prop} {YP:World->Heap->Prop} {d:DefRec}
 (hn:l.most=some n) (hdf:d.params.defaults=[])
 (call:∀(w:World)(s₀ s₁:Shared)(mg mb:Str->Option Value)(fa:Addr)(o:Obj)(pm cd doc:Value)(a:Addr)(vs:List Value)(ns:List Int),
   Ground q loose [] XP w s₀ mg mb s₁.heap->YP w s₁.heap ->
   s₁.heap.get? fa=some o->o.data = .func (docDef d.name d.params d.body d.scope pm cd doc)->s₁.heap.CodeRec cd d.name->mg d.name=some (.ref fa) ->
   s₁.heap.get? a=some { cls := .type "list",data := .seq vs.toArray }->IntsAre vs ns->ns.length<=n->s₁.gens = #[] ->
   codeAny (model l.prog w) callerA (.call (.ref fa) ⟨[.ref a],[]⟩) (λr s'=>r = .ok (.ret (.bool true))/\OldK s₁.heap s'.heap/\s'.os=s₁.os/\AllBare s'.gens) s₁) :
 WalkO q loose XP YP l.row.toRowW d [] (λf vs=>PySem.call f vs):=by
 intro w s₀ s₁ mg mb G Y fa o pm cd doc dV kV ho hd hcd hD hmg hg args vals as hpre hlay hrd hwl hlo;obtain rfl:dV = .none:=Dflts.none hD hdf;obtain rfl:kV = .none:=Dflts.noKw hD;obtain⟨a,vs,ns,rfl,rfl,hobj,hints,hlen⟩:=Zeq hn hpre hwl;refine enter_call (codeAny_mono (call w s₀ s₁ mg mb fa o pm cd doc a vs ns G Y ho (fd_plain hd) hcd hmg hobj hints hlen hg) λr s' hq => ?_);obtain⟨rfl,h2,h3,h4⟩:=hq
 exact⟨.inl ⟨.bool true,.bool true,[],rfl,λ_=>rfl,.bool true,Zer l _,λ_=>⟨List.Pairwise.nil,λ_ hm=>(nomatch hm)⟩⟩,h2,h3,h4⟩
section
variable{prog:Program}{w:World}{A:Around}{E:Value->Shared->Prop}{s:Shared}{K:Frag}
end
end Att
namespace L2
open PySem PySem.Spec PyProof.Rows
theorem ZbM:∀{vs:List Value}{ns:List Int},IntsAre vs ns->Vals (ns.map V.int) vs
 |_,_,.nil => .nil
 |_,_,.cons n t h => .cons ⟨t,rfl⟩ (ZbM h)
def ZkO(H:Hp):Prop:=∀b,H b=none\/∃o xs,H b=some (.frz o (.lst xs))
theorem Zff {P:Program} {w:World} {K:PySem.W.Frag} {mg mb:Str->Option Value} {CX:CXT} {k:Nat} {fa a:Addr} {fd:FuncData} {x:Str} {sp:Sp} {s₁:Shared} {vs:List Value} {ns:List Int}
 (KX:K.In s₁.heap) (hns:s₁.heap.Ns mainGlobals mg) (hb:s₁.heap.Ns builtinsNs mb) (hbb:∀x:Str,x ≠ "__name__" -> mb x=bootBuiltins x) (hlim:s₁.heap.NoLimit) (hg:s₁.gens = #[])
 (ha:s₁.heap.get? a=some { cls := .type "list",data := .seq vs.toArray }) (hi:IntsAre vs ns) (hl:ns.length<=sizeLine) (hr:Room k callerA)
 (F:∀base:Heap,K.In base->base.Ns mainGlobals mg->FnOk P w K mg base CX k fa fd [x] sp) (hbind:∀(s:Shared)(u:Value),BindsTo s fd ⟨[u],[]⟩ [(x,u)])
 (hsp:∀H:Hp,ZkO H->SqL K H a (ns.map V.int)->sp [.ref a] H (λv _=>v = .bl true) λ_ _ _=>False)
 (hCX:∀H e s',CX [] H s₁ (λ_ _ _=>False) e s'->False) :
 codeAny (model P w) callerA (.call (.ref fa) ⟨[.ref a],[]⟩) (λr s'=>r = .ok (.ret (.bool true))/\OldK s₁.heap s'.heap/\s'.os=s₁.os/\AllBare s'.gens) s₁:=by
 have rv:=ZbM hi;have lenV:=hi.length
 have core:∀H:Hp,ZkO H->SqL K H a (ns.map V.int)->HOk P w H s₁.heap->(∀b,H b≠none->b=a)->(H a≠none->K.lookup a=none) ->
  codeAny (model P w) callerA (.call (.ref fa) ⟨[.ref a],[]⟩) (λr s'=>r = .ok (.ret (.bool true))/\OldK s₁.heap s'.heap/\s'.os=s₁.os/\AllBare s'.gens) s₁:=by
  intro H hO hS hok hA hK;have base_of:∀{b:Addr}{o:Obj},s₁.heap.get? b=some o->H b=none->(Uh s₁.heap H).get? b=some o:=λe n=>Ze5 e n
  have noA:∀{b:Addr}{o:Obj}{es:Array DictEntry}{ep:Nat},s₁.heap.get? b=some o->o.data = .dict es ep->H b=none:=λ{b o es ep} e d=>by
   cases q:H b with
   |none=>rfl
   |some u=>
    have e':b=a:=hA b (by rw [q];simp);subst e';rw [ha]at e;cases e;have d':Data.seq vs.toArray _=Data.dict es ep:=d;cases d'
  have nsK:∀{b:Addr}{m:Str->Option Value},s₁.heap.Ns b m->(Uh s₁.heap H).Ns b m:=λ{b m} ⟨o,es,ep,e,d,r⟩=>⟨o,es,ep,base_of e (noA e d),d,r⟩
  have hKb:K.In (Uh s₁.heap H):=λb o e=>base_of (KX b o e) (by
   cases q:H b with
   |none=>rfl
   |some u=>
    have e':b=a:=hA b (by rw [q];simp);subst e';rw [hK (by rw [q];simp)]at e;cases e)
  have hM:Mod K mg (Uh s₁.heap H):=⟨hKb,nsK hns,⟨mb,nsK hb,hbb⟩,let⟨mc,h1,h2⟩:=hlim;⟨mc,nsK h1,h2⟩⟩
  have e0:Env0 P w K mg (Uh s₁.heap H) callerA [] s₁ H:=⟨rfl,hM,λb o e=>ZgT e,Nat.le_of_eq (Zeh _ _),trivial,λb hb=>absurd (show b∈([]:List Addr)from hb) (by simp),hok,.of_eq hg⟩
  refine codeAny_mono ((F _ hKb (nsK hns)).run callerA [] s₁ H ⟨[.ref a],[]⟩ [.ref a] [.ref a] _ _ hr e0 (hbind s₁ (.ref a)) (.cons rfl .nil) (hsp H hO hS)) λr s' h => ?_
  cases r with
  |error e=>exact(hCX H e s' h).elim
  |ok fl=>
   cases fl with
   |next=>exact False.elim h
   |brk=>exact False.elim h
   |cont=>exact False.elim h
   |ret u=>
    obtain⟨v,H',os,bare,un,hok',r',q⟩:=h;have q':v = .bl true:=q;subst q';obtain rfl:u=Value.bool true:=r';refine⟨rfl,OldK.of_keep λb o e => ?_,os,bare⟩;cases q:H b with
    |none=>exact un.keep b o e q (by intro z;exact absurd (show b∈([]:List Addr)from z) (by simp)) (by simp)
    |some u=>
     rcases hO b with z|⟨ob,xs,z⟩
     · rw [q]at z;cases z
     · have z2:=un.frzs b ob _ z
       obtain⟨e1,_⟩:=hok b _ z;obtain⟨e2,_⟩:=hok' b _ z2;rw [e]at e1;cases e1;exact e2
 cases hk:K.lookup a with
 |some o=>
  have e:=KX a o hk;rw [ha]at e;cases e;refine core (λ_=>none) (λ_ => .inl rfl) (.inr ⟨_,vs.toArray,_,hk,rfl,rfl,rfl,by rw [List.size_toArray,lenV];exact hl,by simpa using rv⟩) (λb u z=>by have z':(none:Option HO)=some u:=z;cases z') (λb z=>absurd rfl z) λz=>absurd rfl z
 |none=>
  refine core (λb=>if b=a then some (.frz { cls := .type "list",data := .seq vs.toArray } (.lst (ns.map V.int)))else none) (λb => ?_) (.inl (.inr ⟨{ cls := .type "list",data := .seq vs.toArray },if_pos rfl⟩)) (λb u z => ?_) (λb z => ?_) λ_=>hk
  · by_cases hb:b=a
    · exact .inr ⟨_,_,if_pos hb⟩
    · exact .inl (if_neg hb)
  · by_cases hb:b=a
    · have z':=(if_pos hb).symm.trans z
      cases z';subst hb;exact⟨ha,by rw [List.length_map];exact hl,vs,_,rv,ha⟩
    · have z':=(if_neg hb).symm.trans z
      cases z'
  · by_cases hb:b=a
    · exact hb
    · exact absurd (if_neg hb) z
end L2
namespace L2
open PySem PySem.Spec PyProof.Rows
theorem walk_of {l:PySem.W.OpenLaw} {n k:Nat} {q:Program} {loose:List Str} {XP:(Str->Option Value)->Heap->Prop} {YP:World->Heap->Prop} {d:DefRec} {K:Params->PySem.W.Frag} {CX:World->CXT} {sp:World->Sp} {x:Str}
 (hn:l.most=some n) (hn2:n<=sizeLine) (hdf:d.params.defaults=[]) (hr:Room k callerA)
 (hY:∀(w:World)(h:Heap),YP w h->(K w.params).In h)
 (F:∀(w:World)(mg:Str->Option Value)(fa:Addr)(h:Heap),(K w.params).In h->h.Ns mainGlobals mg->mg d.name=some (.ref fa) ->
   ∃fd:FuncData,(∀(s:Shared)(u:Value),BindsTo s fd ⟨[u],[]⟩ [(x,u)]) /\
    ∀base:Heap,(K w.params).In base->base.Ns mainGlobals mg->FnOk l.prog w (K w.params) mg base (CX w) k fa fd [x] (sp w))
 (hsp:∀(w:World)(H:Hp)(a:Addr)(ns:List Int),ns.length<=n->ZkO H->SqL (K w.params) H a (ns.map V.int)->sp w [.ref a] H (λv _=>v = .bl true) λ_ _ _=>False)
 (hCX:∀(w:World)(H:Hp)(s:Shared)(e:Value)(s':Shared),CX w [] H s (λ_ _ _=>False) e s'->False) :
 PySem.W.WalkO q loose XP YP l.row.toRowW d [] (λf vs=>PySem.call f vs):=by
 refine Att.attach_call hn hdf λw s₀ s₁ mg mb fa o pm cd doc a vs ns G Y ho hd hcd hmg hobj hints hlen hg => ?_
 have KX:=hY w _ Y;obtain⟨fd,hb,hF⟩:=F w mg fa _ KX G.T.g hmg;exact Zff KX G.T.g G.T.b G.T.builtins G.T.nolimit hg hobj hints (Nat.le_trans hlen hn2) hr hF hb (λH hO hS=>hsp w H a ns hlen hO hS) λH e s'=>hCX w H s₁ e s'
end L2
namespace L2
open PySem PySem.Spec PyProof.Rows
def Y6(s:Stmt)(j:Nat):Stmt:=match s with
 | .ClassDef _ _ _ body _ _ _ _ _ _ _=>body.getD j (.Pass ⟨0,0,0,0⟩)
 |_ => .Pass ⟨0,0,0,0⟩
def defArgs(s:Stmt):Arguments:=match s with
 | .FunctionDef _ a _ _ _ _ _ _ _ _=>a
 |_=>{ posonlyargs:=[],args:=[],vararg:=none,kwonlyargs:=[],kw_defaults:=[],kwarg:=none,defaults:=[] }
def defBody(s:Stmt):List Stmt:=match s with
 | .FunctionDef _ _ b _ _ _ _ _ _ _=>b
 |_=>[]
def defScope(s:Stmt):Scope:=match s with
 | .FunctionDef _ _ _ _ _ _ sc _ _ _=>sc
 |_=>{ kind := .function,names:=[],isGenerator:=false,isCoroutine:=false }
abbrev CX0:CXT:=λ_ _ _ _ _ _=>False
abbrev E0:XK:=λ_ _ _=>False
theorem ZB{X:Cx}:Uj CX0 X E0:=λ_ _ _ _ _ _ _ h=>h.elim
structure Fun(K:PySem.W.Frag)(x qual:Str)(st:Stmt)(f:Addr)(fd:FuncData):Prop where
 ex:∃(oc:Value) (od:Option Addr) (kV doc pm:Value) (an:Option Addr) (cdv ct:Value) (osl:Array (Option Value)),
  fd=fnOf x qual (defArgs st) (defBody st) (defScope st) .none kV doc pm an cdv ct/\K.lookup f=some ⟨oc,od,.func fd,osl⟩/\codeIn K cdv qual=true
 kp:keepIn K (.ref f)=true
section
variable{P:Program}{w:World}{K:PySem.W.Frag}{mg:Str->Option Value}{base:Heap}
theorem Fun.ok {x qual:Str} {st:Stmt} {f:Addr} {fd:FuncData} {N ps:List Str} {k:Nat} {sp:Sp} (F:Fun K x qual st f fd) (S:FnScope N ps (defScope st)) (len:∀vs H Q E,sp vs H Q E->vs.length=ps.length)
 (hbody:∀(cdv:Value)(A:Around)(outer:List Env)(s:Shared)(H:Hp)(vs:List V)(Q:VK)(E:XK),Room k (A.deeper (envOfC qual (defScope st) s.heap.objs.size f cdv))->sp vs H Q E ->
   ∃t,PSs (Xq CX0 P w K mg base N qual (defScope st) f cdv A outer s H E).nox (defBody st) t/\t { nx:=λ_ H'=>Q .non H',rt:=Q } (start N vs) H):FnOk P w K mg base CX0 (k+1) f fd ps sp:=by
 obtain⟨oc,od,kV,doc,pm,an,cdv,ct,osl,rfl,lk,hcd⟩:=F.ex;refine ZgC lk hcd S len λA outer s H vs Q E hr hsp => ?_
 obtain⟨t,h,q⟩:=hbody cdv A outer s H vs Q E hr hsp;exact⟨t,h.nox,q⟩
theorem Fun.binds {x qual:Str} {st:Stmt} {f:Addr} {fd:FuncData} {ps:List Str} (F:Fun K x qual st f fd)
 (h:∀(kV doc pm:Value)(an:Option Addr)(cdv ct:Value)(us:List Value),us.length=ps.length->bindArgs (fnOf x qual (defArgs st) (defBody st) (defScope st) .none kV doc pm an cdv ct) ⟨us,[]⟩=pure (ps.zip us)):Binds K fd ps []:=by
 obtain⟨oc,od,kV,doc,pm,an,cdv,ct,osl,rfl,lk,hcd⟩:=F.ex;exact .all (h kV doc pm an cdv ct)
theorem fun_mk {x qual:Str} {st:Stmt} {f:Addr} {oc:Value} {od an:Option Addr} {osl:Array (Option Value)} {kV doc pm cdv ct:Value} (l:K.lookup f=some ⟨oc,od,.func (fnOf x qual (defArgs st) (defBody st) (defScope st) .none kV doc pm an cdv ct),osl⟩)
 (c:codeIn K cdv qual=true) (k:keepIn K (.ref f)=true):Fun K x qual st f (fnOf x qual (defArgs st) (defBody st) (defScope st) .none kV doc pm an cdv ct):=⟨⟨oc,od,kV,doc,pm,an,cdv,ct,osl,rfl,l,c⟩,k⟩
end
section
variable{X:Cx}
theorem pv (i:Nat) {x:Str} {pos:Pos} (hN:X.N[i]? = some x:=by rfl) (hv:Vis X.env.scope x:=by first|exact Or.inl rfl|exact Or.inr (Or.inl rfl)|exact Or.inr (Or.inr rfl)) (hd:(x == ("__debug__" : Str))=false:=by decide)
 (hcd:(x == ("__classdict__" : Str))=false:=by decide):PE X (.Name x pos) (UC i):=Ziu hN hv hd hcd
end
theorem V4{A B:Prop}(h:B):if false=true then A else B:=by
 rw [if_neg Bool.false_ne_true];exact h
theorem V5{A B:Prop}(h:A):if true=true then A else B:=by
 rw [if_pos rfl];exact h
def Same(H H':Hp):Prop:=∀b o,H b=some o->H' b=some o
theorem Same.refl(H:Hp):Same H H:=λ_ _ h=>h
theorem Same.trans{H H1 H2:Hp}(a:Same H H1)(b:Same H1 H2):Same H H2:=λc o h=>b c o (a c o h)
theorem Same.free{H H':Hp}(e:Same H H'){l:Addr}(h:H' l=Option.none):H l=Option.none:=by
 cases q:H l with
 |none=>rfl
 |some o=>
  rw [e l o q]at h;cases h
theorem Same.seq{K:PySem.W.Frag}{H H':Hp}{a:Addr}{xs:List V}(e:Same H H')(h:SqL K H a xs):SqL K H' a xs:=by
 rcases h with(h|⟨o,h⟩)|h
 · exact .inl (.inl (e _ _ h))
 · exact .inl (.inr ⟨o,e _ _ h⟩)
 · exact .inr h
end L2
namespace HT
open PySem PySem.W PySem.Calls PyProof.Rows
def de(P:Params)(x:Str)(t:Nat)(v:Value):DictEntry:=⟨PyData.keyHash P x,.str x t,v⟩
def dO(c:Value)(es:List DictEntry)(n:Nat):Obj:=⟨c,none,.dict es.toArray n,#[]⟩
def cO(vs:List Value):Obj:=⟨.type "code",none,.fields vs.toArray,#[]⟩
def fO(x q:Str)(st:Stmt)(dv kv doc pm:Value)(an:Option Addr)(cd ct:Value):Obj:=⟨.type "function",none,.func (fnOf x q (L2.defArgs st) (L2.defBody st) (L2.defScope st) dv kv doc pm an cd ct),#[]⟩
def c3(x q:Str)(t l a n r:Nat)(r2:Nat)(v w:Value)(r3 k k2:Nat):Obj:=cO [.str x t,.str q (t+1),.str "/claim/cut.py" (t+2),.int l 0,.int a 0,.int 0 0,.int 0 0,.int n 0,.ref r,.bool true,.int 181 0,.ref r2,.none,v,w,.ref r3,.int k 0,.int l 0,.str "/claim/cut.py" k2]
def f3(x q:Str)(st:Stmt)(m:Str)(t c:Nat):Obj:=fO x q st .none .none .none (.str m t) none (.ref c) .none
def x3(P:Params)(m:Str)(t a b l c d r e n:Nat):Obj:=dO (.type "dict") [de P "__module__" a (.str m t),de P "__firstlineno__" b (.int l c),de P "__static_attributes__" d (.ref r),de P "__doc__" e .none] n
def k3(x:Str)(a b n r t u:Nat):Obj:=⟨.type "type",none,.cls ⟨x,[.ref b],[.ref a,.ref b,.type "ValueError",.type "Exception",.type "BaseException",.type "object"],n,x,true,[],[],false,none,false⟩,#[some (.ref r),none,some (.str x t),some (.str x u),some (.builtin "ValueError.__new__"),some (.bool true)]⟩
def met{α:Type}(_:α):Bool:=true
noncomputable def Zlm(P:Params):BT:=
 ((((((((((BT.nil.ins 0 (boot_o_0 P)).ins 1 (boot_o_1 P)).ins 2 (boot_o_2 P)).ins 3 (boot_o_3 P)).ins 4 (boot_o_4 P)).ins 5 (boot_o_5 P)).ins 6 (boot_o_6 P)).ins 7 (boot_o_7 P)).ins 8 (boot_o_8 P)).ins 9 (boot_o_9 P)).ins 10 (boot_o_10 P)
noncomputable abbrev S0(w:World)(os:OsState):Shared:=⟨boot_heap w.params,Array.mk [],boot_drawn,boot_toks,os⟩
noncomputable abbrev S0T(w:World)(os:OsState):SharedT:=⟨Zlm w.params,11,(boot_heap w.params).life,Array.mk [],boot_drawn,boot_toks,os⟩
theorem Zm4(w:World)(os:OsState):(S0T w os).abs=S0 w os:=rfl
noncomputable def ZkP(thr ok:Thread->Bool)(st:SharedT->Thread->Option (SharedT×Thread))(n:Nat):SharedT->Thread->Option SharedT:=
 @Nat.rec (λ_=>SharedT->Thread->Option SharedT) (λ_ _=>none)
  (λ_ ih s t => @Bool.rec (λ_=>Option SharedT) (@Bool.rec (λ_=>Option SharedT) none (@Option.rec (SharedT×Thread) (λ_=>Option SharedT) none (λr=>ih r.1 r.2) (st s t)) (ok t)) (some s) (thr t)) n
theorem ZcI{tb:String->Option Builtin}{p:Program}{w:World}{n₀:Nat}{ann:Option Value}:∀{n:Nat}{s s':SharedT}{t:Thread},ZkP through (stepOk n₀ ann) (stepT (denote tb) p w) n s t=some s'->topRun tb p w n₀ ann n s.abs t=some s'.abs
 |0,_,_,_,h=>by cases h
 |n+1,s,s',t,h=>by
  replace h : @Bool.rec (λ_=>Option SharedT) (@Bool.rec (λ_=>Option SharedT) none (@Option.rec (SharedT×Thread) (λ_=>Option SharedT) none (λr=>ZkP through (stepOk n₀ ann) (stepT (denote tb) p w) n r.1 r.2) (stepT (denote tb) p w s t)) (stepOk n₀ ann t)) (some s) (through t)=some s':=h;unfold topRun;cases ht:through t with
  |true=>rw [ht]at h;cases h;rfl
  |false=>
   rw [ht]at h;cases hk:stepOk n₀ ann t with
   |false=>rw [hk]at h;cases h
   |true=>
    rw [hk]at h;cases hs:stepT (denote tb) p w s t with
    |none=>rw [hs]at h;cases h
    |some r=>obtain⟨s₂,t₂⟩:=r;rw [hs]at h;rw [stepT_spec hs];exact ZcI h
theorem left_of {p q:Program} {loose:List Str} {Xt:Shared->Bool} {α:Type} {Yf:Shared->α} {Ya:World->α} {N:Nat}
 (e:opening p=plainProg p.main.scope.names) (hN:Nat.ble 600 N=true) (f:∀s,fenceModules? p s=some s)
 (run:∀w:World,(λos=>(ZkP through (stepOk 11 (some (.ref 6))) (stepT (denote treeTable) p w) N (S0T w os) (topStub p)).map λs=>((staticsOk (importedModules p.main.body) (boot_heap w.params) s.abs.heap&&namesBound p s.abs.heap&&gensDone s.abs&&laidKept (boot_heap w.params) s.abs.heap),
   openSeen q loose (importedModules p.main.body) Xt true s.abs,Yf s.abs))=λ_=>some (true,openGood q loose,Ya w)):LeftO p q loose Xt Yf Ya N:=λw=>by
 obtain⟨⟨h,gs,d,k,os⟩,e,e'⟩:=Option.map_eq_some_iff.mp (boot_open e hN f w);obtain⟨rfl,rfl,rfl,rfl⟩:h=boot_heap w.params/\gs=Array.mk []/\d=boot_drawn/\k=boot_toks:=by simpa using e'
 obtain⟨s1,r,l⟩:=Option.map_eq_some_iff.mp (congrFun (run w) os);obtain⟨l1,l2,l3⟩:_/\_/\_:=by simpa only [Prod.mk.injEq]using l
 have r:=ZcI r;rw [Zm4]at r;have z1:((boot_heap w.params).isNs mainGlobals&&(Array.mk []:Array GenState).size == 0)=true:=by kernel_rfl
 have z2:(boot_heap w.params).objs.size=11:=rfl;have z3:(boot_heap w.params).nsMap mainGlobals "__annotations__" = some (.ref 6):=by kernel_rfl
 have t:topFrom treeTable p w N (S0 w os)=some s1.abs:=by
  unfold topFrom;dsimp only;rw [z1,z2,z3,r];show(match staticsOk (importedModules p.main.body) (boot_heap w.params) s1.abs.heap&&namesBound p s1.abs.heap&&gensDone s1.abs&&laidKept (boot_heap w.params) s1.abs.heap with|true=>_|false=>_)=_;rw [l1]
 unfold openEnds;rw [e];show(topFrom treeTable p w N _).map _=_;rw [t];exact congrArg some (Prod.ext l2 l3)
end HT
namespace L2
open PySem Builtin Builtin.Str
abbrev tx(cs:List Nat):Str:=⟨cs.toArray⟩
theorem tx_inj{a b:List Nat}:tx a=tx b ↔ a=b:=by
 constructor
 · intro h
   have h2:a.toArray=b.toArray:=congrArg Str.cps h;simpa using h2
 · rintro rfl;rfl
theorem Zfg(x:Str):tx x.cps.toList=x:=by
 obtain⟨a⟩:=x;show Str.mk a.toList.toArray=Str.mk a;simp
theorem V6(cs:List Nat):(tx cs).cps.toList=cs:=by simp [tx]
theorem Xl(cs:List Nat):(tx cs).length=cs.length:=by simp [tx,Str.length]
theorem Zdz(a b:List Nat):tx a++tx b=tx (a++b):=by
 show Str.mk (a.toArray++b.toArray)=Str.mk (a++b).toArray;simp
def YQ(n d:Nat):Option Int->Nat
 |none=>d
 |some v=>if v<0 then(v+(n:Int)).toNat else min v.toNat n
def cutL{α:Type}(xs:List α)(lo hi:Option Int):List α:=(xs.drop (YQ xs.length 0 lo)).take (YQ xs.length xs.length hi-YQ xs.length 0 lo)
theorem Zgd(lo hi:Option Int)(n:Nat):strSliceIndices lo hi 1 n=(List.range (YQ n n hi-YQ n 0 lo)).map λk=>YQ n 0 lo+k:=by
 have clip:∀v:Int,max 0 (min (if v<0 then v+(n:Int)else v) (n:Int))=(((if v<0 then(v+(n:Int)).toNat else min v.toNat n):Nat):Int):=by
  intro v
  by_cases h:v<0
  · rw [if_pos h,if_pos h];omega
  · rw [if_neg h,if_neg h];omega
 have key:∀(a b:Nat),sliceRange (a:Int) (b:Int) 1=(List.range (b-a)).map λk=>a+k:=by
  intro a b;unfold sliceRange;simp only [show(1:Int)>0 by decide,if_true]
  have e:(if(a:Int)<(b:Int)then((b:Int)-(a:Int)+1-1) / 1 else 0).toNat=b-a:=by
   split
   · rw [Int.ediv_one];omega
   · omega
  rw [e];refine List.map_congr_left λk _ => ?_
  omega
 unfold strSliceIndices;simp only [show(1:Int)>0 by decide,if_true];cases lo with
 |none=>
  cases hi with
  |none=>exact key 0 n
  |some v=>
   have:=key 0 (YQ n n (some v));refine Eq.trans ?_ this;show sliceRange 0 (max 0 (min (if v<0 then v+(n:Int)else v) (n:Int))) 1=_;rw [clip v];rfl
 |some u=>
  cases hi with
  |none=>
   have:=key (YQ n 0 (some u)) n;refine Eq.trans ?_ this;show sliceRange (max 0 (min (if u<0 then u+(n:Int)else u) (n:Int))) n 1=_;rw [clip u];rfl
  |some v=>
   have:=key (YQ n 0 (some u)) (YQ n n (some v));refine Eq.trans ?_ this;show sliceRange (max 0 (min (if u<0 then u+(n:Int)else u) (n:Int))) (max 0 (min (if v<0 then v+(n:Int)else v) (n:Int))) 1=_;rw [clip u,clip v];rfl
theorem ZcJ{α:Type}(xs:List α)(l:Nat):∀k,l+k<=xs.length->((List.range k).map λj=>l+j).filterMap (λj=>xs[j]?)=(xs.drop l).take k
 |0,_=>by simp
 |k+1,h=>by
  rw [List.range_succ,List.map_append,List.filterMap_append,ZcJ xs l k (by omega)];have hx:xs[l+k]? = some (xs[l+k]'(by omega)):=List.getElem?_eq_getElem (by omega);rw [List.take_add_one,List.getElem?_drop,hx];simp [hx]
theorem Zes(n:Nat)(o:Option Int):YQ n n o<=n:=by
 cases o with
 |none=>exact Nat.le_refl _
 |some v=>
  show(if v<0 then(v+(n:Int)).toNat else min v.toNat n)<=n
  split<;>omega
theorem Zfh(cs:List Nat)(lo hi:Option Int):Txt.slice (tx cs) lo hi=tx (cutL cs lo hi):=by
 have hn:(tx cs).length=cs.length:=Xl cs;have hb:=Zes cs.length hi
 have hp:((strSliceIndices lo hi 1 cs.length).filterMap λj=>cs[j]?)=cutL cs lo hi:=by
  rw [Zgd];unfold cutL
  by_cases h:YQ cs.length 0 lo<=YQ cs.length cs.length hi
  · exact ZcJ cs _ _ (by omega)
  · have e:YQ cs.length cs.length hi-YQ cs.length 0 lo=0:=by omega
    rw [e];simp
 unfold Txt.slice;rw [hn]
 by_cases hc:((1:Int) == 1&&(strSliceIndices lo hi 1 cs.length).length == cs.length)=true
 · rw [if_pos hc]
   have hl:(strSliceIndices lo hi 1 cs.length).length=cs.length:=by simpa using hc
   rw [Zgd,List.length_map,List.length_range]at hl;have e0:YQ cs.length 0 lo=0\/cs.length=0:=by omega
   rw [tx_inj];unfold cutL;rw [hl];rcases e0 with e0|e0
   · rw [e0];simp
   · have:cs=[]:=List.eq_nil_of_length_eq_zero e0
     subst this;simp
 · rw [if_neg hc]
   have:((strSliceIndices lo hi 1 cs.length).filterMap λj=>(tx cs).cps[j]?)=cutL cs lo hi:=by
    rw [<-hp];simp [tx]
   rw [this]
theorem cut_from{α:Type}(xs:List α)(k:Nat):cutL xs (some (k:Int)) none=xs.drop k:=by
 unfold cutL YQ;simp only [show ¬((k:Int)<0) by omega,if_false,Int.toNat_natCast]
 by_cases h:k<=xs.length
 · rw [Nat.min_eq_left h,List.take_of_length_le (by simp)]
 · rw [Nat.min_eq_right (by omega),List.drop_eq_nil_of_le (Nat.le_refl _),List.drop_eq_nil_of_le (by omega)]
   simp
theorem Zfi(a b:List Nat)(i:Nat):subAt (tx a) (tx b) i=((a.drop i).take b.length == b):=by
 rw [StrLaws.subAt_eq,V6,V6,Xl]
theorem ZgZ(a b:List Nat):Txt.endswith (tx a) (tx b)=b.isSuffixOf a:=by
 unfold Txt.endswith;rw [Zfi,Xl,Xl,Nat.zero_add];rw [Bool.eq_iff_iff,Bool.and_eq_true,decide_eq_true_eq,beq_iff_eq,List.isSuffixOf_iff_suffix];constructor
 · rintro⟨h1,h2⟩
   have h3:(a.drop (a.length-b.length)).length=b.length:=by rw [List.length_drop];omega
   rw [List.take_of_length_le (by omega)]at h2;rw [<-h2];exact List.drop_suffix _ _
 · rintro⟨c,rfl⟩
   refine⟨by simp,?_⟩;rw [List.length_append,Nat.add_sub_cancel,List.drop_left,List.take_of_length_le (Nat.le_refl _)]
end L2
namespace L2
open PySem Builtin Builtin.Str
def Zjo(c:Nat):Bool:=decide (48<=c)&&decide (c<=57)
def ZkQ(cs:List Nat):Nat:=cs.foldl (λacc c=>acc*10+(c-48)) 0
theorem QD(cs:List Nat)(c i:Nat):StrLaws.At (tx cs) (tx [c]) (tx cs).length i ↔ cs[i]? = some c:=by
 have:=StrLaws.subAt_one (tx cs) c i;rw [V6]at this;exact this
def YM(c:Nat)(cs:List Nat):Int:=match cs.findIdx? (· == c)with
 |some i=>(i:Int)
 |none => -1
def Xd(c:Nat):List Nat->Int
 | [] => -1
 |x::xs=>if 0<=Xd c xs then Xd c xs+1 else if x=c then 0 else -1
theorem Zal(c:Nat):∀cs:List Nat,(Xd c cs = -1/\c∉cs)\/∃i:Nat,Xd c cs=(i:Int)/\cs[i]? = some c/\∀k,i<k->¬cs[k]? = some c
 | [] => .inl ⟨rfl,by simp⟩
 |x::xs=>by
  unfold Xd;rcases Zal c xs with⟨e,h⟩|⟨i,e,h,hk⟩
  · rw [e,if_neg (by decide)]
    by_cases hx:x=c
    · rw [if_pos hx]
      refine .inr ⟨0,rfl,by simp [hx],λk hk hz => ?_⟩;obtain⟨k',rfl⟩:∃k',k=k'+1:=⟨k-1,by omega⟩
      rw [List.getElem?_cons_succ]at hz;exact h (List.mem_of_getElem? hz)
    · rw [if_neg hx]
      refine .inl ⟨rfl,λhm => ?_⟩;rcases List.mem_cons.mp hm with z|z
      · exact hx z.symm
      · exact h z
  · rw [e,if_pos (Int.natCast_nonneg i)]
    refine .inr ⟨i+1,by push_cast;rfl,by simpa using h,λk hk' hz => ?_⟩;obtain⟨k',rfl⟩:∃k',k=k'+1:=⟨k-1,by omega⟩
    rw [List.getElem?_cons_succ]at hz;exact hk k' (by omega) hz
theorem Zfj(cs:List Nat)(c:Nat):Txt.rfind (tx cs) (tx [c])=Xd c cs:=by
 rcases PyProof.Rows.rfind_whole (tx cs) (tx [c])with⟨e,h⟩|⟨i,e,h,hk⟩
 · rcases Zal c cs with⟨e',_⟩|⟨j,e',hj,_⟩
   · rw [e,e']
   · exact absurd ((QD cs c j).mpr hj) (h j)
 · have hi:=(QD cs c i).mp h
   rcases Zal c cs with⟨e',h'⟩|⟨j,e',hj,hj'⟩
   · exact absurd (List.mem_of_getElem? hi) h'
   · rw [e,e']
     have h1:¬i<j:=λz=>hk j z ((QD cs c j).mpr hj)
     have h2:¬j<i:=λz=>hj' i z hi
     congr 1
     omega
theorem Zcl(c:Nat)(cs:List Nat)(d:Nat):Xd c (cs++[d])=if d=c then(cs.length:Int)else Xd c cs:=by
 induction cs with
 |nil=>
  show Xd c [d]=_;unfold Xd;simp [Xd]
 |cons x xs ih=>
  show Xd c (x::(xs++[d]))=_;unfold Xd;rw [ih]
  by_cases hd:d=c
  · rw [if_pos hd,if_pos (Int.natCast_nonneg _),if_pos hd]
    simp
  · rw [if_neg hd,if_neg hd]
theorem Zg0(cs:List Nat)(c:Nat):Txt.find (tx cs) (tx [c])=YM c cs:=by
 unfold YM;rcases PyProof.Rows.find_whole (tx cs) (tx [c])with⟨e,h⟩|⟨i,e,h,hk⟩
 · rw [e]
   have hn:cs.findIdx? (· == c)=none:=by
    rw [List.findIdx?_eq_none_iff];intro x hx;simp only [beq_eq_false_iff_ne]
    rintro rfl
    obtain⟨j,hj⟩:=List.getElem?_of_mem hx;exact h j ((QD cs x j).mpr hj)
   rw [hn]
 · rw [e]
   have hi:=(QD cs c i).mp h
   have hs:cs.findIdx? (· == c)=some i:=by
    rw [List.findIdx?_eq_some_iff_getElem];have hl:i<cs.length:=(List.getElem?_eq_some_iff.mp hi).1;refine⟨hl,by simpa using(List.getElem?_eq_some_iff.mp hi).2,λj hj => ?_⟩;have hjl:j<cs.length:=by omega
    have:=hk j hj;rw [QD,List.getElem?_eq_getElem hjl]at this;simpa using this
   rw [hs]
theorem Zfk(cs:List Nat)(c:Nat):Txt.count (tx cs) (tx [c])=(cs.count c:Nat):=by
 have h:=PyProof.Rows.count_is (tx cs) c
 have e:∀l:List Nat,PyProof.Rows.cnt c l=(l.count c:Nat):=λl=>by
  induction l with
  |nil=>rfl
  |cons x xs ih=>
   rw [PyProof.Rows.cnt_cons,ih,List.count_cons]
   by_cases hx:x=c<;>simp [hx]<;>omega
 have h2:Txt.count (tx cs) (tx [c])=PyProof.Rows.cnt c (tx cs).cps.toList:=h;rw [h2,e,V6]
def Uk(sep:List Nat):List (List Nat)->List Nat
 | []=>[]
 | [x]=>x
 |x::y::r=>x++sep++Uk sep (y::r)
theorem Zca(sep:List Nat):∀l:List (List Nat),Str.join (tx sep) (l.map tx)=tx (Uk sep l)
 | []=>rfl
 | [x]=>rfl
 |x::y::r=>by
  show tx x++tx sep++Str.join (tx sep) ((y::r).map tx)=_;rw [Zca sep (y::r),Zdz,Zdz];rfl
theorem ZbN:∀l:List (List Nat),Uk [] l=l.flatten
 | []=>rfl
 | [x]=>by simp [Uk]
 |x::y::r=>by
  show x++[]++Uk [] (y::r)=_;rw [ZbN (y::r)];simp
end L2
namespace L2
open PySem PySem.Spec PyProof.Rows
section
variable{prog:Program}{w:World}{A:Around}{R:Result->Shared->Prop}{s:Shared}
theorem Zb4 {elt target iter:Expr} {ifs:List Expr} {scope:Scope} {pos:Pos} {it acc:Value} {env:Env} (I:Nat->Shared->Prop)
 (turn:∀n s,I n s->wpAny (model prog w) A (pyNext it) (λr s₁=>match r with
   |none=>R (.ok .next) s₁
   |some v=>wpAny (model prog w) A (letOwnedTupleGo target it v) (λ_ s₀=>wpAny (model prog w) A (assign target env v) (λ_ s₂=>
    wpAny (model prog w) A (forIn ifs true λc r=>if r=true then do let ok <-isTrue c env (eval c env);pure (ForInStep.yield ok)else pure (ForInStep.yield r)) (λok s₃=>
     if ok=true then wpAny (model prog w) A (eval elt env) (λx s₄=>
      wpAny (model prog w) A (call (.builtin "list.append") [acc,x]) (λ_ s₅=>∃m,m<n/\I m s₅) (notedBy (model prog w) A env λe s'=>R (.error e) s') s₄) (notedBy (model prog w) A env λe s'=>R (.error e) s') s₃
     else ∃m,m<n/\I m s₃) (notedBy (model prog w) A env λe s'=>R (.error e) s') s₂) (notedBy (model prog w) A env λe s'=>R (.error e) s') s₀) (notedBy (model prog w) A env λe s'=>R (.error e) s') s₁) (notedBy (model prog w) A env λe s'=>R (.error e) s') s)
 (n:Nat) (h:I n s) :
 codeAny (model prog w) A (.compLoop (.ListComp elt [⟨target,iter,ifs,0⟩] scope pos) 0 it acc env) R s:=by
 refine codeAny_loop rfl I (λn s hI => ?_) n h;show wpAny _ A ((compTurn (.ListComp elt [⟨target,iter,ifs,0⟩] scope pos) 0 it acc env).onRaise (λx=>do noteFrame x env;theTreesLotGoes x)) _ _ s;refine wpAny_noted ?_;rw [compTurn_list];refine wpAny_bind (wpAny_standAt (wpAny_bind (wpAny_mono (turn n s hI) (λr s₁ h₁ => ?_) λ_ _ h'=>h')));cases r with
 |none=>exact wpAny_pure h₁
 |some v=>
  refine wpAny_bind (wpAny_mono h₁ (λ_ s₀ h₀ => ?_) λ_ _ h'=>h');refine wpAny_bind (wpAny_mono h₀ (λ_ s₂ h₂=>wpAny_bind (wpAny_mono h₂ (λok s₃ h₃ => ?_) λ_ _ h'=>h')) λ_ _ h'=>h');cases ok with
  |false=>exact wpAny_pure ⟨rfl,h₃⟩
  |true=>
   exact wpAny_bind (wpAny_bind (wpAny_mono h₃ (λx s₄ h₄=>wpAny_bind (wpAny_mono h₄ (λ_ s₅ h₅=>wpAny_pure (wpAny_pure ⟨rfl,h₅⟩)) λ_ _ h'=>h')) λ_ _ h'=>h'))
end
def XQ(cells:List (Str×Addr)):List (Str×NameKind)->List (Str×Addr)->List (Str×Addr)
 | [],acc=>acc
 |(n,k)::r,acc=>XQ cells r (if(k == .free)=true then(n,(cells.lookup n).getD 0)::acc else acc)
theorem Zae{env:Env}:∀(names:List (Str×NameKind))(acc:List (Str×Addr)),(∀x∈names,x.2 = .free->∃c,env.cells.lookup x.1=some c) ->
 (forIn names acc λ(x:Str×NameKind) (r:List (Str×Addr))=>match x with
   |(name,kind)=>if(kind == .free)=true then(do let c <-cellOf env name;pure (ForInStep.yield ((name,c)::r)))else pure (ForInStep.yield r))=(pure (XQ env.cells names acc):Sem _)
 | [],acc,_=>rfl
 |(n,k)::r,acc,h=>by
  rw [List.forIn_cons];show((if(k == .free)=true then(do let c <-cellOf env n;pure (ForInStep.yield ((n,c)::acc)))else pure (ForInStep.yield acc)) >>= _)=_
  by_cases hk:(k == .free)=true
  · obtain⟨c,hc⟩:=h (n,k) List.mem_cons_self (by simpa using hk)
    have e:cellOf env n=pure c:=by
     unfold cellOf;rw [hc]
    rw [if_pos hk,e];show(forIn r ((n,c)::acc) _:Sem _)=_;rw [Zae r _ λx hx=>h x (List.mem_cons_of_mem _ hx)]
    conv=>rhs;unfold XQ
    rw [if_pos hk,hc];rfl
  · rw [if_neg hk]
    show(forIn r acc _:Sem _)=_;rw [Zae r _ λx hx=>h x (List.mem_cons_of_mem _ hx)]
    conv=>rhs;unfold XQ
    rw [if_neg hk]
theorem Zaw{scope:Scope}{env:Env}(h:∀x∈scope.names,x.2 = .free->∃c,env.cells.lookup x.1=some c):closureFor scope env=pure (XQ env.cells scope.names []):=by
 have e:=Zae (env:=env) scope.names [] h;unfold closureFor;show((forIn scope.names ([]:List (Str×Addr)) _:Sem _) >>= λcs=>pure cs)=_
 have e2:(forIn scope.names ([]:List (Str×Addr)) λ(x:Str×NameKind) (r:List (Str×Addr))=>match x with
  |(name,kind)=>if(kind == .free)=true then(do let c <-cellOf env name;pure (ForInStep.yield ((name,c)::r)))else pure (ForInStep.yield r))=(pure (XQ env.cells scope.names []):Sem _):=e
 rw [e2];rfl
theorem Jj{cells:List (Str×Addr)}{x:Str}{c:Addr}:∀(names:List (Str×NameKind))(acc:List (Str×Addr)),(∀y∈names,y.2 = .free->∃c,cells.lookup y.1=some c) ->
 (∀c,acc.lookup x=some c->cells.lookup x=some c)->(XQ cells names acc).lookup x=some c->cells.lookup x=some c
 | [],acc,_,ha,h=>ha c h
 |(n,k)::r,acc,hf,ha,h=>by
  unfold XQ at h;refine Jj r _ (λy hy=>hf y (List.mem_cons_of_mem _ hy)) (λc' h' => ?_) h
  by_cases hk:(k == .free)=true
  · rw [if_pos hk]at h'
    obtain⟨c0,hc0⟩:=hf (n,k) List.mem_cons_self (by simpa using hk);rw [List.lookup_cons]at h';cases hx:x == n with
    |true=>
     rw [hx]at h';have e:x=n:=eq_of_beq hx;subst e;have h'':(cells.lookup x).getD 0=c':=Option.some.inj h';have hc0':cells.lookup x=some c0:=hc0;rw [hc0']at h'' ⊢;exact congrArg some h''
    |false=>
     rw [hx]at h';exact ha c' h'
  · rw [if_neg hk]at h'
    exact ha c' h'
theorem ZaM{cells:List (Str×Addr)}{x:Str}:∀(names:List (Str×NameKind))(acc:List (Str×Addr)),((x,NameKind.free)∈names\/∃c,acc.lookup x=some c)->∃c,(XQ cells names acc).lookup x=some c
 | [],acc,h=>by
  rcases h with h|h
  · cases h
  · exact h
 |(n,k)::r,acc,h=>by
  unfold XQ;refine ZaM r _ ?_;rcases h with h|⟨c,h⟩
  · rcases List.mem_cons.mp h with e|e
    · cases e
      refine .inr ⟨(cells.lookup x).getD 0,?_⟩;rw [if_pos (by rfl),List.lookup_cons];simp
    · exact .inl e
  · refine .inr ?_
    by_cases hk:(k == .free)=true
    · rw [if_pos hk,List.lookup_cons]
      cases hx:x == n with
      |true=>exact⟨_,rfl⟩
      |false=>exact⟨c,h⟩
    · rw [if_neg hk]
      exact⟨c,h⟩
structure CompSc(X:Cx)(scope:Scope)(tn cn:List Str)(js:List Nat):Prop where
 kind:scope.kind = .function
 nocell:∀y∈scope.names,y.2 ≠ .cell
 names:∀y∈scope.names,y.2 = .local->scope.names.lookup y.1=some .local
 free:∀y∈scope.names,y.2 = .free->X.env.kindOf y.1=some .cell\/X.env.kindOf y.1=some .free
 cap:∀(k:Nat)(x:Str),cn[k]? = some x->∃j,js[k]? = some j/\X.N[j]? = some x/\(X.env.kindOf x=some .cell\/X.env.kindOf x=some .free)/\scope.names.lookup x=some .free
 len:cn.length=js.length
def Jk(σ:St)(js:List Nat):St:=js.map λj=>(σ[j]?).getD none
def blk(n:Nat)(σ:St)(js:List Nat):St:=List.replicate n none++Jk σ js
section
variable{X:Cx}{pins:List (Addr×Obj)}{σ:St}{H₂:Hp}{s₂:Shared}{scope:Scope}{tn cn:List Str}{js:List Nat}
theorem Zay{env:Env}:∀{names:List (Str×NameKind)}{x:Str},names.lookup x=some .free ->
 (names.map λ(n,k)=>if(k == NameKind.free&&env.scope.kind == .function&&env.kindOf n == some .cell)then(n,NameKind.cell)else(n,k)).lookup x=some .cell \/
 (names.map λ(n,k)=>if(k == NameKind.free&&env.scope.kind == .function&&env.kindOf n == some .cell)then(n,NameKind.cell)else(n,k)).lookup x=some .free
 | [],_,h=>by simp at h
 |(n,k0)::r,x,h=>by
  have ih := @Zay env r x
  show List.lookup x ((if(k0 == NameKind.free&&env.scope.kind == .function&&env.kindOf n == some .cell)=true then(n,NameKind.cell)else(n,k0))::_)=_ \/
   List.lookup x ((if(k0 == NameKind.free&&env.scope.kind == .function&&env.kindOf n == some .cell)=true then(n,NameKind.cell)else(n,k0))::_)=_
  cases hx:x == n with
  |true=>
   simp only [List.lookup_cons,hx]at h;cases h
   by_cases hb:(NameKind.free == NameKind.free&&env.scope.kind == .function&&env.kindOf n == some .cell)=true
   · rw [if_pos hb];simp [List.lookup_cons,hx]
   · rw [if_neg hb];simp [List.lookup_cons,hx]
  |false=>
   simp only [List.lookup_cons,hx]at h
   by_cases hb:(k0 == NameKind.free&&env.scope.kind == .function&&env.kindOf n == some .cell)=true
   · rw [if_pos hb];simp only [List.lookup_cons,hx];exact ih h
   · rw [if_neg hb];simp only [List.lookup_cons,hx];exact ih h
end
def PTs(X:Cx)(ifs:List Expr)(t:TT):Prop:=
 ∀(pins:List (Addr×Obj))(s:Shared)(σ:St)(H:Hp)(Q:Bool->Hp->Prop),Inv X pins σ H s->t σ H Q ->
  wpAny (model X.prog X.w) X.A (forIn ifs true λc r=>if r=true then do let ok <-isTrue c X.env (eval c X.env);pure (ForInStep.yield ok)else pure (ForInStep.yield r)) (TP X pins σ Q) X.xe s
def tYes:TT:=λ_ H Q=>Q true H
theorem Vm{X:Cx}:PTs X [] tYes:=λ_ _ _ H _ I h=>wpAny_tests_nil ⟨H,I,h⟩
theorem Zg1{X:Cx}{c:Expr}{t:TT}(h:PT X c t):PTs X [c] t:=λpins s σ H Q I q=>wpAny_tests_one (h pins s σ H Q I q)
def ZgD(wi:TI)(g:TG)(tt:TT)(te:TE)(n:Nat)(js:List Nat):TE:=λσ H Q=>wi σ H λJ H1=>
 ∃W:Nat->Nat->List V->Hp->Prop,(∃m,W 0 m [] H1)/\∀i m ys H,W i m ys H ->
  (J.stop i H/\∀p,H p=none->Q (.ref p) (upd H p (.lst ys))) \/
  (J.go i H/\∀x H',J.yld i H x H'->g x (blk n σ js) H' λσ2 H2=>tt σ2 H2 λb H3=>
    if b=true then te σ2 H3 λy H4=>ys.length<sizeLine/\∃m',m'<m/\W (i+1) m' (ys++[y]) H4 else ∃m',m'<m/\W (i+1) m' ys H3)
section
variable{X:Cx}{tg iter elt:Expr}{ifs:List Expr}{scope:Scope}{pos:Pos}{wi:TI}{g:TG}{tt:TT}{te:TE}{tn cn:List Str}{js:List Nat}
theorem QE{α:Type}{M:Model}{A:Around}{m:Sem α}{Q:α->Shared->Prop}{E:Value->Shared->Prop}{s:Shared}(h:wpAny M A m Q (λ_ _=>False) s):wpAny M A m Q E s:=wpAny_mono h (λ_ _ q=>q) λ_ _ z=>z.elim
end
end L2
namespace L2
open PySem PySem.Spec PyProof.Rows
abbrev S(cs:List Nat):V := .str (tx cs)
theorem Zln{a b:List Nat}:S a=S b ↔ a=b:=by
 constructor
 · intro h
   exact tx_inj.mp (V.str.inj h)
 · rintro rfl;rfl
section
variable{X:Cx}{pos:Pos}
theorem Yg{x:Str}{j:Nat}(cs:List Nat)(h:x=tx cs):PE X (.Constant (.str x) j pos) (tC (S cs)):=by
 subst h;exact Ziv
def Its(cs:List Nat):It:=⟨λi _=>i<cs.length,λi H v H'=>H'=H/\∃c,cs[i]? = some c/\v=S [c],λi _=>cs.length<=i⟩
theorem QF(x:Str):strIterType x = "str_ascii_iterator" \/ strIterType x = "str_iterator" := by
 unfold strIterType
 split
 · exact .inl rfl
 · exact .inr rfl
theorem Zfl{P:Program}{w:World}{K:PySem.W.Frag}{tg:Expr}(it:Addr)(cs:List Nat)(t:Tok):Turn P w K tg (Its cs) [it] it (λi h=>h.IsStrIter it (strIterType (tx cs)) (tx cs) t i) where
 mem:=by simp
 obj:=λi h st b hb=>by
  have e:b=it:=by simpa using hb
  subst e;obtain⟨o,e,c,d⟩:=st;exact⟨o,e,λv z=>by rw [d]at z;cases z⟩
 keep:=λi h h' st k=>by
  obtain⟨o,e,r⟩:=st;exact⟨o,k it (by simp) o e,r⟩
 item:=by
  intro X hP hw hK hc i pins s σ H E I hf st hg;subst hP hw hK;obtain⟨f0,f1,f2,f3,f4,f5⟩:=hf it (by simp);have hg:i<cs.length:=hg;have hx:(tx cs).cps[i]? = some cs[i]:=by simp [tx,hg]
  have fin:∀(h':Heap),h'.IsStrIter it (strIterType (tx cs)) (tx cs) t (i+1)->Heap.SameBut it s.heap h' ->
   ∃u,some (Value.str ⟨#[cs[i]]⟩ s.toks)=some u/\wpAny (model X.prog X.w) X.A (letOwnedTupleGo tg (.ref it) u) (λ_ s2=>∃x H',Inv X pins σ H' s2/\RelV x u/\(Its cs).yld i H x H'/\s2.heap.IsStrIter it (strIterType (tx cs)) (tx cs) t (i+1)/\∀b∈[it],H' b=none) E { s with heap:=h',toks:=s.toks+1 }:=λh' st' sb=>by
   have I1:Inv X pins σ H { s with heap:=h',toks:=s.toks+1 }:=I.turned (λb o hb e=>(sb.2 b hb).trans e) f0 f1 f3 f4 f5;obtain⟨o,e,hc',d⟩:=id st';refine⟨_,rfl,ZeX (s:={ s with heap:=h',toks:=s.toks+1 }) e hc' d ?_ ⟨S [cs[i]],H,I1,⟨s.toks,rfl⟩,⟨rfl,cs[i],by simp [hg],rfl⟩,st',λb hb=>(hf b hb).1⟩⟩;rcases QF (tx cs)with z|z<;>rw [z]<;>decide
  rcases QF (tx cs)with z|z
  · rw [z]at st
    refine wpAny_pyNext_ascii_item st hx λh' st' sb=>fin h' (by rw [z];exact st') sb
  · rw [z]at st
    refine wpAny_pyNext_wide_item st hx λh' st' sb=>fin h' (by rw [z];exact st') sb
 done:=by
  intro X hP hw hK hc i pins s σ H E I hf st hg;subst hP hw hK;obtain⟨f0,f1,f2,f3,f4,f5⟩:=hf it (by simp);have hg:cs.length<=i:=hg;have hx:(tx cs).cps[i]? = none:=by simp [tx];omega
  rcases QF (tx cs)with z|z
  · rw [z]at st
    exact wpAny_pyNext_ascii_end (I.ok.hd hc) st hx λh' eb=>⟨rfl,I.turned (t':=s.toks) (λb o hb e=>eb b o hb e) f0 f1 f3 f4 f5⟩
  · rw [z]at st
    exact wpAny_pyNext_wide_end (I.ok.hd hc) st hx λh' eb=>⟨rfl,I.turned (t':=s.toks) (λb o hb e=>eb b o hb e) f0 f1 f3 f4 f5⟩
 self:=λ_ i _ _ _ st h=>by
  rcases QF (tx cs)with z|z
  · rw [z]at st
    exact wpAny_pyIter_striter_ascii st h
  · rw [z]at st
    exact wpAny_pyIter_striter_wide st h
variable{tg:Expr}
def ZkR(K:PySem.W.Frag)(tl:TE):TI:=λσ H R=>tl σ H λx H1=>(∃a xs,x = .ref a/\SqL K H1 a xs/\R (Itl K a) H1)\/(∃a xs,x = .ref a/\SqT K H1 a xs/\R (Itt K a) H1)\/∃cs,x=S cs/\R (Its cs) H1
theorem ZiG{l:Expr}{tl:TE}(hl:PE X l tl):PI X tg l (ZkR X.K tl):=by
 intro pins s σ H R I h;refine thn (hl pins s σ H _ I h) λv s1 ⟨x,H1,I1,r1,q1⟩ => ?_
 rcases q1 with⟨a,xs,e,hq,q⟩|⟨a,xs,e,hq,q⟩|⟨cs,e,q⟩
 · subst e
   cases r1;obtain⟨its,rv,p,hz⟩:=I1.list hq;refine wpAny_pyIter_list p.isList ?_;refine⟨s1.heap.objs.size,[s1.heap.objs.size],_,_,H1,rfl,I1.kept (t':=s1.toks) λb o e=>Heap.get?_push_of_some _ e,Zei a _,⟨_,Heap.get?_push_size _ rfl,rfl,rfl⟩,λb hb => ?_,q⟩;have e:b=s1.heap.objs.size:=by simpa using hb
   subst e;exact I1.fpOk (Nat.le_refl _) (I1.hok.fresh (Nat.le_refl _))
 · have hpi:=Ziy (X:=X) (tg:=tg) (l:=l) (tl:=λ_ H Q=>Q (.ref a) H)
   subst e;cases r1;obtain⟨its,rv,p,hz⟩:=I1.tuple hq;refine wpAny_pyIter_tuple (show s1.heap.IsTuple a its.toArray from p) ?_;refine⟨s1.heap.objs.size,[s1.heap.objs.size],_,_,H1,rfl,I1.kept (t':=s1.toks) λb o e=>Heap.get?_push_of_some _ e,ZaY a _,⟨_,Heap.get?_push_size _ rfl,rfl,rfl⟩,λb hb => ?_,q⟩;have e:b=s1.heap.objs.size:=by simpa using hb
   subst e;exact I1.fpOk (Nat.le_refl _) (I1.hok.fresh (Nat.le_refl _))
 · subst e
   obtain⟨t,rfl⟩:=r1;refine wpAny_pyIter_strU ?_;refine⟨s1.heap.objs.size,[s1.heap.objs.size],_,_,H1,rfl,I1.kept (t':=s1.toks) λb o e=>Heap.get?_push_of_some _ e,Zfl _ cs t,⟨_,Heap.get?_push_size _ rfl,rfl,rfl⟩,λb hb => ?_,q⟩;have e:b=s1.heap.objs.size:=by simpa using hb
   subst e;exact I1.fpOk (Nat.le_refl _) (I1.hok.fresh (Nat.le_refl _))
def rAddS:R2:=λx y H Q=>∃a b,x=S a/\y=S b/\a.length+b.length<=sizeLine/\Q (S (a++b)) H
theorem op_addS:OpR X (binaryOp .Add) rAddS:=by
 intro pins s σ H x y v u Q I rx ry h;obtain⟨a,b,rfl,rfl,hz,q⟩:=h;refine Zdd pins s σ H _ _ v u Q I rx ry ⟨tx a,tx b,rfl,rfl,by rw [Xl,Xl];exact hz,?_⟩;rw [Zdz];exact q
def rAddX:R2:=λx y H Q=>rI0 (λi j => .int (i+j)) x y H Q\/rAddS x y H Q\/rCat x y H Q
theorem YF:OpR X (binaryOp .Add) rAddX:=op_add.or (op_addS.or ZiF)
def ZkS(neg:Bool):R2:=λx y H Q=>∃c b,x=S [c]/\y=S b/\Q (.bl (neg != decide (c∈b))) H
theorem op_inS:OpR X (compareOp .In) (ZkS false):=by
 intro pins s σ H x y v u Q I rx ry h;obtain⟨c,b,rfl,rfl,q⟩:=h;refine Zej pins s σ H _ _ v u Q I rx ry ⟨tx [c],tx b,rfl,rfl,?_⟩;have e:=StrLaws.found_one (tx b) c;rw [V6]at e;rw [show tx [c]=(⟨#[c]⟩:Str)from rfl,e];simpa using q
theorem op_notInS:OpR X (compareOp .NotIn) (ZkS true):=by
 intro pins s σ H x y v u Q I rx ry h;obtain⟨c,b,rfl,rfl,q⟩:=h;refine ZbZ pins s σ H _ _ v u Q I rx ry ⟨tx [c],tx b,rfl,rfl,?_⟩;have e:=StrLaws.found_one (tx b) c;rw [V6]at e;rw [show tx [c]=(⟨#[c]⟩:Str)from rfl,e];simpa using q
def QG(K:PySem.W.Frag)(neg:Bool):R2:=λx y H Q=>ZkS neg x y H Q\/rIn K neg x y H Q
theorem ZiH:OpR X (compareOp .In) (QG X.K false):=op_inS.or Zep
theorem Zet:OpR X (compareOp .NotIn) (QG X.K true):=op_notInS.or Zb1
def rIxSt:R2:=λx y H Q=>∃a i c,x=S a/\y = .int i/\a.length<=sizeLine/\atI a i=some c/\Q (S [c]) H
theorem Zm5:IxR X rIxSt:=by
 intro value slice pins s σ H x y v u Q I rx ry h hs;obtain⟨a,i,c,rfl,rfl,hz,he,q⟩:=h;exact ZiC value slice pins s σ H _ _ v u Q I rx ry ⟨tx a,i,c,rfl,rfl,by rw [Xl];exact hz,by rw [V6];exact he,q⟩ hs
def ZkT(K:PySem.W.Frag):R2:=λx y H Q=>ZmS K x y H Q\/ZmT K x y H Q\/rIxSt x y H Q
theorem Zm6:IxR X (ZkT X.K):=ix_list.or (ix_tup.or Zm5)
def rSlS:V->Option Int->Option Int->Hp->VK->Prop:=λx lo hi H Q=>∃a,x=S a/\a.length<=sizeLine/\Q (S (cutL a lo hi)) H
theorem sl_S:SlR X rSlS:=by
 intro pins s σ H x v vl vu lo hi sl Q I rx hs pl pu h;obtain⟨a,rfl,hz,q⟩:=h;obtain⟨t,rfl⟩:=rx;refine⟨"str",_,F.slot_str_getitem.lookup,typeIs_str _ _ _,?_⟩;have fin:∀t' k,EP X pins σ Q (.str (Txt.slice (tx a) lo hi) t') { s with toks:=k }:=λt' k=>⟨S (cutL a lo hi),H,I.tok _,⟨t',by rw [Zfh]⟩,q⟩
 have hle:(Txt.slice (tx a) lo hi).length<=sizeLine:=Nat.le_trans (Txt.slice_le _ _ _) (by rw [Xl];exact hz);cases pl with
 |none=>
  cases pu with
  |none=>exact wpAny_getItem_str_slice (l:=none) (u:=none) (st:=none) hs rfl (post_val_or_str ⟨hle,fin⟩)
  |int j uj=>exact wpAny_getItem_str_slice (l:=none) (u:=some (j,uj)) (st:=none) hs rfl (post_val_or_str ⟨hle,fin⟩)
 |int i ui=>
  cases pu with
  |none=>exact wpAny_getItem_str_slice (l:=some (i,ui)) (u:=none) (st:=none) hs rfl (post_val_or_str ⟨hle,fin⟩)
  |int j uj=>exact wpAny_getItem_str_slice (l:=some (i,ui)) (u:=some (j,uj)) (st:=none) hs rfl (post_val_or_str ⟨hle,fin⟩)
def ZkU(K:PySem.W.Frag):V->Option Int->Option Int->Hp->VK->Prop:=λx lo hi H Q=>rSlS x lo hi H Q\/ZmU K x lo hi H Q\/ZmR K x lo hi H Q
theorem Zm7:SlR X (ZkU X.K):=sl_S.or (sl_list.or ZiB)
def ZgE(K:PySem.W.Frag):List V->Hp->VK->Prop:=λxs H Q=>(∃a,xs=[S a]/\a.length<=sizeLine/\Q (.int a.length) H)\/∃p ys,xs=[.ref p]/\(SqL K H p ys\/SqT K H p ys)/\Q (.int ys.length) H
theorem Zeu:Y5 X (.builtin "len") (ZgE X.K):=by
 intro pins s σ H xs us Q I rs q;rcases q with⟨a,rfl,hz,q⟩|q
 · exact Zb3 pins s σ H _ us Q I rs ⟨tx a,rfl,by rw [Xl];exact hz,by rw [Xl];exact q⟩
 · exact Zb2 pins s σ H xs us Q I rs q
def rIntX:List V->Hp->VK->Prop:=λxs H Q=>(∃a,xs=[S a]/\a.length<=640/\a≠[]/\a.all Zjo=true/\Q (.int (ZkQ a:Nat)) H)\/(∃k,xs=[.bl k]/\Q (.int (if k then 1 else 0)) H)
theorem Zev:Y5 X (.type "int") rIntX:=by
 intro pins s σ H xs us Q I rs h;rcases h with⟨a,rfl,hl,hne,hd,q⟩|h
 · obtain⟨u,rfl,t,rfl⟩:=XZ rs
   have hd':PySem.NumText.AllDigits (tx a).cps.toList:=by
    rw [V6];intro c hc;have:=List.all_eq_true.mp hd c hc;unfold Zjo at this;rw [Bool.and_eq_true,decide_eq_true_eq,decide_eq_true_eq]at this;exact this
   have e:=PySem.intText_digits hd' (by rw [V6];exact hne) (by rw [Xl];omega);rw [V6]at e;exact PySem.W.KIN.call_text e (by rw [Xl];exact hl) ⟨.int (ZkQ a:Nat),H,I.tok _,⟨_,rfl⟩,q⟩
 · exact Zek pins s σ H xs us Q I rs (.inr h)
theorem Zg2(bs:List Bool):∀(its:List Value),Vals (bs.map V.bl) its->its=bs.map Value.bool:=by
 induction bs with
 |nil=>intro its r;cases r;rfl
 |cons b bs ih=>
  intro its r;cases r with
  |cons r1 r2=>
   rw [ih _ r2];cases r1;rfl
theorem Zew(bs:List Bool):((List.range bs.length).all λi=>bs.getD i false)=bs.all id:=by
 rw [Bool.eq_iff_iff,List.all_eq_true,List.all_eq_true];constructor
 · intro h b hb
   obtain⟨i,hi⟩:=List.getElem?_of_mem hb;have hl:i<bs.length:=(List.getElem?_eq_some_iff.mp hi).1;have:=h i (List.mem_range.mpr hl);rw [List.getD_eq_getElem?_getD,hi]at this;exact this
 · intro h i hi
   have hl:=List.mem_range.mp hi;have:=h bs[i] (List.getElem_mem hl);rw [List.getD_eq_getElem?_getD,List.getElem?_eq_getElem hl];exact this
theorem Zex(bs:List Bool):((List.range bs.length).any λi=>bs.getD i false)=bs.any id:=by
 rw [Bool.eq_iff_iff,List.any_eq_true,List.any_eq_true];constructor
 · rintro⟨i,hi,h⟩
   have hl:=List.mem_range.mp hi;rw [List.getD_eq_getElem?_getD,List.getElem?_eq_getElem hl]at h;exact⟨bs[i],List.getElem_mem hl,h⟩
 · rintro⟨b,hb,h⟩
   obtain⟨i,hi⟩:=List.getElem?_of_mem hb;have hl:i<bs.length:=(List.getElem?_eq_some_iff.mp hi).1;refine⟨i,List.mem_range.mpr hl,?_⟩;rw [List.getD_eq_getElem?_getD,hi];exact h
def Jl(K:PySem.W.Frag)(f:List Bool->Bool):List V->Hp->VK->Prop:=λxs H Q=>∃p bs,xs=[.ref p]/\SqL K H p (bs.map V.bl)/\Q (.bl (f bs)) H
theorem Za0 {pins:List (Addr×Obj)} {σ:St} {H:Hp} {s:Shared} {p:Addr} {bs:List Bool} {Q:Value->Shared->Prop} {E:Value->Shared->Prop} {f:(Nat->Bool)->Bool} (hc:X.calm=true) (I:Inv X pins σ H s) (hq:SqL X.K H p (bs.map V.bl))
 (q:∀h' tk,(∀b o,s.heap.get? b=some o->h'.get? b=some o)->Q (.bool (f λi=>bs.getD i false)) { s with heap:=h',toks:=tk }) :
 wpAny (model X.prog X.w) X.A.in1 (pyIter (.ref p)) (λit s₂=>∃I fp wr n P St tr,it = .ref I/\Walks X.prog X.w X.A.in1 I fp wr n P St/\St 0 s₂.heap/\TruthOf X.prog X.w X.A.in1 P tr /\
  n=bs.length/\tr=(λi=>bs.getD i false)/\∀h' tk,(∀b o,b∉wr->s₂.heap.get? b=some o->h'.get? b=some o)->Q (.bool (f tr)) { s₂ with heap:=h',toks:=tk }) E s:=by
 obtain⟨its,rv,pl,hz⟩:=I.list hq;have e:=Zg2 bs its rv;subst e;refine wpAny_pyIter_list pl.isList ?_;have hlt:p<s.heap.objs.size:=pl.lt;have hh:X.A.in1.handled=none:=I.ok.hd hc;refine⟨s.heap.objs.size,_,_,_,_,_,λi=>bs.getD i false,rfl,Walks.list hh _ p (Nat.ne_of_lt hlt) (bs.map Value.bool).toArray,⟨⟨_,Heap.get?_push_size _ rfl,rfl,rfl⟩,(pl.keeps λb o e=>Heap.get?_push_of_some _ e).isList⟩,?_,by simp,rfl,λh' tk k => ?_⟩
 · intro i v s' Q' E' hv hq'
   have:v=Value.bool (bs.getD i false):=by
    have hv':(bs.map Value.bool)[i]? = some v:=by simpa using hv
    rw [List.getElem?_map]at hv';rw [List.getD_eq_getElem?_getD];cases e:bs[i]? with
    |none=>rw [e]at hv';cases hv'
    |some b=>rw [e]at hv';exact(Option.some.inj hv').symm
   subst this;exact wpAny_truthy_bool hq'
 · refine q h' tk λb o e=>k b o (λz => ?_) (Heap.get?_push_of_some _ e)
   have h1:=Heap.lt_size e;have h2:b=s.heap.objs.size:=by simpa using z
   rw [h2]at h1;exact Nat.lt_irrefl _ h1
theorem Zey(hc:X.calm=true):Y5 X (.builtin "all") (Jl X.K λbs=>bs.all id):=by
 intro pins s σ H xs us Q I rs h;obtain⟨p,bs,rfl,hq,q⟩:=h;obtain⟨u,rfl,rx⟩:=XZ rs;cases rx;have z:=Za0 (f:=λtr=>(List.range bs.length).all tr) (Q:=EP X pins σ Q) (E:=X.xe) hc I hq λh' tk k=>⟨.bl _,H,I.kept k,rfl,by rw [Zew];exact q⟩
 refine call_all_walk (wpAny_mono z (λit s₂ z2 => ?_) λ_ _ z=>z);obtain⟨I',fp,wr,n,P,St,tr,e1,W,st,ht,en,et,hq'⟩:=z2;exact⟨I',fp,wr,n,P,St,tr,e1,W,st,ht,λh' tk k=>by rw [en];exact hq' h' tk k⟩
theorem Zez(hc:X.calm=true):Y5 X (.builtin "any") (Jl X.K λbs=>bs.any id):=by
 intro pins s σ H xs us Q I rs h;obtain⟨p,bs,rfl,hq,q⟩:=h;obtain⟨u,rfl,rx⟩:=XZ rs;cases rx;have z:=Za0 (f:=λtr=>(List.range bs.length).any tr) (Q:=EP X pins σ Q) (E:=X.xe) hc I hq λh' tk k=>⟨.bl _,H,I.kept k,rfl,by rw [Zex];exact q⟩
 refine call_any_walk (wpAny_mono z (λit s₂ z2 => ?_) λ_ _ z=>z);obtain⟨I',fp,wr,n,P,St,tr,e1,W,st,ht,en,et,hq'⟩:=z2;exact⟨I',fp,wr,n,P,St,tr,e1,W,st,ht,λh' tk k=>by rw [en];exact hq' h' tk k⟩
theorem Zfm:Y5 X (.builtin "isinstance") (λxs H Q=>∃x c cv t b,xs=[x,c]/\(∀v,RelV c v->v=cv)/\TyOf X.K H x t/\kitOne X.K t cv=some b/\Q (.bl b) H):=by
 intro pins s σ H xs us Q I rs h;obtain⟨x,c,cv,t,b,rfl,hc,ty,e,q⟩:=h;obtain⟨u,w',rfl,rx,rc⟩:=Je rs;have ec:=hc _ rc;subst ec;exact Zen I rx ty e λtk=>⟨.bl b,H,I.tok tk,rfl,q⟩
theorem Zam:MtR X "str.endswith" (λx xs H Q=>∃a b,x=S a/\xs=[S b]/\Q (.bl (b.isSuffixOf a)) H):=by
 intro pins s σ H x xs v us Q I rx rs h;obtain⟨a,b,rfl,rfl,q⟩:=h;obtain⟨t,rfl⟩:=rx;obtain⟨u,rfl,t',rfl⟩:=XZ rs;refine SC.endswith ?_;rw [ZgZ];exact⟨.bl _,H,I,rfl,q⟩
end
section
variable{X:Cx}{K:PySem.W.Frag}{pos:Pos}{tg:Expr}
theorem ZhV(hK:X.K=K:=by rfl):OpR X (compareOp .In) (QG K false):=hK▸ZiH
theorem Zfn(hK:X.K=K:=by rfl):OpR X (compareOp .NotIn) (QG K true):=hK▸Zet
theorem Z9(hK:X.K=K:=by rfl):IxR X (ZkT K):=hK▸Zm6
theorem XF(hK:X.K=K:=by rfl):SlR X (ZkU K):=hK▸Zm7
theorem YT(hK:X.K=K:=by rfl):Y5 X (.builtin "len") (ZgE K):=hK▸Zeu
theorem Ze0(hc:X.calm=true:=by rfl)(hK:X.K=K:=by rfl):Y5 X (.builtin "all") (Jl K λbs=>bs.all id):=hK▸Zey hc
theorem ZhW(hc:X.calm=true:=by rfl)(hK:X.K=K:=by rfl):Y5 X (.builtin "any") (Jl K λbs=>bs.any id):=hK▸Zez hc
def Zm8(K:PySem.W.Frag):List V->Hp->VK->Prop:=λxs H Q=>∃x c cv t b,xs=[x,c]/\(∀v,RelV c v->v=cv)/\TyOf K H x t/\kitOne K t cv=some b/\Q (.bl b) H
theorem XR{l:Expr}{tl:TE}(hl:PE X l tl)(hK:X.K=K:=by rfl):PI X tg l (ZkR K tl):=hK▸ZiG hl
theorem YU{e:Expr}{ta:TE}{f:Str}(he:PE X e ta)(hb:attributeBase e f X.env (eval e X.env)=eval e X.env:=by rfl)(hK:X.K=K:=by rfl):PE X (.Attribute e f pos) (ZkM K ta f):=hK▸Ziz he hb
def Zge(K:PySem.W.Frag):List V->Hp->VK->Prop:=λxs H Q=>∃p ys,xs=[.ref p]/\((SqL K H p ys/\∀l,H l=none->Q (.ref l) (upd H l (.tup ys)))\/(SqT K H p ys/\Q (.ref p) H))
theorem Jm(hK:X.K=K:=by rfl):Y5 X (.type "tuple") (Zge K):=hK▸ZbA
theorem Vn {o e:Expr} {es:List Expr} {to:TE} {t:TA} {name:Str} {apos cpos:Pos} {T id:String} {r:V->List V->Hp->VK->Prop} (pa:PlainAttrs T) (slot:Slot T name id) (hty:typeOf (.builtin id)=pure (.type "method_descriptor")) (hm:MtR X id r) (ho:PE X o to) (ha:PA X (e::es) t)
 (hbase:attributeBase o name X.env (eval o X.env)=eval o X.env:=by rfl)
 (hfew:((backTo cpos (starEach (e::es) X.env)).all (λx => !x.1)&&(backToKw cpos (keywordEach [] X.env)).all (λx=>x.1.isSome)
   && decide ((e::es).length+([]:List Keyword).length+(if([]:List Keyword).isEmpty then 0 else 1)<30))=true:=by rfl)
 (hline:(apos.endLine == cpos.line)=true:=by rfl) (hs:starEach (e::es) X.env=(false,eval e X.env)::starEach es X.env:=by rfl) (hplain:(backTo cpos (starEach es X.env)).any (·.1)=false:=by rfl) (hK:X.K=K:=by rfl) :
 PE X (.Call (.Attribute o name apos) (e::es) [] cpos) (tBM K T r to t):=hK▸Zll pa slot hty hm ho ha hbase hfew hline hs hplain
theorem ZgF {es:List Expr} {k:Nat} {t:TGs} {n:Nat} (h:PGs X es t) (hc:X.calm=true:=by rfl)
 (hn:(assignEach es X.env).length=n:=by rfl) (hst:(assignEach es X.env).findIdx? (·.1)=none:=by rfl) (hK:X.K=K:=by rfl):PG X (.Tuple es k pos) (ZkJ K n t):=hK▸Ziw hc h hn hst
end
end L2
namespace L2
open PySem PySem.Spec PyProof.Rows
theorem Zfo{H:Hp}{q:Addr}{o:HO}(h:H q=none):Same H (upd H q o):=λb u e=>by
 rw [Ye (Y7 e h)];exact e
structure Walk(J:It)(xs:List V)(H:Hp):Prop where
 go:∀i,i<xs.length->J.go i H
 yld:∀(i:Nat)v H',i<xs.length->J.yld i H v H'->H'=H/\xs[i]? = some v
 stop:∀i,xs.length<=i->J.stop i H
end L2
namespace L2
open PySem PySem.Spec PyProof.Rows
section
variable{X:Cx}{tg:Expr}
end
end L2
namespace L2
open PySem PySem.Spec PyProof.Rows
def ZkV(n0:Nat)(cs:List Nat):It:=⟨λi _=>i<cs.length,λi H v H'=>∃c p,cs[i]? = some c/\H p=none/\v = .ref p/\H'=upd H p (.tup [.int ((n0+i:Nat):Int),S [c]]),λi _=>cs.length<=i⟩
theorem ZbO{prog:Program}{w:World}{A:Around}(hh:A.handled=none)(it:Addr)(cs:List Nat)(t:Tok)(n0:Nat) :
 Draws prog w A it [it] (n0+cs.length) (λi v=>∃j c u,i=n0+j/\cs[j]? = some c/\v = .str ⟨#[c]⟩ u) (λi h=>∃j,i=n0+j/\h.IsStrIter it (strIterType (tx cs)) (tx cs) t j) where
 live:=λi h ⟨j,_,o,ho,_⟩=>⟨o,ho⟩
 frame:=λi h h' ⟨j,e,o,ho,r⟩ hk=>⟨j,e,o,hk it (by simp) o ho,r⟩
 item:=λi s Q E hi st hQ=>by
  obtain⟨j,rfl,st⟩:=st;have hj:j<cs.length:=by omega
  have hx:(tx cs).cps[j]? = some cs[j]:=by simp [tx,hj]
  rcases QF (tx cs)with z|z
  · rw [z]at st
    refine wpAny_nextOf_ascii_item st hx λh' st' sb => ?_
    exact hQ _ h' (s.toks+1) ⟨j,_,_,rfl,by simp [hj],rfl⟩ ⟨j+1,by omega,by rw [z];exact st'⟩ sb
  · rw [z]at st
    refine wpAny_nextOf_wide_item st hx λh' st' sb => ?_
    exact hQ _ h' (s.toks+1) ⟨j,_,_,rfl,by simp [hj],rfl⟩ ⟨j+1,by omega,by rw [z];exact st'⟩ sb
 done:=λs Q E st hE=>by
  obtain⟨j,e,st⟩:=st;have hj:j=cs.length:=by omega
  subst hj;have hx:(tx cs).cps[cs.length]? = none:=by simp [tx]
  rcases QF (tx cs)with z|z
  · rw [z]at st
    exact wpAny_nextOf_ascii_end hh st hx hE
  · rw [z]at st
    exact wpAny_nextOf_wide_end hh st hx hE
theorem Zdk{P:Program}{w:World}{K:PySem.W.Frag}{elts:List Expr}{x1:Nat}{tpos:Pos}(e it:Addr)(hne:e≠it)(n0:Nat)(cs:List Nat)(t:Tok) :
 Turn P w K (.Tuple elts x1 tpos) (ZkV n0 cs) [e,it] e (λi h=>(i<=cs.length/\∃old,IsEnum h e it ((n0+i:Nat):Int) old)/\h.IsStrIter it (strIterType (tx cs)) (tx cs) t i) where
 mem:=by simp
 obj:=λi h st b hb=>by
  obtain⟨⟨_,old,he⟩,o,ho,hc,hd⟩:=st;simp at hb;rcases hb with rfl|rfl
  · exact ⟨_, he, fun v z => by
     have z':Data.fields _=Data.cell v:=z;cases z'⟩
  · exact⟨o,ho,λv z=>by rw [hd]at z;cases z⟩
 keep:=λi h h' st k=>by
  obtain⟨⟨hi,old,he⟩,o,ho,r⟩:=st;exact⟨⟨hi,old,k e (by simp) _ he⟩,o,k it (by simp) o ho,r⟩
 item:=by
  intro X hP hw hK hc i pins s σ H E I hf st hg;subst hP hw hK;obtain⟨⟨_,old,he⟩,st⟩:=st;have hg:i<cs.length:=hg;have f:=hf e (by simp);have g:=hf it (by simp);obtain⟨e0,e1,e2,e3,e4,e5⟩:=f;obtain⟨f0,f1,f2,f3,f4,f5⟩:=g;have D:=ZbO (prog:=X.prog) (w:=X.w) (A:=X.A.in1) (I.ok.hd hc) it cs t n0;refine wpAny_pyNext_enum_itemD D he ⟨i,rfl,st⟩ (by omega) hne (by simp [hne]) λx h' tk hP ho st' hT hsz hk => ?_
  obtain⟨j,c,u,ej,hcx,rfl⟩:=hP;have ej':j=i:=by omega
  subst ej';refine⟨_,rfl,wpAny_letOwnedTupleGo_enum ho λh2 he2 hs2 => ?_⟩;have hs2:Heap.SameBut e h' h2:=hs2;have hTl:e<s.heap.objs.size:=Heap.lt_size he;obtain⟨j',ej2,st''⟩:=st';have ej3:j'=j+1:=by omega
  subst ej3;have hT2:h2.get? s.heap.objs.size=some { cls := .type "tuple",data := .seq #[.int ((n0+j:Nat):Int) tk,.str ⟨#[c]⟩ u] }:=(hs2.2 _ (Nat.ne_of_gt hTl)).trans hT;have k2:∀b o,b≠e->b≠it->s.heap.get? b=some o->h2.get? b=some o:=λb o hb hb' q=>(hs2.2 b hb).trans (hk b o hb hb' q)
  have hTn:H s.heap.objs.size=none:=I.hok.fresh (Nat.le_refl _);have neT:∀b o,s.heap.get? b=some o->b≠s.heap.objs.size:=λb o q=>Nat.ne_of_lt (Heap.lt_size q)
  have I2:Inv X pins σ (upd H s.heap.objs.size (.tup [.int ((n0+j:Nat):Int),S [c]])) { s with heap:=h2,toks:=tk+1 }:=by
   refine I.step (g':=s.gens) (d':=s.drawn) (ch:=[e,it]) (λb hb => ?_) (λb o _ _ hcb q _ => ?_) (λb o _ _ hcb q _ => ?_) (λb o hcb q n => ?_) (λb o hcb q => ?_) (λb xs q => ?_) (λb o v q => ?_) (λb ps q => ?_) (λm hm => ?_) (λb o q => ?_) I.bare
   · simp at hb
     rcases hb with rfl|rfl
     · exact⟨e3,e1,e4,e5⟩
     · exact⟨f3,f1,f4,f5⟩
   · simp at hcb
     exact k2 b o hcb.1 hcb.2 q
   · simp at hcb
     exact⟨o.slots,k2 b o hcb.1 hcb.2 q⟩
   · rw [Ye (neT b o q)]
     exact n
   · simp at hcb
     exact⟨o,k2 b o hcb.1 hcb.2 q⟩
   · rw [Ye (Y7 q hTn)]
     exact q
   · rw [Ye (Y7 q hTn)]
     exact q
   · exact⟨#[],by rw [Ye (Y7 q hTn),q];simp⟩
   · obtain⟨o,es,ep,q,r⟩:=hm
     exact⟨o,es,ep,k2 _ o (Ne.symm e1) (Ne.symm f1) q,r⟩
   · by_cases hb:b=s.heap.objs.size
     · subst hb
       rw [YO]at q;cases q;refine⟨by show 2<=sizeLine;decide,[.int ((n0+j:Nat):Int) tk,.str ⟨#[c]⟩ u],.cons ⟨_,rfl⟩ (.cons ⟨_,rfl⟩ .nil),?_⟩;exact⟨_,hT2,rfl,⟨_,rfl⟩,rfl⟩
     · rw [Ye hb]at q
       have nn:∀(b:Addr)(o:HO),H b=some o->b≠e/\b≠it:=λb o q=>⟨λz=>(by rw [z,e0]at q;cases q),λz=>(by rw [z,f0]at q;cases q)⟩
       refine(I.hok b o q).stay (λd v hd q' => ?_) (λd q'=>by rw [Ye (Y7 q' hTn)];exact q') λd xs q'=>by rw [Ye (Y7 q' hTn)];exact q'
       rcases hd with rfl|hd
       · exact k2 d v (nn d o q).1 (nn d o q).2 q'
       · exact k2 d v (nn d _ hd).1 (nn d _ hd).2 q'
  have he3:IsEnum h2 e it ((n0+(j+1):Nat):Int) (.str ⟨#[c]⟩ u):=by
   have:((n0+(j+1):Nat):Int)=((n0+j:Nat):Int)+1:=by push_cast;omega
   rw [this];exact he2
  refine⟨.ref s.heap.objs.size,_,I2,rfl,⟨c,s.heap.objs.size,hcx,hTn,rfl,rfl⟩,⟨⟨hg,_,he3⟩,?_⟩,λb hb => ?_⟩
  · obtain⟨o,ho',r⟩:=st''
    exact⟨o,(hs2.2 it (Ne.symm hne)).trans ho',r⟩
  · simp at hb
    rcases hb with rfl|rfl
    · rw [Ye (Nat.ne_of_lt hTl)];exact e0
    · obtain⟨o,ho',_⟩:=st
      rw [Ye (neT _ o ho')];exact f0
 done:=by
  intro X hP hw hK hc i pins s σ H E I hf st hg;subst hP hw hK;obtain⟨⟨hi,old,he⟩,st⟩:=st;have hg:cs.length<=i:=hg;have ei:i=cs.length:=by omega
  subst ei;obtain⟨f0,f1,f2,f3,f4,f5⟩:=hf it (by simp);have D:=ZbO (prog:=X.prog) (w:=X.w) (A:=X.A.in1) (I.ok.hd hc) it cs t n0;exact wpAny_pyNext_enum_endD D he ⟨cs.length,rfl,st⟩ λh' eb=>⟨rfl,I.turned (t':=s.toks) (λb o hb q=>eb b o hb q) f0 f1 f3 f4 f5⟩
 self:=λ_ _ _ _ _ st h=>by
  obtain⟨⟨_,old,he⟩,_⟩:=st;exact wpAny_pyIter_enum he h
section
variable{X:Cx}{elts:List Expr}{x1:Nat}{tpos:Pos}
def ZgG(ta:TA):TI:=λσ H R=>ta σ H λvs H1=>∃cs,vs=[S cs]/\R (ZkV 0 cs) H1
theorem Zg3 {a:Expr} {ta:TA} {p pos:Pos} (hg:Gl X "enumerate") (hm:X.mg "enumerate" = none) (ha:PA X [a] ta) (hs:starEach [a] X.env=[(false,eval a X.env)]:=by rfl):PI X (.Tuple elts x1 tpos) (.Call (.Name "enumerate" p) [a] [] pos) (ZgG ta):=by
 intro pins s σ H R I h;refine Call_ (Qv I hg hm boot_enumerate (PyProof.Rows.callWith_type1 (thn (ha pos pins s σ H _ I h) λus s1 ⟨vs,H1,I1,r1,q1⟩ => ?_) hs rfl));obtain⟨cs,e,q⟩:=q1;subst e;cases r1 with
 |cons r rr=>
  cases rr;obtain⟨t,rfl⟩:=r;refine call_enumerate_str λh' he st hsz k => ?_
  refine wpAny_pyIter_enum he ?_;have I2:Inv X pins σ H1 { s1 with heap:=h' }:=I1.kept (t':=s1.toks) k;refine⟨s1.heap.objs.size+1,[s1.heap.objs.size+1,s1.heap.objs.size],_,_,H1,rfl,I2,Zdk (s1.heap.objs.size+1) s1.heap.objs.size (Nat.succ_ne_self _) 0 cs t,⟨⟨Nat.zero_le _,_,he⟩,st⟩,λb hb => ?_,q⟩
  have hb':s1.heap.objs.size<=b:=by
   simp at hb;rcases hb with rfl|rfl
   · exact Nat.le_succ _
   · exact Nat.le_refl _
  exact I1.fpOk hb' (I1.hok.fresh hb')
end
end L2
namespace L2
open PySem PySem.Spec PyProof.Rows
section
variable{κ:Type} [DecidableEq κ]
def VH(kvs:List (κ×V))(k:κ):Option V:=(kvs.find? λkv=>decide (kv.1=k)).map (·.2)
def Zjp(kvs:List (κ×V))(k:κ)(v:V):List (κ×V):=
 if(kvs.any λkv=>decide (kv.1=k))=true then kvs.map (λkv=>if kv.1=k then(kv.1,v)else kv)else kvs++[(k,v)]
theorem ZcK{p:κ×V}{r:List (κ×V)}{k:κ}(e:p.1=k):VH (p::r) k=some p.2:=by simp [VH,List.find?_cons,e]
theorem ZcL{p:κ×V}{r:List (κ×V)}{k:κ}(e:¬p.1=k):VH (p::r) k=VH r k:=by simp [VH,List.find?_cons,e]
theorem KV.val{kvs:List (κ×V)}{vs:List (κ×Value)}(r:KV kvs vs)(k:κ):RelO (VH kvs k) (valueAt vs k):=by
 unfold KV at r
 induction r with
 |nil=>exact True.intro
 | @cons p q ps qs h t ih=>
  obtain⟨h1,h2⟩:=h
  by_cases e:p.1=k
  · have e':q.1=k:=h1.symm.trans e
    have b:valueAt (q::qs) k=some q.2:=by simp [valueAt,List.find?_cons,e']
    rw [ZcK e,b];exact h2
  · have e':¬q.1=k:=λz=>e (h1.trans z)
    have b:valueAt (q::qs) k=valueAt qs k:=by simp [valueAt,List.find?_cons,e']
    rw [ZcL e,b];exact ih
theorem KV.any{kvs:List (κ×V)}{vs:List (κ×Value)}(r:KV kvs vs)(k:κ):(kvs.any λkv=>decide (kv.1=k))=vs.any λkv=>decide (kv.1=k):=by
 unfold KV at r
 induction r with
 |nil=>rfl
 |cons h t ih=>rw [List.any_cons,List.any_cons,ih,h.1]
theorem KV.length{kvs:List (κ×V)}{vs:List (κ×Value)}(r:KV kvs vs):kvs.length=vs.length:=Paired.length r
end
abbrev KT(H:Hp):List (List Key×V)->List (List Key×Addr×Value)->Prop:=Paired λp q=>p.1=q.1/\H q.2.1=some (.tup (p.1.map kV))/\RelV p.2 q.2.2
theorem KT.val{H:Hp}{kvs:List (List Key×V)}{xs:List (List Key×Addr×Value)}(r:KT H kvs xs)(k:List Key):RelO (VH kvs k) ((atKey xs k).map (·.2)):=by
 induction r with
 |nil=>exact True.intro
 | @cons p q ps qs h t ih=>
  obtain⟨h1,_,h2⟩:=h
  by_cases e:p.1=k
  · have e':q.1=k:=h1.symm.trans e
    have b:atKey (q::qs) k=some q.2:=by simp [atKey,List.find?_cons,e']
    rw [ZcK e,b];exact h2
  · have e':¬q.1=k:=λz=>e (h1.trans z)
    have b:atKey (q::qs) k=atKey qs k:=by simp [atKey,List.find?_cons,e']
    rw [ZcL e,b];exact ih
theorem KT.keeps{H H':Hp}{kvs:List (List Key×V)}{xs:List (List Key×Addr×Value)}(r:KT H kvs xs)(ht:∀b ys,H b=some (.tup ys)->H' b=some (.tup ys)):KT H' kvs xs:=
 Paired.mapP r λ_ _ z=>⟨z.1,ht _ _ z.2.1,z.2.2⟩
section
variable{P:Program}{w:World}{H:Hp}{h:Heap}{a:Addr}
end
def DGet(H:Hp)(a:Addr)(y:V)(r:Option V):Prop:=
 (∃kvs k,Rd H a (.dK kvs)/\y=kV k/\r=VH kvs k)\/∃kvs k b,Rd H a (.dT kvs)/\y = .ref b/\H b=some (.tup (k.map kV))/\r=VH kvs k
def DPut(H:Hp)(a:Addr)(y v:V)(H':Hp):Prop:=
 (∃kvs k,H a=some (.dK kvs)/\y=kV k/\kvs.length<sizeLine/\H'=upd H a (.dK (Zjp kvs k v))) \/
 ∃kvs k b,H a=some (.dT kvs)/\y = .ref b/\H b=some (.tup (k.map kV))/\kvs.length<sizeLine/\H'=upd H a (.dT (Zjp kvs k v))
theorem DGet.k{H:Hp}{a:Addr}{kvs:List (Key×V)}{k:Key}(e:H a=some (.dK kvs)):DGet H a (kV k) (VH kvs k) := .inl ⟨kvs,k,.inl e,rfl,rfl⟩
theorem DGet.t{H:Hp}{a b:Addr}{kvs:List (List Key×V)}{k:List Key}(e:H a=some (.dT kvs))(eb:H b=some (.tup (k.map kV))):DGet H a (.ref b) (VH kvs k) := .inr ⟨kvs,k,b,.inl e,rfl,eb,rfl⟩
theorem DPut.k{H:Hp}{a:Addr}{kvs:List (Key×V)}{k:Key}{v:V}(e:H a=some (.dK kvs))(hl:kvs.length<sizeLine):DPut H a (kV k) v (upd H a (.dK (Zjp kvs k v))) := .inl ⟨kvs,k,e,rfl,hl,rfl⟩
theorem DPut.t{H:Hp}{a b:Addr}{kvs:List (List Key×V)}{k:List Key}{v:V}(e:H a=some (.dT kvs))(eb:H b=some (.tup (k.map kV)))(hl:kvs.length<sizeLine) :
 DPut H a (.ref b) v (upd H a (.dT (Zjp kvs k v))) := .inr ⟨kvs,k,b,e,rfl,eb,hl,rfl⟩
section
variable{X:Cx}{pins:List (Addr×Obj)}{σ:St}{H:Hp}{s:Shared}{a:Addr}{y v:V}{u r:Value}{o:Option V}{A:Around}{E:Value->Shared->Prop}
end
section
variable{X:Cx}{pins:List (Addr×Obj)}{σ:St}{H:Hp}{s:Shared}{a:Addr}{kvs:List (Key×V)}{k:Key}{u:Value}{A:Around}{E:Value->Shared->Prop}
end
section
variable{X:Cx}{o i e value:Expr}{pos pos' tpos:Pos}{td ty tv:TE}
end
section
variable{X:Cx}{pos:Pos}
end
structure M1(X:Cx)(o:Expr)(m:Str)(apos:Pos)(e:Expr)(cpos:Pos):Prop where
 base:attributeBase o m X.env (eval o X.env)=eval o X.env
 few:((backTo cpos (starEach [e] X.env)).all (λx => !x.1)&&(backToKw cpos (keywordEach [] X.env)).all (λx=>x.1.isSome)
  && decide (([e]:List Expr).length+([]:List Keyword).length+(if([]:List Keyword).isEmpty then 0 else 1)<30))=true
 line:(apos.endLine == cpos.line)=true
 trees:backTo cpos (starEach [e] X.env)=[(false,eval e X.env)]
structure M2(X:Cx)(o:Expr)(m:Str)(apos:Pos)(e f:Expr)(cpos:Pos):Prop where
 base:attributeBase o m X.env (eval o X.env)=eval o X.env
 few:((backTo cpos (starEach [e,f] X.env)).all (λx => !x.1)&&(backToKw cpos (keywordEach [] X.env)).all (λx=>x.1.isSome)
  && decide (([e,f]:List Expr).length+([]:List Keyword).length+(if([]:List Keyword).isEmpty then 0 else 1)<30))=true
 line:(apos.endLine == cpos.line)=true
 trees:backTo cpos (starEach [e,f] X.env)=[(false,eval e X.env),(false,eval f X.env)]
section
variable{X:Cx}{pins:List (Addr×Obj)}{σ:St}{H:Hp}{s:Shared}{a:Addr}{y d:V}{u r:Value}{o:Option V}{A:Around}{E:Value->Shared->Prop}
end
section
variable{X:Cx}{o e f:Expr}{apos cpos:Pos}{td ty tx:TE}
end
section
variable{X:Cx}{pins:List (Addr×Obj)}{σ:St}{H:Hp}{s:Shared}{a:Addr}{kvs:List (Key×V)}{A:Around}{E:Value->Shared->Prop}
end
section
variable{X:Cx}{pins:List (Addr×Obj)}{σ:St}{H:Hp}{s:Shared}{a:Addr}{y:V}{u:Value}{A:Around}{E:Value->Shared->Prop}
end
end L2
namespace DL
open PySem PySem.Spec L2
inductive D where
 |non
 |bl (b:Bool)
 |int (i:Int)
 |str (cs:List Nat)
 |lst (xs:List D)
 |tup (xs:List D)
 |obj (c:String) (ks:List String) (xs:List D)
 |dct (ks:List Key) (xs:List D)
 |dtt (ks:List (List Key)) (xs:List D)
def KL(K:PySem.W.Frag)(a:Addr)(vs:List V):Prop:=∃(o:Obj) (its:Array Value) (n:Nat),K.lookup a=some o/\o.cls = .type "list" /\ o.dict=none/\o.data = .seq its n/\its.size<=sizeLine/\Vals vs its.toList
structure Kn where
 c:String->Addr
 K:PySem.W.Frag
def Yp:D->Bool
 | .non=>true
 | .bl _=>true
 | .int _=>true
 | .str _=>true
 |_=>false
mutual
def Rep(cA:Kn)(av:Addr->Prop)(H:Hp):D->V->Prop
 | .non,v=>v = .non
 | .bl b,v=>v = .bl b
 | .int i,v=>v = .int i
 | .str cs,v=>v=S cs
 | .lst xs,v=>∃a vs,v = .ref a/\(av a->KL cA.K a vs)/\SqL cA.K H a vs/\RepL cA av H xs vs
 | .tup xs,v=>∃a vs,v = .ref a/\¬av a/\H a=some (.tup vs)/\RepL cA av H xs vs
 | .obj c ks xs,v=>∃a dx vs,v = .ref a/\¬av a/\H a=some (.ins (cA.c c) dx ((ks.map Str.ofString).zip vs))/\ks.length=xs.length/\RepL cA av H xs vs
 | .dct ks xs,v=>∃a vs,v = .ref a/\¬av a/\H a=some (.dK (ks.zip vs))/\ks.length=xs.length/\RepL cA av H xs vs
 | .dtt ks xs,v=>∃a vs,v = .ref a/\¬av a/\H a=some (.dT (ks.zip vs))/\ks.length=xs.length/\RepL cA av H xs vs
def RepL(cA:Kn)(av:Addr->Prop)(H:Hp):List D->List V->Prop
 | [],vs=>vs=[]
 |x::xs,vs=>∃v r,vs=v::r/\Rep cA av H x v/\RepL cA av H xs r
end
section
variable{cA:Kn}{G:Cn}{av av':Addr->Prop}{H H':Hp}
theorem Rd.ext{a:Addr}{u:HO}(h:Rd H a u)(k:∀o,H a=some o->H' a=some o):Rd H' a u:=by
 rcases h with h|⟨o,h⟩
 · exact .inl (k _ h)
 · exact .inr ⟨o,k _ h⟩
theorem Rd.there{a:Addr}{u:HO}(h:Rd H a u):H a≠none:=by
 rcases h with h|⟨o,h⟩<;>rw [h]<;>exact λz=>by cases z
theorem ZdA{K:PySem.W.Frag}{a:Addr}{vs:List V}(n:av a->KL K a vs)(r:SqL K H a vs)(k:∀b o,¬av b->H b=some o->H' b=some o):SqL K H' a vs:=by
 by_cases h:av a
 · exact .inr (n h)
 · rcases r with r|r
   · exact .inl (Rd.ext r λo=>k a o h)
   · exact .inr r
theorem Zlo{K:PySem.W.Frag}{a:Addr}{vs:List V}(n:av a->KL K a vs)(r:SqL K H a vs)(k:∀b,av' b->av b\/H b=none):av' a->KL K a vs:=λz=>by
 rcases k a z with z|z
 · exact n z
 · rcases r with r|r
   · exact absurd z (Rd.there r)
   · exact r
mutual
theorem Rep.ext:∀{d:D}{v:V},(∀b o,¬av b->H b=some o->H' b=some o)->Rep cA av H d v->Rep cA av H' d v
 | .non,_,_,h=>h
 | .bl _,_,_,h=>h
 | .int _,_,_,h=>h
 | .str _,_,_,h=>h
 | .lst xs,v,k,h=>by
  unfold Rep at h ⊢;obtain⟨a,vs,e,n,r,l⟩:=h;exact⟨a,vs,e,n,ZdA n r k,RepL.ext k l⟩
 | .tup xs,v,k,h=>by
  unfold Rep at h ⊢;obtain⟨a,vs,e,n,r,l⟩:=h;exact⟨a,vs,e,n,k a _ n r,RepL.ext k l⟩
 | .obj c ks xs,v,k,h=>by
  unfold Rep at h ⊢;obtain⟨a,dx,vs,e,n,r,z,l⟩:=h;exact⟨a,dx,vs,e,n,k a _ n r,z,RepL.ext k l⟩
 | .dct ks xs,v,k,h=>by
  unfold Rep at h ⊢;obtain⟨a,vs,e,n,r,z,l⟩:=h;exact⟨a,vs,e,n,k a _ n r,z,RepL.ext k l⟩
 | .dtt ks xs,v,k,h=>by
  unfold Rep at h ⊢;obtain⟨a,vs,e,n,r,z,l⟩:=h;exact⟨a,vs,e,n,k a _ n r,z,RepL.ext k l⟩
theorem RepL.ext:∀{xs:List D}{vs:List V},(∀b o,¬av b->H b=some o->H' b=some o)->RepL cA av H xs vs->RepL cA av H' xs vs
 | [],_,_,h=>h
 |x::xs,vs,k,h=>by
  unfold RepL at h ⊢;obtain⟨v,r,e,h1,h2⟩:=h;exact⟨v,r,e,Rep.ext k h1,RepL.ext k h2⟩
end
mutual
theorem Rep.av:∀{d:D}{v:V},(∀b,av' b->av b\/H b=none)->Rep cA av H d v->Rep cA av' H d v
 | .non,_,_,h=>h
 | .bl _,_,_,h=>h
 | .int _,_,_,h=>h
 | .str _,_,_,h=>h
 | .lst xs,v,k,h=>by
  unfold Rep at h ⊢;obtain⟨a,vs,e,n,r,l⟩:=h;exact⟨a,vs,e,Zlo n r k,r,RepL.av k l⟩
 | .tup xs,v,k,h=>by
  unfold Rep at h ⊢;obtain⟨a,vs,e,n,r,l⟩:=h;exact⟨a,vs,e,λz=>(k a z).elim n (by rw [r];exact λz=>by cases z),r,RepL.av k l⟩
 | .obj c ks xs,v,k,h=>by
  unfold Rep at h ⊢;obtain⟨a,dx,vs,e,n,r,z,l⟩:=h;exact⟨a,dx,vs,e,λy=>(k a y).elim n (by rw [r];exact λz=>by cases z),r,z,RepL.av k l⟩
 | .dct ks xs,v,k,h=>by
  unfold Rep at h ⊢;obtain⟨a,vs,e,n,r,z,l⟩:=h;exact⟨a,vs,e,λy=>(k a y).elim n (by rw [r];exact λz=>by cases z),r,z,RepL.av k l⟩
 | .dtt ks xs,v,k,h=>by
  unfold Rep at h ⊢;obtain⟨a,vs,e,n,r,z,l⟩:=h;exact⟨a,vs,e,λy=>(k a y).elim n (by rw [r];exact λz=>by cases z),r,z,RepL.av k l⟩
theorem RepL.av:∀{xs:List D}{vs:List V},(∀b,av' b->av b\/H b=none)->RepL cA av H xs vs->RepL cA av' H xs vs
 | [],_,_,h=>h
 |x::xs,vs,k,h=>by
  unfold RepL at h ⊢;obtain⟨v,r,e,h1,h2⟩:=h;exact⟨v,r,e,Rep.av k h1,RepL.av k h2⟩
end
theorem Rep.same{d:D}{v:V}(k:Same H H')(h:Rep cA av H d v):Rep cA av H' d v:=h.ext λb o _=>k b o
theorem RepL.same{xs:List D}{vs:List V}(k:Same H H')(h:RepL cA av H xs vs):RepL cA av H' xs vs:=h.ext λb o _=>k b o
theorem RepL.nil:RepL cA av H [] []:=by unfold RepL;rfl
theorem RepL.cons{d:D}{v:V}{xs:List D}{vs:List V}(h:Rep cA av H d v)(t:RepL cA av H xs vs):RepL cA av H (d::xs) (v::vs):=by
 unfold RepL;exact⟨v,vs,rfl,h,t⟩
theorem RepL.uncons{d:D}{xs:List D}{vs:List V}(h:RepL cA av H (d::xs) vs):∃v r,vs=v::r/\Rep cA av H d v/\RepL cA av H xs r:=by
 unfold RepL at h;exact h
theorem RepL.nil_of{vs:List V}(h:RepL cA av H [] vs):vs=[]:=by
 unfold RepL at h;exact h
theorem RepL.length:∀{xs:List D}{vs:List V},RepL cA av H xs vs->xs.length=vs.length
 | [],vs,h=>by rw [h.nil_of];rfl
 |x::xs,vs,h=>by
  obtain⟨v,r,rfl,_,t⟩:=h.uncons;rw [List.length_cons,List.length_cons,RepL.length t]
theorem RepL.get:∀{xs:List D}{vs:List V}{i:Nat}{x:D},RepL cA av H xs vs->xs[i]? = some x->∃v,vs[i]? = some v/\Rep cA av H x v
 | [],_,_,_,_,e=>by simp at e
 |y::xs,vs,0,x,h,e=>by
  obtain⟨v,r,rfl,h1,_⟩:=h.uncons;simp at e;subst e;exact⟨v,rfl,h1⟩
 |y::xs,vs,i+1,x,h,e=>by
  obtain⟨v,r,rfl,_,t⟩:=h.uncons;obtain⟨u,h1,h2⟩:=RepL.get (i:=i) t (by simpa using e);exact⟨u,by simpa using h1,h2⟩
theorem RepL.append:∀{xs ys:List D}{vs ws:List V},RepL cA av H xs vs->RepL cA av H ys ws->RepL cA av H (xs++ys) (vs++ws)
 | [],_,vs,_,h,t=>by rw [h.nil_of];exact t
 |x::xs,ys,vs,ws,h,t=>by
  obtain⟨v,r,rfl,h1,h2⟩:=h.uncons;exact .cons h1 (RepL.append h2 t)
theorem RepL.drop:∀{xs:List D}{vs:List V}(n:Nat),RepL cA av H xs vs->RepL cA av H (xs.drop n) (vs.drop n)
 |_,_,0,h=>h
 | [],vs,n+1,h=>by rw [h.nil_of];exact .nil
 |x::xs,vs,n+1,h=>by
  obtain⟨v,r,rfl,_,h2⟩:=h.uncons;exact RepL.drop n h2
theorem RepL.take:∀{xs:List D}{vs:List V}(n:Nat),RepL cA av H xs vs->RepL cA av H (xs.take n) (vs.take n)
 |_,_,0,h=>by simp;exact .nil
 | [],vs,n+1,h=>by rw [h.nil_of];exact .nil
 |x::xs,vs,n+1,h=>by
  obtain⟨v,r,rfl,h1,h2⟩:=h.uncons;exact .cons h1 (RepL.take n h2)
theorem RepL.set{d:D}{v:V}(hd:Rep cA av H d v):∀{xs:List D}{vs:List V}(i:Nat),RepL cA av H xs vs->RepL cA av H (xs.set i d) (vs.set i v)
 | [],vs,_,h=>by rw [h.nil_of];exact .nil
 |x::xs,vs,0,h=>by
  obtain⟨v',r,rfl,h1,h2⟩:=h.uncons;exact .cons hd h2
 |x::xs,vs,i+1,h=>by
  obtain⟨v',r,rfl,h1,h2⟩:=h.uncons;exact .cons h1 (RepL.set hd i h2)
def val:D->V
 | .bl b => .bl b
 | .int i => .int i
 | .str cs=>S cs
 |_ => .non
theorem Rep.val{d:D}{v:V}(hs:Yp d=true)(h:Rep cA av H d v):v=DL.val d:=by
 cases d<;>first|exact h|cases hs
theorem Rep.of_val{d:D}(hs:Yp d=true):Rep cA av H d (DL.val d):=by
 cases d<;>first|rfl|cases hs
theorem RepL.vals:∀{xs:List D}{vs:List V},xs.all Yp=true->RepL cA av H xs vs->vs=xs.map DL.val
 | [],vs,_,h=>h.nil_of
 |x::xs,vs,hs,h=>by
  rw [List.all_cons,Bool.and_eq_true]at hs;obtain⟨v,r,rfl,h1,h2⟩:=h.uncons;rw [List.map_cons,h1.val hs.1,RepL.vals hs.2 h2]
theorem RepL.of_vals:∀{xs:List D},xs.all Yp=true->RepL cA av H xs (xs.map DL.val)
 | [],_ => .nil
 |x::xs,hs=>by
  rw [List.all_cons,Bool.and_eq_true]at hs;exact .cons (.of_val hs.1) (RepL.of_vals hs.2)
def RepT(cA:Kn)(t i:Addr->Prop)(H:Hp):D->V->Prop
 | .lst xs,v=>∃a vs,v = .ref a/\(t a->KL cA.K a vs)/\SqL cA.K H a vs/\RepL cA i H xs vs
 | .tup xs,v=>∃a vs,v = .ref a/\¬t a/\H a=some (.tup vs)/\RepL cA i H xs vs
 | .obj c ks xs,v=>∃a dx vs,v = .ref a/\¬t a/\H a=some (.ins (cA.c c) dx ((ks.map Str.ofString).zip vs))/\ks.length=xs.length/\RepL cA i H xs vs
 | .dct ks xs,v=>∃a vs,v = .ref a/\¬t a/\H a=some (.dK (ks.zip vs))/\ks.length=xs.length/\RepL cA i H xs vs
 | .dtt ks xs,v=>∃a vs,v = .ref a/\¬t a/\H a=some (.dT (ks.zip vs))/\ks.length=xs.length/\RepL cA i H xs vs
 |d,v=>v=DL.val d
theorem Rep.t{d:D}{v:V}(h:Rep cA av H d v):RepT cA av av H d v:=by
 cases d<;>first|exact h|(unfold Rep at h;exact h)
theorem RepT.r{d:D}{v:V}(h:RepT cA av av H d v):Rep cA av H d v:=by
 cases d<;>first|exact h|(unfold Rep;exact h)
theorem RepT.weak{t t' i i':Addr->Prop}{d:D}{v:V}(ht:∀a,t' a->t a)(hi:∀a,i' a->i a)(h:RepT cA t i H d v):RepT cA t' i' H d v:=by
 cases d with
 |lst xs=>obtain⟨a,vs,e,n,r,l⟩:=h;exact⟨a,vs,e,λz=>n (ht a z),r,l.av λb z => .inl (hi b z)⟩
 |tup xs=>obtain⟨a,vs,e,n,r,l⟩:=h;exact⟨a,vs,e,λz=>n (ht a z),r,l.av λb z => .inl (hi b z)⟩
 |obj c ks xs=>obtain⟨a,dx,vs,e,n,r,z,l⟩:=h;exact⟨a,dx,vs,e,λz=>n (ht a z),r,z,l.av λb z => .inl (hi b z)⟩
 |dct ks xs=>obtain⟨a,vs,e,n,r,z,l⟩:=h;exact⟨a,vs,e,λz=>n (ht a z),r,z,l.av λb z => .inl (hi b z)⟩
 |dtt ks xs=>obtain⟨a,vs,e,n,r,z,l⟩:=h;exact⟨a,vs,e,λz=>n (ht a z),r,z,l.av λb z => .inl (hi b z)⟩
 |_=>exact h
theorem RepT.same{t i:Addr->Prop}{d:D}{v:V}(k:Same H H')(h:RepT cA t i H d v):RepT cA t i H' d v:=by
 cases d with
 |lst xs=>obtain⟨a,vs,e,n,r,l⟩:=h;exact⟨a,vs,e,n,k.seq r,l.same k⟩
 |tup xs=>obtain⟨a,vs,e,n,r,l⟩:=h;exact⟨a,vs,e,n,k a _ r,l.same k⟩
 |obj c ks xs=>obtain⟨a,dx,vs,e,n,r,z,l⟩:=h;exact⟨a,dx,vs,e,n,k a _ r,z,l.same k⟩
 |dct ks xs=>obtain⟨a,vs,e,n,r,z,l⟩:=h;exact⟨a,vs,e,n,k a _ r,z,l.same k⟩
 |dtt ks xs=>obtain⟨a,vs,e,n,r,z,l⟩:=h;exact⟨a,vs,e,n,k a _ r,z,l.same k⟩
 |_=>exact h
end
abbrev Env:=List (Option D)
structure Cn where
 cA:Kn
 pin:Nat->Option (Addr ⊕ V)
def AV(av:Addr->Prop)(A:Nat->Option Addr)(a:Addr):Prop:=av a\/∃i,A i=some a
def Own(cA:Kn)(av:Addr->Prop)(H:Hp):D->Addr->Prop
 | .lst xs,a=>∃vs,H a=some (.lst vs)/\RepL cA av H xs vs
 | .obj c ks xs,a=>∃dx vs,H a=some (.ins (cA.c c) dx ((ks.map Str.ofString).zip vs))/\ks.length=xs.length/\RepL cA av H xs vs
 | .dct ks xs,a=>∃vs,H a=some (.dK (ks.zip vs))/\ks.length=xs.length/\RepL cA av H xs vs
 | .dtt ks xs,a=>∃vs,H a=some (.dT (ks.zip vs))/\ks.length=xs.length/\RepL cA av H xs vs
 |_,_=>False
structure ER(G:Cn)(ow:List Nat)(H0:Hp)(av:Addr->Prop)(A:Nat->Option Addr)(σ:St)(H:Hp)(δ:Env):Prop where
 same:Same H0 H
 avd:∀a,av a->H0 a≠none
 fr:∀i a,A i=some a->H0 a=none
 inj:∀i j a,A i=some a->A j=some a->i=j
 live:∀i a,A i=some a->H a≠none
 dom:∀i,A i≠none->i∈ow
 dom':∀i∈ow,A i≠none
 len:σ.length=δ.length
 pin:∀i a,G.2 i=some (.inl a)->A i=some a
 kept:∀i v,G.2 i=some (.inr v)->σ[i]? = some (some v)
 var:∀(i:Nat)(d:D),δ[i]? = some (some d)->∃v,σ[i]? = some (some v)/\(A i=none->Rep G.1 (AV av A) H d v)/\(∀a,A i=some a->v = .ref a/\Own G.1 (AV av A) H d a)
inductive Ql where
 |cl|tp|dt
def RepQ(cA:Kn)(av:Addr->Prop)(A:Nat->Option Addr)(H:Hp):Ql->D->V->Prop
 | .cl,d,v=>RepT cA (AV av A) (AV av A) H d v
 | .tp,d,v=>RepT cA av (AV av A) H d v
 | .dt,d,v=>RepT cA av av H d v
def Ql.it:Ql->Ql
 | .dt => .dt
 |_ => .cl
section
variable{cA:Kn}{G:Cn}{ow:List Nat}{H0 H H':Hp}{av:Addr->Prop}{A:Nat->Option Addr}{σ:St}{δ:Env}
theorem AV.l{a:Addr}(h:av a):AV av A a := .inl h
def Ql.iv(q:Ql)(av:Addr->Prop)(A:Nat->Option Addr):Addr->Prop:=match q with
 | .dt=>av
 |_=>AV av A
theorem RepQ.tp{q:Ql}{d:D}{v:V}(h:RepQ cA av A H q d v):RepT cA av (q.iv av A) H d v:=by
 cases q with
 |cl=>exact h.weak (λa => .inl) λa z=>z
 |tp=>exact h
 |dt=>exact h
theorem RepQ.any{q:Ql}{d:D}{v:V}(h:RepQ cA av A H q d v):Rep cA av H d v:=by
 cases q with
 |cl=>exact(h.weak (λa => .inl) λa => .inl).r
 |tp=>exact(h.weak (λa z=>z) λa => .inl).r
 |dt=>exact h.r
theorem RepQ.same{q:Ql}{d:D}{v:V}(k:Same H H')(h:RepQ cA av A H q d v):RepQ cA av A H' q d v:=by
 cases q<;>exact RepT.same k h
theorem ER.mono(E:ER G ow H0 av A σ H δ)(k:Same H H'):ER G ow H0 av A σ H' δ:=by
 refine⟨E.same.trans k,E.avd,E.fr,E.inj,λi a e => ?_,E.dom,E.dom',E.len,E.pin,E.kept,λi d e => ?_⟩
 · have:=E.live i a e
   cases q:H a with
   |none=>exact absurd q this
   |some o=>rw [k a o q];exact λz=>by cases z
 · obtain⟨v,h1,h2,h3⟩:=E.var i d e
   refine⟨v,h1,λz=>(h2 z).same k,λa z=>⟨(h3 a z).1,?_⟩⟩;have:=(h3 a z).2;cases d with
   |lst xs=>obtain⟨vs,q1,q2⟩:=this;exact⟨vs,k _ _ q1,q2.same k⟩
   |obj c ks xs=>obtain⟨dx,vs,q1,q0,q2⟩:=this;exact⟨dx,vs,k _ _ q1,q0,q2.same k⟩
   |dct ks xs=>obtain⟨vs,q1,q0,q2⟩:=this;exact⟨vs,k _ _ q1,q0,q2.same k⟩
   |dtt ks xs=>obtain⟨vs,q1,q0,q2⟩:=this;exact⟨vs,k _ _ q1,q0,q2.same k⟩
   |_=>exact this
theorem ER.avl(E:ER G ow H0 av A σ H δ):∀a,AV av A a->H a≠none:=λa h=>by
 rcases h with h|⟨i,h⟩
 · have:=E.avd a h
   cases q:H0 a with
   |none=>exact absurd q this
   |some o=>rw [E.same a o q];exact λz=>by cases z
 · exact E.live i a h
theorem ER.avH(E:ER G ow H0 av A σ H δ):∀a,av a->H a≠none:=λa h=>E.avl a (.inl h)
end
def VE(G:Cn)(ow:List Nat)(te:TE)(q:Ql)(ε:Env->Option D):Prop:=
 ∀H0 av A σ H δ,ER G ow H0 av A σ H δ->∀d,ε δ=some d->∀Q:VK,(∀v H',Same H H'->RepQ G.1 av A H' q d v->Q v H')->te σ H Q
def VF(G:Cn)(ow:List Nat)(te:TE)(ε:Env->Option D):Prop:=
 ∀H0 av A σ H δ,ER G ow H0 av A σ H δ->∀d,ε δ=some d->∀Q:VK,(∀p vs xs H1,Same H H1->H1 p=none->RepL G.1 (AV av A) H1 xs vs->d = .lst xs->Q (.ref p) (upd H1 p (.lst vs)))->te σ H Q
def VT(G:Cn)(ow:List Nat)(tt:TT)(τ:Env->Option Bool):Prop:=
 ∀H0 av A σ H δ,ER G ow H0 av A σ H δ->∀b,τ δ=some b->∀Q:Bool->Hp->Prop,(∀H',Same H H'->Q b H')->tt σ H Q
def RepQL(cA:Kn)(av:Addr->Prop)(A:Nat->Option Addr)(H:Hp)(q:Ql):List D->List V->Prop
 | [],vs=>vs=[]
 |x::xs,vs=>∃v r,vs=v::r/\RepQ cA av A H q x v/\RepQL cA av A H q xs r
def VA(G:Cn)(ow:List Nat)(ta:TA)(q:Ql)(α:Env->Option (List D)):Prop:=
 ∀H0 av A σ H δ,ER G ow H0 av A σ H δ->∀ds,α δ=some ds->∀Q:List V->Hp->Prop,(∀vs H',Same H H'->RepQL G.1 av A H' q ds vs->Q vs H')->ta σ H Q
section
variable{cA:Kn}{G:Cn}{ow:List Nat}
theorem RepQL.same{av:Addr->Prop}{A:Nat->Option Addr}{H H':Hp}{q:Ql}(k:Same H H'):∀{xs:List D}{vs:List V},RepQL cA av A H q xs vs->RepQL cA av A H' q xs vs
 | [],_,h=>h
 |x::xs,vs,h=>by
  obtain⟨v,r,e,h1,h2⟩:=h;exact⟨v,r,e,h1.same k,RepQL.same k h2⟩
theorem RepQL.cl{av:Addr->Prop}{A:Nat->Option Addr}{H:Hp}:∀{xs:List D}{vs:List V},RepQL cA av A H .cl xs vs->RepL cA (AV av A) H xs vs
 | [],_,h=>by unfold RepL;exact h
 |x::xs,vs,h=>by
  obtain⟨v,r,e,h1,h2⟩:=h;subst e;exact .cons (RepT.r h1) (RepQL.cl h2)
theorem RepQL.any{av:Addr->Prop}{A:Nat->Option Addr}{H:Hp}{q:Ql}:∀{xs:List D}{vs:List V},RepQL cA av A H q xs vs->RepL cA av H xs vs
 | [],_,h=>by unfold RepL;exact h
 |x::xs,vs,h=>by
  obtain⟨v,r,e,h1,h2⟩:=h;subst e;exact .cons h1.any (RepQL.any h2)
theorem VE.dt{te:TE}{q:Ql}{ε:Env->Option D}(h:VE G ow te q ε):VE G ow te .dt ε:=λH0 av A σ H δ E d e Q k=>
 h H0 av A σ H δ E d e Q λv H' s r=>k v H' s r.any.t
theorem YV{H:Hp}{p:Addr}{o:HO}(h:H p=none):Same H (upd H p o):=Zfo h
theorem VF.cl{te:TE}{ε:Env->Option D}(h:VF G ow te ε):VE G ow te .cl ε:=λH0 av A σ H δ E d e Q k=>
 h H0 av A σ H δ E d e Q λp vs xs H1 s hp l hd=>by
  subst hd;refine k _ _ (s.trans (YV hp)) ⟨p,vs,rfl,λz=>((E.mono s).avl p z hp).elim,SqL.of YO,l.same (YV hp)⟩
def Za(i:Nat)(δ:Env):Option D:=match δ[i]? with
 |some (some d)=>some d
 |_=>none
theorem Ul{i:Nat}{δ:Env}{d:D}(h:Za i δ=some d):δ[i]? = some (some d):=by
 unfold Za at h;cases e:δ[i]? with
 |none=>rw [e]at h;cases h
 |some o=>
  rw [e]at h;cases o with
  |none=>cases h
  |some x=>exact congrArg (some∘some) (Option.some.inj h)
theorem Zc(i:Nat)(hi:(ow.contains i)=false:=by rfl):VE G ow (UC i) .cl (Za i):=λH0 av A σ H δ E d e Q k=>by
 obtain⟨v,h1,h2,_⟩:=E.var i d (Ul e)
 have hn:A i=none:=by
  cases q:A i with
  |none=>rfl
  |some a=>
   have:=E.dom i (by rw [q];exact λz=>by cases z);simp at hi;exact absurd this hi
 exact⟨v,h1,k v H (Same.refl H) (h2 hn).t⟩
def eC(d:D)(_:Env):Option D:=some d
theorem Zg{v:V}{d:D}(hs:Yp d=true)(hv:v=val d):VE G ow (tC v) .cl (eC d):=λH0 av A σ H δ E d' e Q k=>by
 have e':d=d':=Option.some.inj e;subst e' hv;exact k _ H (Same.refl H) (Rep.of_val hs).t
def Vo(cA:Kn)(r:R2)(f:D->D->Option D):Prop:=
 ∀(t t' i:Addr->Prop)(H:Hp)(x y:D)(vx vy:V)(d:D),(∀a,i a->H a≠none)->RepT cA t i H x vx->RepT cA t' i H y vy->f x y=some d->∀Q:VK,(∀v H',Same H H'->Rep cA i H' d v->Q v H')->r vx vy H Q
def eOp(f:D->D->Option D)(a b:Env->Option D)(δ:Env):Option D:=match a δ with
 |some x=>match b δ with
  |some y=>f x y
  |none=>none
 |none=>none
theorem ZaF{f:D->D->Option D}{a b:Env->Option D}{δ:Env}{d:D}(h:eOp f a b δ=some d):∃x y,a δ=some x/\b δ=some y/\f x y=some d:=by
 unfold eOp at h;cases ea:a δ with
 |none=>rw [ea]at h;cases h
 |some x=>
  rw [ea]at h;cases eb:b δ with
  |none=>rw [eb]at h;cases h
  |some y=>rw [eb]at h;exact⟨x,y,rfl,rfl,h⟩
def Ql.jn:Ql->Ql->Ql
 | .dt,_ => .dt
 |_,.dt => .dt
 |_,_ => .cl
theorem Zh{r:R2}{f:D->D->Option D}{ta tb:TE}{qa qb:Ql}{a b:Env->Option D}(hr:Vo G.1 r f)(ha:VE G ow ta qa a)(hb:VE G ow tb qb b):VE G ow (tOp r ta tb) (qa.jn qb) (eOp f a b):=λH0 av A σ H δ E d e Q k=>by
 obtain⟨x,y,ex,ey,ed⟩:=ZaF e;refine ha H0 av A σ H δ E x ex _ λvx H1 s1 r1=>hb H0 av A σ H1 δ (E.mono s1) y ey _ λvy H2 s2 r2 => ?_
 have E2:=(E.mono s1).mono s2;have r1':=(r1.same s2).tp;have r2':=r2.tp;have key:∀i:Addr->Prop,(∀a,i a->H2 a≠none)->RepT G.1 av i H2 x vx->RepT G.1 av i H2 y vy->(∀v H',Same H2 H'->Rep G.1 i H' d v->Q v H')->r vx vy H2 Q:=λi hi h1 h2 h3=>hr av av i H2 x y vx vy d hi h1 h2 ed Q h3
 have toav:∀{dd:D}{v:V},RepT G.1 av (AV av A) H2 dd v->RepT G.1 av av H2 dd v:=λh=>h.weak (λa z=>z) λa => .inl
 cases qa with
 |dt=>
  refine key av E2.avH r1' ?_ λv H' s3 r3=>k v H' ((s1.trans s2).trans s3) r3.t
  cases qb with
  |dt=>exact r2'
  |cl=>exact toav r2'
  |tp=>exact toav r2'
 |cl=>
  cases qb with
  |dt=>exact key av E2.avH (toav r1') r2' λv H' s3 r3=>k v H' ((s1.trans s2).trans s3) r3.t
  |cl=>exact key _ E2.avl r1' r2' λv H' s3 r3=>k v H' ((s1.trans s2).trans s3) r3.t
  |tp=>exact key _ E2.avl r1' r2' λv H' s3 r3=>k v H' ((s1.trans s2).trans s3) r3.t
 |tp=>
  cases qb with
  |dt=>exact key av E2.avH (toav r1') r2' λv H' s3 r3=>k v H' ((s1.trans s2).trans s3) r3.t
  |cl=>exact key _ E2.avl r1' r2' λv H' s3 r3=>k v H' ((s1.trans s2).trans s3) r3.t
  |tp=>exact key _ E2.avl r1' r2' λv H' s3 r3=>k v H' ((s1.trans s2).trans s3) r3.t
end
end DL
namespace DL
open PySem PySem.Spec L2
mutual
def toP:D->PyData
 | .non => .none
 | .bl b => .bool b
 | .int i => .int i
 | .str cs => .str (tx cs)
 | .lst xs => .list (U8 xs)
 | .tup xs => .tuple (U8 xs)
 | .obj _ _ _ => .dict []
 | .dct _ _ => .dict []
 | .dtt _ _ => .dict []
def U8:List D->List PyData
 | []=>[]
 |x::xs=>toP x::U8 xs
end
section
variable{X:Cx}{cA:Kn}
mutual
theorem Jn{pins:List (Addr×Obj)}{σ:L2.St}{H:Hp}{s:Shared}{av:Addr->Prop}(hK:cA.K=X.K)(I:Inv X pins σ H s):∀(d:D)(v:V)(u:Value),PyData.canLay0 (toP d)=true->Rep cA av H d v->RelV v u->∃as,Reads s.heap u (toP d) as
 | .non,v,u,_,h,r=>by
  cases(show v = .non from h);cases r;exact⟨_,.none⟩
 | .bl b,v,u,_,h,r=>by
  cases(show v = .bl b from h);cases r;exact⟨_,.bool b⟩
 | .int i,v,u,_,h,r=>by
  cases(show v = .int i from h);obtain⟨t,rfl⟩:=r;exact⟨_,.int i t⟩
 | .str cs,v,u,_,h,r=>by
  cases(show v=S cs from h);obtain⟨t,rfl⟩:=r;exact⟨_,.str _ t⟩
 | .lst xs,v,u,c,h,r=>by
  unfold Rep at h;obtain⟨a,vs,rfl,_,rd,l⟩:=h;cases r;obtain⟨its,rv,⟨ob,n,e,hc,hd,hs⟩,z⟩:=I.list (show SqL X.K H a vs from hK▸rd);obtain⟨as,ra⟩:=ZaN hK I xs vs its (by unfold toP PyData.canLay0 at c;exact c) l rv;unfold toP;exact⟨_,.list e hc hs (by simpa using ra)⟩
 | .tup xs,v,u,c,h,r=>by
  unfold Rep at h;obtain⟨a,vs,rfl,_,rd,l⟩:=h;cases r;obtain⟨z,its,rv,ob,e,hc,⟨n,hd⟩,_⟩:=(show ObjOk X.prog X.w H s.heap a (.tup vs)from I.hok a _ rd)
  obtain⟨as,ra⟩:=ZaN hK I xs vs its (by unfold toP PyData.canLay0 at c;exact c) l rv;unfold toP;exact⟨_,.tuple e hc hd (by simpa using ra)⟩
 | .obj c' ks xs,v,u,c,h,r=>by
  unfold toP PyData.canLay0 at c;cases c
 | .dct ks xs,v,u,c,h,r=>by
  unfold toP PyData.canLay0 at c;cases c
 | .dtt ks xs,v,u,c,h,r=>by
  unfold toP PyData.canLay0 at c;cases c
theorem ZaN{pins:List (Addr×Obj)}{σ:L2.St}{H:Hp}{s:Shared}{av:Addr->Prop}(hK:cA.K=X.K)(I:Inv X pins σ H s):∀(xs:List D)(vs:List V)(us:List Value),PyData.canLayAll0 (U8 xs)=true->RepL cA av H xs vs->Vals vs us->∃as,ReadsAll s.heap us (U8 xs) as
 | [],vs,us,_,h,r=>by
  rw [h.nil_of]at r;cases r;exact⟨_,.nil⟩
 |x::xs,vs,us,c,h,r=>by
  obtain⟨v,rr,rfl,h1,h2⟩:=h.uncons;cases r with
  |cons r1 r2=>
   unfold U8 PyData.canLayAll0 at c;rw [Bool.and_eq_true]at c;obtain⟨a1,q1⟩:=Jn hK I x v _ c.1 h1 r1;obtain⟨a2,q2⟩:=ZaN hK I xs rr _ c.2 h2 r2;unfold U8;exact⟨_,.cons q1 q2⟩
end
end
def eqD(x y:D):Option D:=
 if Yp x&&Yp y&&Vk (val x) (val y)then some (.bl (decide (val x=val y)))
 else if SeqAt.shaped (toP x)&&SeqAt.shaped (toP y)then some (.bl (PyData.eqv (toP x) (toP y)))else none
def neD(x y:D):Option D:=match eqD x y with
 |some (.bl b)=>some (.bl (!b))
 |_=>none
def Zjq(cA:Kn)(neg:Bool):R2:=λx y H Q=>∃av av' dx dy b,Rep cA av H dx x/\Rep cA av' H dy y/\eqD dx dy=some (.bl b)/\Q (.bl (neg != b)) H
section
variable{X:Cx}{cA:Kn}
theorem YG(hu:X.A.units+64<cLine)(hK:cA.K=X.K:=by rfl):OpR X (compareOp .Eq) (Zjq cA false):=by
 intro pins s σ H x y v u Q I rx ry h;obtain⟨av,av',dx,dy,b,hx,hy,e,q⟩:=h;unfold eqD at e
 by_cases h1:(Yp dx&&Yp dy&&Vk (val dx) (val dy))=true
 · rw [if_pos h1]at e
   simp only [Bool.and_eq_true]at h1;obtain⟨⟨s1,s2⟩,s3⟩:=h1;have e1:=hx.val s1;have e2:=hy.val s2;subst e1 e2;have e':decide (val dx=val dy)=b:=by simpa using e
   exact Zli pins s σ H _ _ v u Q I rx ry ⟨s3,by rw [e'];simpa using q⟩
 · rw [if_neg h1]at e
   by_cases h2:(SeqAt.shaped (toP dx)&&SeqAt.shaped (toP dy))=true
   · rw [if_pos h2]at e
     rw [Bool.and_eq_true]at h2;obtain⟨as,ra⟩:=Jn hK I dx x v (SeqAt.canLay_of_shaped h2.1) hx rx;obtain⟨bs,rb⟩:=Jn hK I dy y u (SeqAt.canLay_of_shaped h2.2) hy ry;have e':PyData.eqv (toP dx) (toP dy)=b:=by simpa using e
     exact PyProof.Rows.eq_dataH ra rb h2.1 h2.2 hu (by rw [e'];exact⟨.bl b,H,I,rfl,by simpa using q⟩)
   · rw [if_neg h2]at e
     cases e
theorem Jo(hu:X.A.units+64<cLine)(hK:cA.K=X.K:=by rfl):OpR X (compareOp .NotEq) (Zjq cA true):=by
 intro pins s σ H x y v u Q I rx ry h;obtain⟨av,av',dx,dy,b,hx,hy,e,q⟩:=h;unfold eqD at e
 by_cases h1:(Yp dx&&Yp dy&&Vk (val dx) (val dy))=true
 · rw [if_pos h1]at e
   simp only [Bool.and_eq_true]at h1;obtain⟨⟨s1,s2⟩,s3⟩:=h1;have e1:=hx.val s1;have e2:=hy.val s2;subst e1 e2;have e':decide (val dx=val dy)=b:=by simpa using e
   exact Zlj pins s σ H _ _ v u Q I rx ry ⟨s3,by rw [e'];simpa using q⟩
 · rw [if_neg h1]at e
   by_cases h2:(SeqAt.shaped (toP dx)&&SeqAt.shaped (toP dy))=true
   · rw [if_pos h2]at e
     rw [Bool.and_eq_true]at h2;obtain⟨as,ra⟩:=Jn hK I dx x v (SeqAt.canLay_of_shaped h2.1) hx rx;obtain⟨bs,rb⟩:=Jn hK I dy y u (SeqAt.canLay_of_shaped h2.2) hy ry;have e':PyData.eqv (toP dx) (toP dy)=b:=by simpa using e
     exact PyProof.Rows.ne_dataH ra rb h2.1 h2.2 hu (by rw [e'];exact⟨.bl (!b),H,I,rfl,by simpa using q⟩)
   · rw [if_neg h2]at e
     cases e
theorem RepT.av0{t i:Addr->Prop}{H:Hp}{d:D}{v:V}(h:RepT cA t i H d v):Rep cA (λ_=>False) H d v:=(h.weak (λ_ z=>z.elim) λ_ z=>z.elim).r
theorem Zgf{x y d:D}(h:eqD x y=some d):∃b,d = .bl b:=by
 unfold eqD at h
 split at h
 · exact⟨_,(Option.some.inj h).symm⟩
 · split at h
   · exact⟨_,(Option.some.inj h).symm⟩
   · cases h
theorem YH:Vo cA (Zjq cA false) eqD:=λt t' i H x y vx vy d _ hx hy e Q k=>by
 obtain⟨b,rfl⟩:=Zgf e;exact⟨_,_,x,y,b,hx.av0,hy.av0,e,k _ H (Same.refl H) (by cases b<;>rfl)⟩
theorem Jp:Vo cA (Zjq cA true) neD:=λt t' i H x y vx vy d _ hx hy e Q k=>by
 unfold neD at e;cases he:eqD x y with
 |none=>rw [he]at e;cases e
 |some z=>
  obtain⟨b,rfl⟩:=Zgf he;rw [he]at e;have e':D.bl (!b)=d:=Option.some.inj e;subst e';exact⟨_,_,x,y,b,hx.av0,hy.av0,he,k _ H (Same.refl H) (by cases b<;>rfl)⟩
def UI(x:List Nat)(n:Int):List Nat:=(List.replicate n.toNat x).flatten
theorem ZbP(x:List Nat):∀(k:Nat)(acc:Array Nat),(List.replicate k x.toArray).foldl (· ++ ·) acc=acc++(List.replicate k x).flatten.toArray
 |0,acc=>by simp
 |k+1,acc=>by
  rw [List.replicate_succ,List.replicate_succ,List.foldl_cons,ZbP x k,List.flatten_cons];simp
theorem ZiI(x:List Nat)(n:Int):Txt.mul (tx x) n=tx (UI x n):=by
 unfold Txt.mul UI
 by_cases h1:n<1
 · rw [if_pos h1]
   have:n.toNat=0:=by omega
   rw [this];rfl
 · rw [if_neg h1]
   by_cases h2:(n == 1||(tx x).length == 0)=true
   · rw [if_pos h2]
     rw [Bool.or_eq_true]at h2;rcases h2 with h2|h2
     · have:n=1:=by simpa using h2
       subst this;simp
     · have : x = [] := by
        have:(tx x).length=0:=by simpa using h2
        rw [Xl]at this;exact List.eq_nil_of_length_eq_zero this
       subst this;simp
   · rw [if_neg h2]
     have:=ZbP x n.toNat #[];rw [this];simp
def rMulS:R2:=λx y H Q=>∃a n,x=S a/\y = .int n/\(n<2 ^ 63 /\ -(2 ^ 63)<=n/\a.length*n.toNat<=sizeLine)/\Q (S (UI a n)) H
theorem Zg4:OpR X (binaryOp .Mult) rMulS:=by
 intro pins s σ H x y v u Q I rx ry h;obtain⟨a,n,rfl,rfl,⟨h1,h2,h3⟩,q⟩:=h;obtain⟨t,rfl⟩:=rx;obtain⟨t',rfl⟩:=ry;refine SB.mul ⟨?_,λhn hc => ?_,λhn hc => ?_⟩ λt' k=>⟨S (UI a n),H,I.tok _,⟨_,by rw [ZiI]⟩,q⟩
 · have e1:decide (n < -(2 ^ 63:Int))=false:=decide_eq_false (by omega)
   have e2:decide (n ≥ 2 ^ 63)=false:=decide_eq_false (by omega);rw [e1,e2];rfl
 · rw [Xl]
   have hs:sizeLine=16777216:=sizeLine_eq;intro hgt
   have h5:(a.length:Int)*n<=16777216:=by
    have:(a.length:Int)*n=((a.length*n.toNat:Nat):Int):=by
     rw [Int.natCast_mul,Int.toNat_of_nonneg (by omega)]
    rw [this];omega
   have h6:(2 ^ 63-1) / n<(a.length:Int):=hgt
   have h7:(2 ^ 63-1:Int)<(a.length:Int)*n:=by
    have:=Int.lt_mul_of_ediv_lt (show(0:Int)<n by omega) h6;rw [Int.mul_comm];rw [Int.mul_comm]at this;exact this
   omega
 · rw [Xl]
   show decide (a.length*n.toNat>sizeLine)=false;exact decide_eq_false (by omega)
def rMulX:R2:=λx y H Q=>rI CMul (λi j => .int (i*j)) x y H Q\/rMulS x y H Q
theorem Zcb:OpR X (binaryOp .Mult) rMulX:=op_mul.or Zg4
instance (i j:Int):Decidable (CMul i j):=by unfold CMul;infer_instance
instance (i j:Int):Decidable (ZK i j):=by unfold ZK;infer_instance
def addD:D->D->Option D
 | .int i,.int j=>some (.int (i+j))
 | .str a,.str b=>if a.length+b.length<=sizeLine then some (.str (a++b))else none
 |_,_=>none
def subD:D->D->Option D
 | .int i,.int j=>some (.int (i-j))
 |_,_=>none
def mulD:D->D->Option D
 | .int i,.int j=>if CMul i j then some (.int (i*j))else none
 | .str a,.int n=>if n<2 ^ 63 /\ -(2 ^ 63)<=n/\a.length*n.toNat<=sizeLine then some (.str (UI a n))else none
 |_,_=>none
def fdivD:D->D->Option D
 | .int i,.int j=>if ZK i j then some (.int (i / j))else none
 |_,_=>none
def modD:D->D->Option D
 | .int i,.int j=>if 0<j then some (.int (i % j))else none
 |_,_=>none
def Zw(p:Int->Int->Bool):D->D->Option D
 | .int i,.int j=>some (.bl (p i j))
 |_,_=>none
theorem YI:Vo cA rAddX addD:=λt t' i H x y vx vy d _ hx hy e Q k=>by
 cases x<;>cases y<;>first|(cases e;done)|skip
 · cases(show vx=_ from hx);cases(show vy=_ from hy)
   cases e;exact .inl ⟨_,_,rfl,rfl,k _ H (Same.refl H) rfl⟩
 · cases(show vx=_ from hx);cases(show vy=_ from hy)
   rename_i a b;dsimp only [addD]at e
   by_cases hz:a.length+b.length<=sizeLine
   · rw [if_pos hz]at e
     cases e;exact .inr (.inl ⟨_,_,rfl,rfl,hz,k _ H (Same.refl H) rfl⟩)
   · rw [if_neg hz]at e;cases e
theorem V7:Vo cA (rI0 λi j => .int (i-j)) subD:=λt t' i H x y vx vy d _ hx hy e Q k=>by
 cases x<;>cases y<;>first|(cases e;done)|skip
 cases(show vx=_ from hx);cases(show vy=_ from hy);cases e;exact⟨_,_,rfl,rfl,k _ H (Same.refl H) rfl⟩
theorem ZdB:Vo cA rMulX mulD:=λt t' i H x y vx vy d _ hx hy e Q k=>by
 cases x<;>cases y<;>first|(cases e;done)|skip
 · cases(show vx=_ from hx);cases(show vy=_ from hy)
   rename_i a b;dsimp only [mulD]at e
   by_cases hz:CMul a b
   · rw [if_pos hz]at e
     cases e;exact .inl ⟨_,_,rfl,rfl,hz,k _ H (Same.refl H) rfl⟩
   · rw [if_neg hz]at e;cases e
 · cases(show vx=_ from hx);cases(show vy=_ from hy)
   rename_i a n;dsimp only [mulD]at e
   by_cases hz:n<2 ^ 63 /\ -(2 ^ 63)<=n/\a.length*n.toNat<=sizeLine
   · rw [if_pos hz]at e
     cases e;exact .inr ⟨_,_,rfl,rfl,hz,k _ H (Same.refl H) rfl⟩
   · rw [if_neg hz]at e;cases e
theorem Xs:Vo cA (rI ZK λi j => .int (i / j)) fdivD:=λt t' i H x y vx vy d _ hx hy e Q k=>by
 cases x<;>cases y<;>first|(cases e;done)|skip
 cases(show vx=_ from hx);cases(show vy=_ from hy);rename_i a b;dsimp only [fdivD]at e
 by_cases hz:ZK a b
 · rw [if_pos hz]at e
   cases e;exact⟨_,_,rfl,rfl,hz,k _ H (Same.refl H) rfl⟩
 · rw [if_neg hz]at e;cases e
theorem Yy:Vo cA (rI (λ_ j=>0<j) λi j => .int (i % j)) modD:=λt t' i H x y vx vy d _ hx hy e Q k=>by
 cases x<;>cases y<;>first|(cases e;done)|skip
 cases(show vx=_ from hx);cases(show vy=_ from hy);rename_i a b;dsimp only [modD]at e
 by_cases hz:0<b
 · rw [if_pos hz]at e
   cases e;exact⟨_,_,rfl,rfl,hz,k _ H (Same.refl H) rfl⟩
 · rw [if_neg hz]at e;cases e
theorem X0{p:Int->Int->Bool}:Vo cA (rI0 λi j => .bl (p i j)) (Zw p):=λt t' i H x y vx vy d _ hx hy e Q k=>by
 cases x<;>cases y<;>first|(cases e;done)|skip
 cases(show vx=_ from hx);cases(show vy=_ from hy);cases e;exact⟨_,_,rfl,rfl,k _ H (Same.refl H) rfl⟩
def inD(neg:Bool):D->D->Option D
 | .str [c],.str b=>some (.bl (neg != decide (c∈b)))
 |x,.lst ys=>if Yp x&&ys.all Yp then some (.bl (if neg then !(inV (val x) (ys.map val))else inV (val x) (ys.map val)))else none
 |x,.tup ys=>if Yp x&&ys.all Yp then some (.bl (if neg then !(inV (val x) (ys.map val))else inV (val x) (ys.map val)))else none
 |_,_=>none
theorem Zbj{d:D}:Yp d=true->V3 (val d)=true:=by
 intro h;cases d<;>first|rfl|cases h
theorem ZaO:∀{xs:List D},xs.all Yp=true->(xs.map val).all V3=true
 | [],_=>rfl
 |x::xs,h=>by
  rw [List.all_cons,Bool.and_eq_true]at h;rw [List.map_cons,List.all_cons,Zbj h.1,ZaO h.2];rfl
theorem Zg5{t i:Addr->Prop}{H:Hp}{d:D}{v:V}(hs:Yp d=true)(h:RepT cA t i H d v):v=val d:=by
 cases d<;>first|exact h|cases hs
theorem ZgH{neg:Bool}:Vo cA (QG cA.K neg) (inD neg):=λt t' i H x y vx vy d _ hx hy e Q k=>by
 have seq:∀ys,(y = .lst ys\/y = .tup ys)->(if Yp x&&ys.all Yp then some (D.bl (if neg then !(inV (val x) (ys.map val))else inV (val x) (ys.map val)))else none)=some d->QG cA.K neg vx vy H Q:=λys hy' e=>by
  by_cases hz:(Yp x&&ys.all Yp)=true
  · rw [if_pos hz]at e
    rw [Bool.and_eq_true]at hz;have ex:=Zg5 hz.1 hx;subst ex;cases e;rcases hy' with rfl|rfl
    · obtain⟨a,vs,rfl,_,rd,l⟩:=hy
      have ev:=l.vals hz.2;subst ev;exact .inr ⟨a,_,rfl,.inl rd,Zbj hz.1,ZaO hz.2,k _ H (Same.refl H) rfl⟩
    · obtain⟨a,vs,rfl,_,rd,l⟩:=hy
      have ev:=l.vals hz.2;subst ev;exact .inr ⟨a,_,rfl,.inr (SqT.of rd),Zbj hz.1,ZaO hz.2,k _ H (Same.refl H) rfl⟩
  · rw [if_neg hz]at e;cases e
 cases y with
 |lst ys=>exact seq ys (.inl rfl) (by cases x<;>first|exact e|(rename_i cs;cases cs<;>first|exact e|(rename_i c r;cases r<;>exact e)))
 |tup ys=>exact seq ys (.inr rfl) (by cases x<;>first|exact e|(rename_i cs;cases cs<;>first|exact e|(rename_i c r;cases r<;>exact e)))
 |str b=>
  cases x with
  |str cs=>
   cases cs with
   |nil=>cases e
   |cons c r=>
    cases r with
    |cons _ _=>cases e
    |nil=>
     cases(show vx=_ from hx);cases(show vy=_ from hy);cases e;exact .inl ⟨c,b,rfl,rfl,k _ H (Same.refl H) rfl⟩
  |_=>cases e
 |_=>cases x<;>first|(cases e;done)|(rename_i cs;cases cs<;>first|(cases e;done)|(rename_i c r;cases r<;>cases e))
def ixD:D->D->Option D
 | .lst xs,.int i=>atI xs i
 | .tup xs,.int i=>atI xs i
 | .str cs,.int i=>if cs.length<=sizeLine then(atI cs i).map λc => .str [c]else none
 |_,_=>none
theorem ZdQ{av:Addr->Prop}{H:Hp}{xs:List D}{vs:List V}{i:Int}{d:D}(l:RepL cA av H xs vs)(h:atI xs i=some d):∃v,atI vs i=some v/\Rep cA av H d v:=by
 unfold atI at h ⊢;rw [l.length]at h;cases e:ixN vs.length i with
 |none=>rw [e]at h;cases h
 |some j=>
  rw [e]at h;exact l.get h
theorem Yb:Vo cA (ZkT cA.K) ixD:=λt t' i H x y vx vy d _ hx hy e Q k=>by
 cases y<;>first|(cases x<;>cases e;done)|skip
 rename_i j;cases(show vy=_ from hy);cases x<;>first|(cases e;done)|skip
 · cases(show vx=_ from hx)
   rename_i cs;dsimp only [ixD]at e
   by_cases hz:cs.length<=sizeLine
   · rw [if_pos hz]at e
     cases ea:atI cs j with
     |none=>rw [ea]at e;cases e
     |some c=>
      rw [ea]at e;cases e;exact .inr (.inr ⟨cs,j,c,rfl,rfl,hz,ea,k _ H (Same.refl H) rfl⟩)
   · rw [if_neg hz]at e;cases e
 · obtain⟨a,vs,rfl,_,rd,l⟩:=hx
   obtain⟨v,h1,h2⟩:=ZdQ l e;exact .inl ⟨a,vs,j,v,rfl,rfl,rd,h1,k v H (Same.refl H) h2⟩
 · obtain⟨a,vs,rfl,_,rd,l⟩:=hx
   obtain⟨v,h1,h2⟩:=ZdQ l e;exact .inr (.inl ⟨a,vs,j,v,rfl,rfl,SqT.of rd,h1,k v H (Same.refl H) h2⟩)
end
end DL
namespace DL
open PySem PySem.Spec L2
section
variable{cA:Kn}{G:Cn}{ow:List Nat}
def bD:Option D->Option Bool
 |some (.bl b)=>some b
 |_=>none
theorem ZdR{o:Option D}{b:Bool}(h:bD o=some b):o=some (.bl b):=by
 cases o with
 |none=>cases h
 |some d=>cases d<;>first|(cases h;rfl)|cases h
def xB(ε:Env->Option D)(δ:Env):Option Bool:=bD (ε δ)
theorem YD{te:TE}{q:Ql}{ε:Env->Option D}(h:VE G ow te q ε):VT G ow (tB te) (xB ε):=λH0 av A σ H δ E b e Q k=>
 h H0 av A σ H δ E _ (ZdR e) _ λv H' s r=>⟨b,by cases q<;>exact r,k H' s⟩
theorem Yt{te:TE}{q:Ql}{ε:Env->Option D}(h:VE G ow te q ε):VT G ow (ZgB te) (xB ε):=λH0 av A σ H δ E b e Q k=>
 h H0 av A σ H δ E _ (ZdR e) _ λv H' s r=>⟨b,by cases q<;>exact r,k H' s⟩
def Zu(τ:Env->Option Bool)(δ:Env):Option Bool:=match τ δ with
 |some b=>some (!b)
 |none=>none
theorem XG{t:TT}{τ:Env->Option Bool}(h:VT G ow t τ):VT G ow (ZmM t) (Zu τ):=λH0 av A σ H δ E b e Q k=>by
 unfold Zu at e;cases he:τ δ with
 |none=>rw [he]at e;cases e
 |some c=>
  rw [he]at e;cases e;exact h H0 av A σ H δ E c he _ λH' s=>k H' s
def ZC(τ υ:Env->Option Bool)(δ:Env):Option Bool:=match τ δ with
 |some true=>υ δ
 |some false=>some false
 |none=>none
def xOr(τ υ:Env->Option Bool)(δ:Env):Option Bool:=match τ δ with
 |some true=>some true
 |some false=>υ δ
 |none=>none
theorem QH{t u:TT}{τ υ:Env->Option Bool}(h:VT G ow t τ)(h':VT G ow u υ):VT G ow (ZmL t u) (ZC τ υ):=λH0 av A σ H δ E b e Q k=>by
 unfold ZC at e;cases he:τ δ with
 |none=>rw [he]at e;cases e
 |some c=>
  rw [he]at e;refine h H0 av A σ H δ E c he _ λH' s => ?_
  cases c with
  |true=>exact V5 (h' H0 av A σ H' δ (E.mono s) b e _ λH2 s2=>k H2 (s.trans s2))
  |false=>cases e;exact V4 (k H' s)
theorem ZgI{t u:TT}{τ υ:Env->Option Bool}(h:VT G ow t τ)(h':VT G ow u υ):VT G ow (tOr t u) (xOr τ υ):=λH0 av A σ H δ E b e Q k=>by
 unfold xOr at e;cases he:τ δ with
 |none=>rw [he]at e;cases e
 |some c=>
  rw [he]at e;refine h H0 av A σ H δ E c he _ λH' s => ?_
  cases c with
  |true=>cases e;exact V5 (k H' s)
  |false=>exact V4 (h' H0 av A σ H' δ (E.mono s) b e _ λH2 s2=>k H2 (s.trans s2))
theorem Vp:VT G ow tYes (λ_=>some true):=λH0 av A σ H δ E b e Q k=>by
 cases e;exact k H (Same.refl H)
theorem blq{av:Addr->Prop}{A:Nat->Option Addr}{H:Hp}{q:Ql}{b:Bool}:RepQ cA av A H q (.bl b) (.bl b):=by cases q<;>exact rfl
theorem qbl{av:Addr->Prop}{A:Nat->Option Addr}{H:Hp}{q:Ql}{b:Bool}{v:V}(h:RepQ cA av A H q (.bl b) v):v = .bl b:=by cases q<;>exact h
def ZH(a b:Env->Option D)(δ:Env):Option D:=match a δ with
 |some (.bl true)=>b δ
 |some (.bl false)=>some (.bl false)
 |_=>none
def eOr(a b:Env->Option D)(δ:Env):Option D:=match a δ with
 |some (.bl true)=>some (.bl true)
 |some (.bl false)=>b δ
 |_=>none
def ZP(a:Env->Option D)(δ:Env):Option D:=match a δ with
 |some (.bl b)=>some (.bl (!b))
 |_=>none
theorem Um{ta tb:TE}{qa qb:Ql}{a b:Env->Option D}(ha:VE G ow ta qa a)(hb:VE G ow tb qb b):VE G ow (ZhO ta tb) qb (ZH a b):=λH0 av A σ H δ E d e Q k=>by
 unfold ZH at e;cases he:a δ with
 |none=>rw [he]at e;cases e
 |some x=>
  rw [he]at e;cases x<;>first|(cases e;done)|skip
  rename_i c;refine ha H0 av A σ H δ E _ he _ λv H' s r=>⟨c,qbl r,?_⟩
  cases c with
  |true=>exact V5 (hb H0 av A σ H' δ (E.mono s) d e _ λv2 H2 s2 r2=>k v2 H2 (s.trans s2) r2)
  |false=>cases e;exact V4 (k _ H' s blq)
theorem ZhX{ta tb:TE}{qa qb:Ql}{a b:Env->Option D}(ha:VE G ow ta qa a)(hb:VE G ow tb qb b):VE G ow (ZmN ta tb) qb (eOr a b):=λH0 av A σ H δ E d e Q k=>by
 unfold eOr at e;cases he:a δ with
 |none=>rw [he]at e;cases e
 |some x=>
  rw [he]at e;cases x<;>first|(cases e;done)|skip
  rename_i c;refine ha H0 av A σ H δ E _ he _ λv H' s r=>⟨c,qbl r,?_⟩
  cases c with
  |false=>exact V4 (hb H0 av A σ H' δ (E.mono s) d e _ λv2 H2 s2 r2=>k v2 H2 (s.trans s2) r2)
  |true=>cases e;exact V5 (k _ H' s blq)
theorem Zgg{ta:TE}{qa:Ql}{a:Env->Option D}(ha:VE G ow ta qa a):VE G ow (ZhP ta) .cl (ZP a):=λH0 av A σ H δ E d e Q k=>by
 unfold ZP at e;cases he:a δ with
 |none=>rw [he]at e;cases e
 |some x=>
  rw [he]at e;cases x<;>first|(cases e;done)|skip
  cases e;exact ha H0 av A σ H δ E _ he _ λv H' s r=>⟨_,qbl r,k _ H' s blq⟩
def eIf(τ:Env->Option Bool)(a b:Env->Option D)(δ:Env):Option D:=match τ δ with
 |some true=>a δ
 |some false=>b δ
 |none=>none
theorem Jq{t:TT}{ta tb:TE}{q:Ql}{τ:Env->Option Bool}{a b:Env->Option D}(ht:VT G ow t τ)(ha:VE G ow ta q a)(hb:VE G ow tb q b):VE G ow (tIf t ta tb) q (eIf τ a b):=λH0 av A σ H δ E d e Q k=>by
 unfold eIf at e;cases he:τ δ with
 |none=>rw [he]at e;cases e
 |some c=>
  rw [he]at e;refine ht H0 av A σ H δ E c he _ λH' s => ?_
  cases c with
  |true=>exact V5 (ha H0 av A σ H' δ (E.mono s) d e _ λv H2 s2 r=>k v H2 (s.trans s2) r)
  |false=>exact V4 (hb H0 av A σ H' δ (E.mono s) d e _ λv H2 s2 r=>k v H2 (s.trans s2) r)
def ZM:D->Bool
 | .non=>true
 |_=>false
theorem ZdS{av:Addr->Prop}{H:Hp}{d:D}{v:V}(h:Rep cA av H d v):decide (v = .non)=ZM d:=by
 cases d with
 |non=>cases(show v=_ from h);rfl
 |bl b=>cases(show v=_ from h);rfl
 |int i=>cases(show v=_ from h);rfl
 |str cs=>cases(show v=_ from h);rfl
 |lst xs=>unfold Rep at h;obtain⟨a,vs,rfl,_⟩:=h;rfl
 |tup xs=>unfold Rep at h;obtain⟨a,vs,rfl,_⟩:=h;rfl
 |obj c ks xs=>unfold Rep at h;obtain⟨a,dx,vs,rfl,_⟩:=h;rfl
 |dct ks xs=>unfold Rep at h;obtain⟨a,vs,rfl,_⟩:=h;rfl
 |dtt ks xs=>unfold Rep at h;obtain⟨a,vs,rfl,_⟩:=h;rfl
def Zz(a:Env->Option D)(δ:Env):Option D:=match a δ with
 |some d=>some (.bl (ZM d))
 |none=>none
def ZD(a:Env->Option D)(δ:Env):Option D:=match a δ with
 |some d=>some (.bl (!ZM d))
 |none=>none
theorem Vq{ta:TE}{qa:Ql}{a:Env->Option D}(ha:VE G ow ta qa a):VE G ow (ZkG ta) .cl (Zz a):=λH0 av A σ H δ E d e Q k=>by
 unfold Zz at e;cases he:a δ with
 |none=>rw [he]at e;cases e
 |some x=>
  rw [he]at e;cases e;refine ha H0 av A σ H δ E _ he _ λv H' s r => ?_
  rw [ZdS r.any];exact k _ H' s blq
theorem Jr{ta:TE}{qa:Ql}{a:Env->Option D}(ha:VE G ow ta qa a):VE G ow (ZhN ta) .cl (ZD a):=λH0 av A σ H δ E d e Q k=>by
 unfold ZD at e;cases he:a δ with
 |none=>rw [he]at e;cases e
 |some x=>
  rw [he]at e;cases e;refine ha H0 av A σ H δ E _ he _ λv H' s r => ?_
  rw [ZdS r.any];exact k _ H' s blq
def ZR(f g:D->D->Option D)(a b c:Env->Option D)(δ:Env):Option D:=match eOp f a b δ with
 |some (.bl true)=>eOp g b c δ
 |some (.bl false)=>some (.bl false)
 |_=>none
theorem Zbk{p p':Int->Int->Bool}{ta tb tc:TE}{qa qb qc:Ql}{a b c:Env->Option D}(ha:VE G ow ta qa a)(hb:VE G ow tb qb b)(hc:VE G ow tc qc c) :
 VE G ow (Zdy (rI0 λi j => .bl (p i j)) (rI0 λi j => .bl (p' i j)) ta tb tc) .cl (ZR (Zw p) (Zw p') a b c):=λH0 av A σ H δ E d e Q k=>by
 unfold ZR at e;cases he:eOp (Zw p) a b δ with
 |none=>rw [he]at e;cases e
 |some z=>
  rw [he]at e;obtain⟨x,y,ex,ey,ez⟩:=ZaF he;cases x<;>cases y<;>first|(cases ez;done)|skip
  rename_i i j;cases ez;refine ha H0 av A σ H δ E _ ex _ λvx H1 s1 r1=>hb H0 av A σ H1 δ (E.mono s1) _ ey _ λvy H2 s2 r2 => ?_
  have e1:vx = .int i:=r1.any;have e2:vy = .int j:=r2.any;subst e1 e2;refine⟨i,j,rfl,rfl,p i j,rfl,?_⟩;have E2:=(E.mono s1).mono s2;cases hp:p i j with
  |false=>
   rw [hp]at e;cases e;exact V4 (k _ H2 (s1.trans s2) blq)
  |true=>
   rw [hp]at e;obtain⟨y',w',ey',ew,ez⟩:=ZaF e;rw [ey]at ey';cases ey';cases w'<;>first|(cases ez;done)|skip
   rename_i l;cases ez;refine V5 (hc H0 av A σ H2 δ E2 _ ew _ λvw H3 s3 r3 => ?_);have e3:vw = .int l:=r3.any;subst e3;exact⟨j,l,rfl,rfl,k _ H3 ((s1.trans s2).trans s3) blq⟩
def ZN:D->Option D
 | .int i=>some (.int (-i))
 |_=>none
def eUn(f:D->Option D)(a:Env->Option D)(δ:Env):Option D:=match a δ with
 |some x=>f x
 |none=>none
theorem U9{ta:TE}{qa:Ql}{a:Env->Option D}(ha:VE G ow ta qa a):VE G ow (tUn (rU λi => .int (-i)) ta) .cl (eUn ZN a):=λH0 av A σ H δ E d e Q k=>by
 unfold eUn at e;cases he:a δ with
 |none=>rw [he]at e;cases e
 |some x=>
  rw [he]at e;cases x<;>first|(cases e;done)|skip
  cases e;refine ha H0 av A σ H δ E _ he _ λv H' s r => ?_
  have e1:=r.any;exact⟨_,e1,k _ H' s rfl⟩
def eNil(_:Env):Option (List D):=some []
def Zb(a:Env->Option D)(r:Env->Option (List D))(δ:Env):Option (List D):=match a δ with
 |some x=>match r δ with
  |some xs=>some (x::xs)
  |none=>none
 |none=>none
theorem Zm{q:Ql}:VA G ow tNil q eNil:=λH0 av A σ H δ E ds e Q k=>by
 cases e;exact k [] H (Same.refl H) rfl
theorem Ze{te:TE}{ta:TA}{q:Ql}{a:Env->Option D}{r:Env->Option (List D)}(ha:VE G ow te q a)(hr:VA G ow ta q r):VA G ow (Xk te ta) q (Zb a r):=λH0 av A σ H δ E ds e Q k=>by
 unfold Zb at e;cases he:a δ with
 |none=>rw [he]at e;cases e
 |some x=>
  rw [he]at e;cases hr':r δ with
  |none=>rw [hr']at e;cases e
  |some xs=>
   rw [hr']at e;cases e;exact ha H0 av A σ H δ E x he _ λv H1 s1 r1=>hr H0 av A σ H1 δ (E.mono s1) xs hr' _ λvs H2 s2 r2=>k _ H2 (s1.trans s2) ⟨v,vs,rfl,r1.same s2,r2⟩
theorem RepQL.length{av:Addr->Prop}{A:Nat->Option Addr}{H:Hp}{q:Ql}{xs:List D}{vs:List V}(h:RepQL cA av A H q xs vs):xs.length=vs.length:=h.any.length
def Zx(α:Env->Option (List D))(δ:Env):Option D:=match α δ with
 |some xs=>if xs.length<=sizeLine then some (.lst xs)else none
 |none=>none
theorem V8{t:TA}{α:Env->Option (List D)}(h:VA G ow t .cl α):VF G ow (Jf t) (Zx α):=λH0 av A σ H δ E d e Q k=>by
 unfold Zx at e;cases he:α δ with
 |none=>rw [he]at e;cases e
 |some xs=>
  rw [he]at e
  by_cases hz:xs.length<=sizeLine
  · have e':D.lst xs=d:=by simpa [hz]using e
    exact h H0 av A σ H δ E xs he _ λvs H1 s1 r1=>⟨by rw [<-r1.length];exact hz,λp hp=>k p vs xs H1 s1 hp r1.cl e'.symm⟩
  · simp [hz]at e
def ZF(α:Env->Option (List D))(δ:Env):Option D:=match α δ with
 |some xs=>if xs.length<=sizeLine then some (.tup xs)else none
 |none=>none
theorem Uo{t:TA}{α:Env->Option (List D)}(h:VA G ow t .cl α):VE G ow (ZkN t) .cl (ZF α):=λH0 av A σ H δ E d e Q k=>by
 unfold ZF at e;cases he:α δ with
 |none=>rw [he]at e;cases e
 |some xs=>
  rw [he]at e
  by_cases hz:xs.length<=sizeLine
  · have e':D.tup xs=d:=by simpa [hz]using e
    subst e';refine h H0 av A σ H δ E xs he _ λvs H1 s1 r1=>⟨by rw [<-r1.length];exact hz,λp hp=>k _ _ (s1.trans (YV hp)) ⟨p,vs,rfl,λz=>(E.mono s1).avl p z hp,YO,r1.cl.same (YV hp)⟩⟩
  · simp [hz]at e
def Qa(cA:Kn)(i:Addr->Prop)(H:Hp):List D->List V->Prop
 | [],vs=>vs=[]
 |x::xs,vs=>∃v r,vs=v::r/\(∃t,RepT cA t i H x v)/\Qa cA i H xs r
theorem RepQL.il{av:Addr->Prop}{A:Nat->Option Addr}{H:Hp}{q:Ql}:∀{xs:List D}{vs:List V},RepQL cA av A H q xs vs->Qa cA (q.iv av A) H xs vs
 | [],_,h=>h
 |x::xs,vs,h=>by
  obtain⟨v,r,e,h1,h2⟩:=h;exact⟨v,r,e,⟨_,h1.tp⟩,RepQL.il h2⟩
def QI(cA:Kn)(r:List V->Hp->VK->Prop)(f:List D->Option D):Prop:=
 ∀(i:Addr->Prop)(H:Hp)(ds:List D)(vs:List V)(d:D),(∀a,i a->H a≠none)->Qa cA i H ds vs->f ds=some d->∀Q:VK,(∀v H',Same H H'->Rep cA i H' d v->Q v H')->r vs H Q
def eCB(f:List D->Option D)(α:Env->Option (List D))(δ:Env):Option D:=match α δ with
 |some ds=>f ds
 |none=>none
theorem Yz{r:List V->Hp->VK->Prop}{f:List D->Option D}{t:TA}{q:Ql}{α:Env->Option (List D)}(hr:QI G.1 r f)(h:VA G ow t q α):VE G ow (tCB r t) q.it (eCB f α):=λH0 av A σ H δ E d e Q k=>by
 unfold eCB at e;cases he:α δ with
 |none=>rw [he]at e;cases e
 |some ds=>
  rw [he]at e;refine h H0 av A σ H δ E ds he _ λvs H1 s1 r1 => ?_
  have E1:=E.mono s1;cases q with
  |cl=>exact hr _ H1 ds vs d E1.avl r1.il e _ λv H' s r=>k v H' (s1.trans s) r.t
  |tp=>exact hr _ H1 ds vs d E1.avl r1.il e _ λv H' s r=>k v H' (s1.trans s) r.t
  |dt=>exact hr _ H1 ds vs d E1.avH r1.il e _ λv H' s r=>k v H' (s1.trans s) r.t
theorem il1{i:Addr->Prop}{H:Hp}{x:D}{vs:List V}(h:Qa cA i H [x] vs):∃v t,vs=[v]/\RepT cA t i H x v:=by
 obtain⟨v,r,rfl,⟨t,h1⟩,h2⟩:=h;cases(show r=[]from h2);exact⟨v,t,rfl,h1⟩
theorem il2{i:Addr->Prop}{H:Hp}{x y:D}{vs:List V}(h:Qa cA i H [x,y] vs):∃v u t t',vs=[v,u]/\RepT cA t i H x v/\RepT cA t' i H y u:=by
 obtain⟨v,r,rfl,⟨t,h1⟩,u,r',rfl,⟨t',h2⟩,h3⟩:=h;cases(show r'=[]from h3);exact⟨v,u,t,t',rfl,h1,h2⟩
def lenD:List D->Option D
 | [.str a]=>if a.length<=sizeLine then some (.int a.length)else none
 | [.lst xs]=>some (.int xs.length)
 | [.tup xs]=>some (.int xs.length)
 |_=>none
theorem YW:QI cA (ZgE cA.K) lenD:=λi H ds vs d _ h e Q k=>by
 cases ds with
 |nil=>cases e
 |cons x r=>
  cases r with
  |cons _ _=>cases x<;>cases e
  |nil=>
   obtain⟨v,t,rfl,hx⟩:=il1 h;cases x<;>first|(cases e;done)|skip
   · rename_i a
     dsimp only [lenD]at e
     by_cases hz:a.length<=sizeLine
     · rw [if_pos hz]at e
       cases e;exact .inl ⟨a,by rw [show v=S a from hx],hz,k _ H (Same.refl H) rfl⟩
     · rw [if_neg hz]at e;cases e
   · obtain⟨a,ws,rfl,_,rd,l⟩:=hx
     cases e;exact .inr ⟨a,ws,rfl,.inl rd,k _ H (Same.refl H) (by rw [l.length];rfl)⟩
   · obtain⟨a,ws,rfl,_,rd,l⟩:=hx
     cases e;exact .inr ⟨a,ws,rfl,.inr (SqT.of rd),k _ H (Same.refl H) (by rw [l.length];rfl)⟩
def minD:List D->Option D
 | [.int i,.int j]=>some (.int (if j<i then j else i))
 |_=>none
def Z1:List D->Option D
 | [.int i,.int j]=>some (.int (if j>i then j else i))
 |_=>none
theorem Zg6{ds:List D}{d:D}(e:minD ds=some d):∃i j,ds=[.int i,.int j]/\d = .int (if j<i then j else i):=by
 unfold minD at e
 split at e
 · exact⟨_,_,rfl,(Option.some.inj e).symm⟩
 · cases e
theorem Zgh:QI cA (λxs H Q=>∃i j,xs=[.int i,.int j]/\Q (.int (if j<i then j else i)) H) minD:=λi H ds vs d _ h e Q k=>by
 obtain⟨a,b,rfl,rfl⟩:=Zg6 e;obtain⟨v,u,t,t',rfl,h1,h2⟩:=il2 h;cases(show v=_ from h1);cases(show u=_ from h2);exact⟨a,b,rfl,k _ H (Same.refl H) rfl⟩
def Vr:List D->Option (List Bool)
 | []=>some []
 | .bl b::r=>match Vr r with
  |some bs=>some (b::bs)
  |none=>none
 |_=>none
theorem ZcM:∀{xs:List D}{bs:List Bool},Vr xs=some bs->xs=bs.map D.bl
 | [],bs,h=>by cases h;rfl
 |x::xs,bs,h=>by
  cases x<;>first|(cases h;done)|skip
  rename_i b;unfold Vr at h;cases hr:Vr xs with
  |none=>rw [hr]at h;cases h
  |some cs=>
   rw [hr]at h;cases h;rw [List.map_cons,ZcM hr]
theorem Js(bs:List Bool):Vr (bs.map D.bl)=some bs:=by
 induction bs with
 |nil=>rfl
 |cons b bs ih=>rw [List.map_cons,Vr,ih]
def XH(f:List Bool->Bool):List D->Option D
 | [.lst xs]=>match Vr xs with
  |some bs=>some (.bl (f bs))
  |none=>none
 |_=>none
theorem QJ{f:List Bool->Bool}:QI cA (Jl cA.K f) (XH f):=λi H ds vs d _ h e Q k=>by
 unfold XH at e
 split at e
 · rename_i xs
   cases hb:Vr xs with
   |none=>rw [hb]at e;cases e
   |some bs=>
    rw [hb]at e;cases e;obtain⟨v,t,rfl,a,ws,rfl,_,rd,l⟩:=il1 h;have ex:=ZcM hb;subst ex;have ev:=l.vals (by rw [List.all_map];exact List.all_eq_true.mpr λ_ _=>rfl);rw [List.map_map]at ev;subst ev;exact⟨a,bs,rfl,rd,k _ H (Same.refl H) rfl⟩
 · cases e
def intD:List D->Option D
 | [.str a]=>if a.length<=640/\a≠[]/\a.all Zjo=true then some (.int (ZkQ a:Nat))else none
 | [.bl b]=>some (.int (if b then 1 else 0))
 |_=>none
theorem ZiJ:QI cA rIntX intD:=λi H ds vs d _ h e Q k=>by
 unfold intD at e
 split at e
 · rename_i a
   obtain⟨v,t,rfl,hx⟩:=il1 h;cases(show v=_ from hx)
   by_cases hz:a.length<=640/\a≠[]/\a.all Zjo=true
   · rw [if_pos hz]at e
     cases e;exact .inl ⟨a,rfl,hz.1,hz.2.1,hz.2.2,k _ H (Same.refl H) rfl⟩
   · rw [if_neg hz]at e;cases e
 · rename_i b
   obtain⟨v,t,rfl,hx⟩:=il1 h;cases(show v=_ from hx);cases e;exact .inr ⟨b,rfl,k _ H (Same.refl H) rfl⟩
 · cases e
def Vs:List D->Option D
 | [.lst xs]=>some (.tup xs)
 | [.tup xs]=>some (.tup xs)
 |_=>none
theorem Jt{t:TA}{α:Env->Option (List D)}(h:VA G ow t .cl α):VE G ow (tCB (Zge G.1.K) t) .cl (eCB Vs α):=λH0 av A σ H δ E d e Q k=>by
 unfold eCB at e;cases he:α δ with
 |none=>rw [he]at e;cases e
 |some ds=>
  rw [he]at e;refine h H0 av A σ H δ E ds he _ λvs H1 s1 r1 => ?_
  have E1:=E.mono s1;have e:Vs ds=some d:=e;unfold Vs at e
  split at e
  · rename_i xs
    cases e;obtain⟨v,r,rfl,⟨a,ws,rfl,_,rd,l⟩,h2⟩:=r1;cases(show r=[]from h2);exact⟨a,ws,rfl,.inl ⟨rd,λp hp=>k _ _ (s1.trans (YV hp)) ⟨p,ws,rfl,λz=>E1.avl p z hp,YO,l.same (YV hp)⟩⟩⟩
  · rename_i xs
    cases e;obtain⟨v,r,rfl,⟨a,ws,rfl,na,rd,l⟩,h2⟩:=r1;cases(show r=[]from h2);exact⟨a,ws,rfl,.inr ⟨SqT.of rd,k _ H1 s1 ⟨a,ws,rfl,na,rd,l⟩⟩⟩
  · cases e
end
end DL
namespace DL
open PySem PySem.Spec L2
inductive Out where
 |nx (δ:Env)
 |rt (d:D)
 |bk (δ:Env)
 |ct (δ:Env)
def Zlp(G:Cn)(owN owB owC:List Nat)(H0:Hp)(av:Addr->Prop)(De:Ends):Out->Prop
 | .nx δ'=>∀A' σ' H',ER G owN H0 av A' σ' H' δ'->De.nx σ' H'
 | .rt d=>∀v H',Same H0 H'->Rep G.1 av H' d v->De.rt v H'
 | .bk δ'=>∀A' σ' H',ER G owB H0 av A' σ' H' δ'->De.bk σ' H'
 | .ct δ'=>∀A' σ' H',ER G owC H0 av A' σ' H' δ'->De.ct σ' H'
def VS(G:Cn)(ow owN owB owC:List Nat)(ts:TS)(φ:Env->Option Out):Prop:=
 ∀H0 av A σ H δ,ER G ow H0 av A σ H δ->∀o,φ δ=some o->∀De:Ends,Zlp G owN owB owC H0 av De o->ts De σ H
def VG(G:Cn)(ow ow':List Nat)(g:TG)(γ:D->Env->Option Env):Prop:=
 ∀H0 av A σ H δ,ER G ow H0 av A σ H δ->∀d v,Rep G.1 (AV av A) H d v->∀δ',γ d δ=some δ'->∀Q:L2.St->Hp->Prop,(∀A' σ' H',Same H H'->ER G ow' H0 av A' σ' H' δ'->Q σ' H')->g v σ H Q
def sub(a b:List Nat):Bool:=a.all λx=>b.contains x
theorem Zbc{a b:List Nat}(h:sub a b=true):∀x∈a,x∈b:=λx hx=>by
 have:=List.all_eq_true.mp h x hx;simpa using this
section
variable{cA:Kn}{G:Cn}{ow owN owB owC ow1 ow2:List Nat}{H0 H H':Hp}{av:Addr->Prop}{A:Nat->Option Addr}{σ:L2.St}{δ:Env}
theorem Zcc{α:Type}{l:List (Option α)}{i j:Nat}{x y:α}(h:(l.set i (some x))[j]? = some (some y)):(j=i/\y=x/\i<l.length)\/(j≠i/\l[j]? = some (some y)):=by
 by_cases e:j=i
 · subst e
   by_cases hl:j<l.length
   · rw [List.getElem?_set_self hl]at h
     exact .inl ⟨rfl,(Option.some.inj (Option.some.inj h)).symm,hl⟩
   · rw [List.getElem?_eq_none (by simpa using hl)]at h
     cases h
 · rw [List.getElem?_set_ne (Ne.symm e)]at h
   exact .inr ⟨e,h⟩
theorem ER.set{i:Nat}{d:D}{v:V}(E:ER G ow H0 av A σ H δ)(h:Rep G.1 (AV av A) H d v)(hw:∀j,j∈ow1 ↔ j∈ow/\j≠i)(hn:G.2 i=none) :
 ER G ow1 H0 av (λj=>if j=i then none else A j) (σ.set i (some v)) H (δ.set i (some d)):=by
 have less:∀b,AV av (λj=>if j=i then none else A j) b->AV av A b:=λb z=>by
  rcases z with z|⟨j,z⟩
  · exact .inl z
  · by_cases e:j=i
    · simp [e]at z
    · simp [e]at z;exact .inr ⟨j,z⟩
 refine⟨E.same,E.avd,λj a e => ?_,λj k a e1 e2 => ?_,λj a e => ?_,λj e => ?_,λj hj => ?_,by simp [E.len],λj a e=>(by
  have q:j≠i:=λz=>by rw [z,hn]at e;cases e
  simp only [q,if_false];exact E.pin j a e),(λj v' e=>by
  have q:j≠i:=λz=>by rw [z,hn]at e;cases e
  rw [List.getElem?_set_ne (Ne.symm q)];exact E.kept j v' e),λj d' e => ?_⟩
 · by_cases q:j=i
   · simp [q]at e
   · simp [q]at e;exact E.fr j a e
 · by_cases q:j=i
   · simp [q]at e1
   · by_cases q2:k=i
     · simp [q2]at e2
     · simp [q]at e1;simp [q2]at e2;exact E.inj j k a e1 e2
 · by_cases q:j=i
   · simp [q]at e
   · simp [q]at e;exact E.live j a e
 · by_cases q:j=i
   · simp [q]at e
   · simp [q]at e;exact(hw j).mpr ⟨E.dom j e,q⟩
 · obtain⟨h1,h2⟩:=(hw j).mp hj
   simp [h2];exact E.dom' j h1
 · rcases Zcc e with⟨rfl,rfl,hl⟩|⟨q,e'⟩
   · refine⟨v,?_,λ_=>h.av λb z => .inl (less b z),λa z=>by simp at z⟩
     rw [List.getElem?_set_self (by rw [E.len];exact hl)]
   · obtain⟨v',h1,h2,h3⟩:=E.var j d' e'
     refine⟨v',by rw [List.getElem?_set_ne (Ne.symm q)];exact h1,λz => ?_,λa z => ?_⟩
     · simp [q]at z
       exact(h2 z).av λb z => .inl (less b z)
     · simp [q]at z
       obtain⟨r1,r2⟩:=h3 a z;refine⟨r1,?_⟩;cases d' with
       |lst xs=>obtain⟨vs,q1,q2⟩:=r2;exact⟨vs,q1,q2.av λb z => .inl (less b z)⟩
       |obj c ks xs=>obtain⟨dx,vs,q1,q0,q2⟩:=r2;exact⟨dx,vs,q1,q0,q2.av λb z => .inl (less b z)⟩
       |dct ks xs=>obtain⟨vs,q1,q0,q2⟩:=r2;exact⟨vs,q1,q0,q2.av λb z => .inl (less b z)⟩
       |dtt ks xs=>obtain⟨vs,q1,q0,q2⟩:=r2;exact⟨vs,q1,q0,q2.av λb z => .inl (less b z)⟩
       |_=>exact r2
theorem ER.own{i:Nat}{xs:List D}{vs:List V}{p:Addr}(E:ER G ow H0 av A σ H δ)(hp:H p=none)(l:RepL G.1 (AV av A) H xs vs)(hw:∀j,j∈ow1 ↔ j∈ow\/j=i)(hn:G.2 i=none) :
 ER G ow1 H0 av (λj=>if j=i then some p else A j) (σ.set i (some (.ref p))) (upd H p (.lst vs)) (δ.set i (some (.lst xs))):=by
 have hs:Same H (upd H p (.lst vs)):=YV hp
 have less:∀b,AV av (λj=>if j=i then some p else A j) b->AV av A b\/H b=none:=λb z=>by
  rcases z with z|⟨j,z⟩
  · exact .inl (.inl z)
  · by_cases e:j=i
    · simp [e]at z;subst z;exact .inr hp
    · simp [e]at z;exact .inl (.inr ⟨j,z⟩)
 have np:∀j a,A j=some a->a≠p:=λj a e z=>by subst z;exact E.live j a e hp
 have h0:H0 p=none:=by
  cases q:H0 p with
  |none=>rfl
  |some o=>rw [E.same p o q]at hp;cases hp
 refine⟨E.same.trans hs,E.avd,λj a e => ?_,λj k a e1 e2 => ?_,λj a e => ?_,λj e => ?_,λj hj => ?_,by simp [E.len],λj a e=>(by
  have q:j≠i:=λz=>by rw [z,hn]at e;cases e
  simp only [q,if_false];exact E.pin j a e),(λj v' e=>by
  have q:j≠i:=λz=>by rw [z,hn]at e;cases e
  rw [List.getElem?_set_ne (Ne.symm q)];exact E.kept j v' e),λj d' e => ?_⟩
 · by_cases q:j=i
   · simp [q]at e;subst e;exact h0
   · simp [q]at e;exact E.fr j a e
 · by_cases q:j=i
   · by_cases q2:k=i
     · rw [q,q2]
     · simp [q]at e1;simp [q2]at e2
       exact absurd e1.symm (np k a e2)
   · by_cases q2:k=i
     · simp [q]at e1;simp [q2]at e2
       exact absurd e2.symm (np j a e1)
     · simp [q]at e1;simp [q2]at e2;exact E.inj j k a e1 e2
 · by_cases q:j=i
   · simp [q]at e;subst e;rw [YO];exact λz=>by cases z
   · simp [q]at e
     rw [Ye (np j a e)];exact E.live j a e
 · by_cases q:j=i
   · exact(hw j).mpr (.inr q)
   · simp [q]at e;exact(hw j).mpr (.inl (E.dom j e))
 · by_cases q:j=i
   · simp [q]
   · simp [q]
     exact E.dom' j (((hw j).mp hj).resolve_right q)
 · rcases Zcc e with⟨rfl,rfl,hl⟩|⟨q,e'⟩
   · refine⟨.ref p,?_,λz=>by simp at z,λa z => ?_⟩
     · rw [List.getElem?_set_self (by rw [E.len];exact hl)]
     · simp at z
       subst z;exact⟨rfl,vs,YO,(l.av less).same hs⟩
   · obtain⟨v',h1,h2,h3⟩:=E.var j d' e'
     refine⟨v',by rw [List.getElem?_set_ne (Ne.symm q)];exact h1,λz => ?_,λa z => ?_⟩
     · simp [q]at z
       exact((h2 z).av less).same hs
     · simp [q]at z
       obtain⟨r1,r2⟩:=h3 a z;refine⟨r1,?_⟩;cases d' with
       |lst xs=>obtain⟨vs',q1,q2⟩:=r2;exact⟨vs',hs _ _ q1,(q2.av less).same hs⟩
       |obj c ks xs=>obtain⟨dx,vs',q1,q0,q2⟩:=r2;exact⟨dx,vs',hs _ _ q1,q0,(q2.av less).same hs⟩
       |dct ks xs=>obtain⟨vs',q1,q0,q2⟩:=r2;exact⟨vs',hs _ _ q1,q0,(q2.av less).same hs⟩
       |dtt ks xs=>obtain⟨vs',q1,q0,q2⟩:=r2;exact⟨vs',hs _ _ q1,q0,(q2.av less).same hs⟩
       |_=>exact r2
theorem ER.put{i:Nat}{a:Addr}{d d':D}(E:ER G ow H0 av A σ H δ)(hi:A i=some a)(hd:δ[i]? = some (some d))(hk:∀b o,b≠a->H b=some o->H' b=some o)(hl:H' a≠none)(ho:Own G.1 (AV av A) H' d' a) :
 ER G ow H0 av A σ H' (δ.set i (some d')):=by
 have kk:∀b o,¬AV av A b->H b=some o->H' b=some o:=λb o n e=>hk b o (λz=>n (.inr ⟨i,by rw [z];exact hi⟩)) e
 refine⟨λb o e=>hk b o (λz => ?_) (E.same b o e),E.avd,E.fr,E.inj,λj b e => ?_,E.dom,E.dom',by simp [E.len],E.pin,E.kept,λj d'' e => ?_⟩
 · rw [z,E.fr i a hi]at e;cases e
 · by_cases q:b=a
   · subst q;exact hl
   · have:=E.live j b e
     cases e':H b with
     |none=>exact absurd e' this
     |some o=>rw [hk b o q e'];exact λz=>by cases z
 · rcases Zcc e with⟨rfl,rfl,hl'⟩|⟨q,e'⟩
   · obtain⟨v,h1,_,h3⟩:=E.var j d hd
     obtain⟨r1,_⟩:=h3 a hi
     exact⟨v,h1,λz=>(by rw [hi]at z;cases z),λb z=>by
      rw [hi]at z;cases z;exact⟨r1,ho⟩⟩
   · obtain⟨v',h1,h2,h3⟩:=E.var j d'' e'
     refine⟨v',h1,λz=>(h2 z).ext kk,λb z => ?_⟩;obtain⟨r1,r2⟩:=h3 b z;have nb:b≠a:=λw=>q (E.inj j i a (by rw [<-w];exact z) hi)
     refine⟨r1,?_⟩;cases d'' with
     |lst xs=>obtain⟨vs,q1,q2⟩:=r2;exact⟨vs,hk _ _ nb q1,q2.ext kk⟩
     |obj c ks xs=>obtain⟨dx,vs,q1,q0,q2⟩:=r2;exact⟨dx,vs,hk _ _ nb q1,q0,q2.ext kk⟩
     |dct ks xs=>obtain⟨vs,q1,q0,q2⟩:=r2;exact⟨vs,hk _ _ nb q1,q0,q2.ext kk⟩
     |dtt ks xs=>obtain⟨vs,q1,q0,q2⟩:=r2;exact⟨vs,hk _ _ nb q1,q0,q2.ext kk⟩
     |_=>exact r2
theorem ER.freeze(i:Nat)(E:ER G ow H0 av A σ H δ)(hw:∀j,j∈ow1 ↔ j∈ow/\j≠i)(hn:G.2 i=none):ER G ow1 H0 av (λj=>if j=i then none else A j) σ H δ:=by
 have less:∀b,AV av (λj=>if j=i then none else A j) b->AV av A b:=λb z=>by
  rcases z with z|⟨j,z⟩
  · exact .inl z
  · by_cases e:j=i
    · simp [e]at z
    · simp [e]at z;exact .inr ⟨j,z⟩
 refine⟨E.same,E.avd,λj a e => ?_,λj k a e1 e2 => ?_,λj a e => ?_,λj e => ?_,λj hj => ?_,E.len,λj a e=>(by
  have q:j≠i:=λz=>by rw [z,hn]at e;cases e
  simp only [q,if_false];exact E.pin j a e),E.kept,λj d' e => ?_⟩
 · by_cases q:j=i
   · simp [q]at e
   · simp [q]at e;exact E.fr j a e
 · by_cases q:j=i
   · simp [q]at e1
   · by_cases q2:k=i
     · simp [q2]at e2
     · simp [q]at e1;simp [q2]at e2;exact E.inj j k a e1 e2
 · by_cases q:j=i
   · simp [q]at e
   · simp [q]at e;exact E.live j a e
 · by_cases q:j=i
   · simp [q]at e
   · simp [q]at e;exact(hw j).mpr ⟨E.dom j e,q⟩
 · obtain⟨h1,h2⟩:=(hw j).mp hj
   simp [h2];exact E.dom' j h1
 · obtain⟨v',h1,h2,h3⟩:=E.var j d' e
   refine⟨v',h1,λz => ?_,λa z => ?_⟩
   · by_cases q:j=i
     · subst q
       cases hA:A j with
       |none=>exact(h2 hA).av λb z => .inl (less b z)
       |some a=>
        obtain⟨rfl,r2⟩:=h3 a hA
        have na:¬AV av (λk=>if k=j then none else A k) a:=λz=>by
         rcases z with z|⟨k,z⟩
         · exact E.avd a z (E.fr j a hA)
         · by_cases qk:k=j
           · simp [qk]at z
           · simp [qk]at z;exact qk (E.inj k j a z hA)
        cases d' with
        |lst xs=>obtain⟨vs,q1,q2⟩:=r2;unfold Rep;exact⟨a,vs,rfl,λz=>(na z).elim,SqL.of q1,q2.av λb z => .inl (less b z)⟩
        |obj c ks xs=>obtain⟨dx,vs,q1,q0,q2⟩:=r2;unfold Rep;exact⟨a,dx,vs,rfl,na,q1,q0,q2.av λb z => .inl (less b z)⟩
        |dct ks xs=>obtain⟨vs,q1,q0,q2⟩:=r2;unfold Rep;exact⟨a,vs,rfl,na,q1,q0,q2.av λb z => .inl (less b z)⟩
        |dtt ks xs=>obtain⟨vs,q1,q0,q2⟩:=r2;unfold Rep;exact⟨a,vs,rfl,na,q1,q0,q2.av λb z => .inl (less b z)⟩
        |_=>exact False.elim r2
     · simp [q]at z
       exact(h2 z).av λb z => .inl (less b z)
   · by_cases q:j=i
     · simp [q]at z
     · simp [q]at z
       obtain⟨r1,r2⟩:=h3 a z;refine⟨r1,?_⟩;cases d' with
       |lst xs=>obtain⟨vs,q1,q2⟩:=r2;exact⟨vs,q1,q2.av λb z => .inl (less b z)⟩
       |obj c ks xs=>obtain⟨dx,vs,q1,q0,q2⟩:=r2;exact⟨dx,vs,q1,q0,q2.av λb z => .inl (less b z)⟩
       |dct ks xs=>obtain⟨vs,q1,q0,q2⟩:=r2;exact⟨vs,q1,q0,q2.av λb z => .inl (less b z)⟩
       |dtt ks xs=>obtain⟨vs,q1,q0,q2⟩:=r2;exact⟨vs,q1,q0,q2.av λb z => .inl (less b z)⟩
       |_=>exact r2
open Classical in
noncomputable def cut(A:Nat->Option Addr)(H:Hp):Hp:=λb=>if ∃i,A i=some b then none else H b
theorem ZcN{b:Addr}{o:HO}(h:cut A H b=some o):H b=some o/\¬∃i,A i=some b:=by
 unfold cut at h
 by_cases e:∃i,A i=some b
 · rw [if_pos e]at h;cases h
 · rw [if_neg e]at h;exact⟨h,e⟩
theorem UJ{b:Addr}(e:¬∃i,A i=some b):cut A H b=H b:=by
 unfold cut;rw [if_neg e]
theorem ER.cut(E:ER G ow H0 av A σ H δ):ER G ow (DL.cut A H) av A σ H δ:=by
 refine⟨λb o e=>(ZcN e).1,λa z => ?_,λi a e => ?_,E.inj,E.live,E.dom,E.dom',E.len,E.pin,E.kept,E.var⟩
 · rw [UJ λ⟨i,e⟩=>E.avd a z (E.fr i a e)]
   exact E.avH a z
 · unfold DL.cut
   rw [if_pos ⟨i,e⟩]
theorem ER.sub0(E:ER G ow H0 av A σ H δ):Same H0 (DL.cut A H):=λb o e=>by
 rw [UJ λ⟨i,z⟩=>by rw [E.fr i b z]at e;cases e];exact E.same b o e
theorem ER.uncut{A':Nat->Option Addr}{σ':L2.St}{δ':Env}(E:ER G ow H0 av A σ H δ)(E':ER G ow1 (DL.cut A H) av A' σ' H' δ'):ER G ow1 H0 av A' σ' H' δ':=
 ⟨E.sub0.trans E'.same,E.avd,λi a e=>E.sub0.free (E'.fr i a e),E'.inj,E'.live,E'.dom,E'.dom',E'.len,E'.pin,E'.kept,E'.var⟩
def sNext(δ:Env):Option Out:=some (.nx δ)
theorem Yl:VS G ow ow owB owC tNext sNext:=λH0 av A σ H δ E o e De k=>by
 cases e;exact k A σ H E
def Zf(φ ψ:Env->Option Out)(δ:Env):Option Out:=match φ δ with
 |some (.nx δ')=>ψ δ'
 |r=>r
theorem Zq{t u:TS}{φ ψ:Env->Option Out}(h1:VS G ow ow1 owB owC t φ)(h2:VS G ow1 owN owB owC u ψ):VS G ow owN owB owC (Qy t u) (Zf φ ψ):=λH0 av A σ H δ E o e De k=>by
 unfold Zf at e;cases he:φ δ with
 |none=>rw [he]at e;cases e
 |some o1=>
  rw [he]at e;refine h1 H0 av A σ H δ E o1 he _ ?_;cases o1 with
  |nx δ'=>exact λA' σ' H' E'=>h2 H0 av A' σ' H' δ' E' o e De k
  |rt d=>cases e;exact k
  |bk δ'=>cases e;exact k
  |ct δ'=>cases e;exact k
def sIf(τ:Env->Option Bool)(φ ψ:Env->Option Out)(δ:Env):Option Out:=match τ δ with
 |some true=>φ δ
 |some false=>ψ δ
 |none=>none
theorem Ym{c:TT}{t u:TS}{τ:Env->Option Bool}{φ ψ:Env->Option Out}(hc:VT G ow c τ)(h1:VS G ow owN owB owC t φ)(h2:VS G ow owN owB owC u ψ):VS G ow owN owB owC (ZkI c t u) (sIf τ φ ψ):=λH0 av A σ H δ E o e De k=>by
 unfold sIf at e;cases he:τ δ with
 |none=>rw [he]at e;cases e
 |some b=>
  rw [he]at e;refine hc H0 av A σ H δ E b he _ λH' s => ?_
  cases b with
  |true=>exact V5 (h1 H0 av A σ H' δ (E.mono s) o e De k)
  |false=>exact V4 (h2 H0 av A σ H' δ (E.mono s) o e De k)
def Zn(ε:Env->Option D)(δ:Env):Option Out:=match ε δ with
 |some d=>some (.rt d)
 |none=>none
theorem ZI{te:TE}{q:Ql}{ε:Env->Option D}(h:VE G ow te q ε):VS G ow owN owB owC (ZkH te) (Zn ε):=λH0 av A σ H δ E o e De k=>by
 unfold Zn at e;cases he:ε δ with
 |none=>rw [he]at e;cases e
 |some d=>
  rw [he]at e;cases e;exact h H0 av A σ H δ E d he _ λv H' s r=>k v H' (E.same.trans s) r.any
def Z2(_:Env):Option Out:=some (.rt .non)
def sNever(_:Env):Option Out:=none
theorem Ju{ts:TS}:VS G ow owN owB owC ts sNever:=λH0 av A σ H δ E o e De k=>by cases e
def sBreak(δ:Env):Option Out:=some (.bk δ)
theorem Zfp:VS G ow owN ow owC tBreak sBreak:=λH0 av A σ H δ E o e De k=>by
 cases e;exact k A σ H E
def Zi(i:Nat)(ε:Env->Option D)(δ:Env):Option Out:=match ε δ with
 |some d=>some (.nx (δ.set i (some d)))
 |none=>none
theorem ZaP{i:Nat}(h1:sub ow1 ow=true)(h2:ow1.contains i=false)(h3:sub ow (i::ow1)=true):∀j,j∈ow1 ↔ j∈ow/\j≠i:=λj=>by
 constructor
 · intro h
   refine⟨Zbc h1 j h,λe => ?_⟩;subst e;have:j∉ow1:=by simpa using h2
   exact this h
 · rintro⟨h,n⟩
   rcases List.mem_cons.mp (Zbc h3 j h)with e|e
   · exact absurd e n
   · exact e
theorem Zfq{i:Nat}(h1:sub ow1 (i::ow)=true)(h2:ow1.contains i=true)(h3:sub ow ow1=true):∀j,j∈ow1 ↔ j∈ow\/j=i:=λj=>by
 constructor
 · intro h
   rcases List.mem_cons.mp (Zbc h1 j h)with e|e
   · exact .inr e
   · exact .inl e
 · rintro(h|rfl)
   · exact Zbc h3 j h
   · simpa using h2
theorem Yc{te:TE}{ε:Env->Option D}(i:Nat)(h:VE G ow te .cl ε)(hn:G.2 i=none:=by rfl)(h1:sub owN ow=true:=by rfl)(h2:owN.contains i=false:=by rfl)(h3:sub ow (i::owN)=true:=by rfl):VS G ow owN owB owC (VC te (VB i)) (Zi i ε):=λH0 av A σ H δ E o e De k=>by
 unfold Zi at e;cases he:ε δ with
 |none=>rw [he]at e;cases e
 |some d=>
  rw [he]at e;cases e;exact h H0 av A σ H δ E d he _ λv H' s r=>k _ _ H' ((E.mono s).set (RepT.r r) (ZaP h1 h2 h3) hn)
theorem ZdT{te:TE}{ε:Env->Option D}(i:Nat)(h:VF G ow te ε)(hn:G.2 i=none:=by rfl)(h1:sub owN (i::ow)=true:=by rfl)(h2:owN.contains i=true:=by rfl)(h3:sub ow owN=true:=by rfl):VS G ow owN owB owC (VC te (VB i)) (Zi i ε):=λH0 av A σ H δ E o e De k=>by
 unfold Zi at e;cases he:ε δ with
 |none=>rw [he]at e;cases e
 |some d=>
  rw [he]at e;cases e;refine h H0 av A σ H δ E d he _ λp vs xs H1 s hp l hd => ?_
  subst hd;exact k _ _ _ ((E.mono s).own hp l (Zfq h1 h2 h3) hn)
def Zy(ε:Env->Option D)(δ:Env):Option Out:=match ε δ with
 |some _=>some (.nx δ)
 |none=>none
theorem Xu{te:TE}{q:Ql}{ε:Env->Option D}(h:VE G ow te q ε):VS G ow ow owB owC (Qz te) (Zy ε):=λH0 av A σ H δ E o e De k=>by
 unfold Zy at e;cases he:ε δ with
 |none=>rw [he]at e;cases e
 |some d=>
  rw [he]at e;cases e;exact h H0 av A σ H δ E d he _ λv H' s r=>k A σ H' (E.mono s)
def UK(i:Nat)(ε:Env->Option D)(δ:Env):Option Out:=match Za i δ with
 |some (.lst xs)=>match ε δ with
  |some d=>if xs.length<sizeLine then some (.nx (δ.set i (some (.lst (xs++[d])))))else none
  |none=>none
 |_=>none
theorem Zgi{K:PySem.W.Frag}{te:TE}{ε:Env->Option D}(i:Nat)(hi:ow.contains i=true)(h:VE G ow te .cl ε):VS G ow ow owB owC (Qz (tBM K "list" rAppend (UC i) (Xk te tNil))) (UK i ε):=λH0 av A σ H δ E o e De k=>by
 unfold UK at e;cases hv:Za i δ with
 |none=>rw [hv]at e;cases e
 |some x=>
  rw [hv]at e;cases x<;>first|(cases e;done)|skip
  rename_i xs;dsimp only at e;cases he:ε δ with
  |none=>rw [he]at e;cases e
  |some d=>
   rw [he]at e;dsimp only at e
   by_cases hz:xs.length<sizeLine
   · rw [if_pos hz]at e
     cases e;have hi':i∈ow:=by simpa using hi
     cases hA:A i with
     |none=>exact absurd hA (E.dom' i hi')
     |some a=>
      obtain⟨v,h1,_,h3⟩:=E.var i _ (Ul hv);obtain⟨rfl,vs,q1,q2⟩:=h3 a hA;refine⟨_,h1,.inl ⟨rfl,vs,SqL.of q1⟩,h H0 av A σ H δ E d he _ λv H' s r => ?_⟩;have E':=E.mono s;have q1':=s _ _ q1;refine⟨a,vs,v,rfl,rfl,q1',by rw [<-q2.length];exact hz,k A σ _ (E'.put hA (Ul hv) (λb o hb e=>by rw [Ye hb];exact e) (by rw [YO];exact λz=>by cases z) ⟨_,YO,?_⟩)⟩
      have ex:∀b o,¬AV av A b->H' b=some o->upd H' a (.lst (vs++[v])) b=some o:=λb o n e=>by
       rw [Ye λz=>n (.inr ⟨i,by rw [z];exact hA⟩)];exact e
      exact((q2.same s).append (.cons (RepT.r r) .nil)).ext ex
   · rw [if_neg hz]at e;cases e
theorem VS.frz{t:TS}{φ:Env->Option Out}(i:Nat)(h:VS G ow1 owN owB owC t φ)(hn:G.2 i=none:=by rfl)(h1:sub ow1 ow=true:=by rfl)(h2:ow1.contains i=false:=by rfl)(h3:sub ow (i::ow1)=true:=by rfl):VS G ow owN owB owC t φ:=λH0 av A σ H δ E o e De k=>
 h H0 av _ σ H δ (E.freeze i (ZaP h1 h2 h3) hn) o e De k
def Yd(i:Nat)(d:D)(δ:Env):Option Env:=some (δ.set i (some d))
theorem Y9(i:Nat)(hi:ow.contains i=false:=by rfl)(hn:G.2 i=none:=by rfl):VG G ow ow (VB i) (Yd i):=λH0 av A σ H δ E d v r δ' e Q k=>by
 cases e
 exact k _ _ H (Same.refl H) (E.set r (λj=>by
  have:i∉ow:=by simpa using hi
  exact⟨λh=>⟨h,λz=>this (z▸h)⟩,λh=>h.1⟩) hn)
def VGs(G:Cn)(ow ow':List Nat)(g:TGs)(γ:List D->Env->Option Env):Prop:=
 ∀H0 av A σ H δ,ER G ow H0 av A σ H δ->∀ds vs,RepL G.1 (AV av A) H ds vs->∀δ',γ ds δ=some δ'->∀Q:L2.St->Hp->Prop,(∀A' σ' H',Same H H'->(∀b,AV av A' b->AV av A b)->ER G ow' H0 av A' σ' H' δ'->Q σ' H')->g vs σ H Q
def gsNil(ds:List D)(δ:Env):Option Env:=match ds with
 | []=>some δ
 |_=>none
theorem Jv:VGs G ow ow gNil gsNil:=λH0 av A σ H δ E ds vs r δ' e Q k=>by
 cases ds with
 |nil=>cases e;exact⟨r.nil_of,k A σ H (Same.refl H) (λ_ z=>z) E⟩
 |cons _ _=>cases e
def Yr(i:Nat)(γs:List D->Env->Option Env)(ds:List D)(δ:Env):Option Env:=match ds with
 |d::r=>γs r (δ.set i (some d))
 | []=>none
theorem V9{gs:TGs}{γs:List D->Env->Option Env}(i:Nat)(hi:ow.contains i=false)(hn:G.2 i=none)(h:VGs G ow ow gs γs):VGs G ow ow (ZhR (VB i) gs) (Yr i γs):=λH0 av A σ H δ E ds vs r δ' e Q k=>by
 cases ds with
 |nil=>cases e
 |cons d ds=>
  obtain⟨v,vr,rfl,r1,r2⟩:=r.uncons;refine⟨v,vr,rfl,?_⟩
  have less:∀b,AV av (λj=>if j=i then none else A j) b->AV av A b:=λb z=>by
   rcases z with z|⟨j,z⟩
   · exact .inl z
   · by_cases e:j=i
     · simp [e]at z
     · simp [e]at z;exact .inr ⟨j,z⟩
  have E1:ER G ow H0 av (λj=>if j=i then none else A j) (σ.set i (some v)) H (δ.set i (some d)):=E.set r1 (λj=>by
   have:i∉ow:=by simpa using hi
   exact⟨λh=>⟨h,λz=>this (z▸h)⟩,λh=>h.1⟩) hn
  exact h H0 av _ _ H _ E1 ds vr (r2.av λb z => .inl (less b z)) δ' e Q λA' σ' H' s l E'=>k A' σ' H' s (λb z=>less b (l b z)) E'
def YX(n:Nat)(γs:List D->Env->Option Env)(d:D)(δ:Env):Option Env:=match d with
 | .tup ds=>if ds.length=n then γs ds δ else none
 |_=>none
theorem Jw{K:PySem.W.Frag}{n:Nat}{gs:TGs}{γs:List D->Env->Option Env}(h:VGs G ow ow gs γs):VG G ow ow (ZkJ K n gs) (YX n γs):=λH0 av A σ H δ E d v r δ' e Q k=>by
 cases d<;>first|(cases e;done)|skip
 rename_i ds;dsimp only [YX]at e
 by_cases hz:ds.length=n
 · rw [if_pos hz]at e
   unfold Rep at r;obtain⟨a,vs,rfl,_,rd,l⟩:=r;exact⟨a,vs,rfl,SqT.of rd,by rw [<-l.length];exact hz,h H0 av A σ H δ E ds vs l δ' e Q λA' σ' H' s _ E'=>k A' σ' H' s E'⟩
 · rw [if_neg hz]at e;cases e
def Qb(cA:Kn)(iv:Addr->Prop)(J:It)(xs:List D)(H0:Hp):Prop:=∀H,Same H0 H ->
 (∀i,i<xs.length->J.go i H) /\
 (∀(i:Nat)x v H',xs[i]? = some x->J.yld i H v H'->Same H H'/\∀av':Addr->Prop,(∀b,av' b->H b≠none)->(∀b,av' b->iv b\/H0 b=none)->Rep cA av' H' x v) /\
 (∀i,xs.length<=i->J.stop i H)
def VI(G:Cn)(ow:List Nat)(wi:TI)(ι:Env->Option (List D)):Prop:=
 ∀H0 av A σ H δ,ER G ow H0 av A σ H δ->∀xs,ι δ=some xs->∀R:It->Hp->Prop,(∀J H1,Same H H1->Qb G.1 (AV av A) J xs (DL.cut A H1)->R J H1)->wi σ H R
def YK(γ:D->Env->Option Env)(φ:Env->Option Out):List D->Env->Option Out
 | [],δ=>some (.nx δ)
 |x::r,δ=>match γ x δ with
  |none=>none
  |some δ1=>match φ δ1 with
   |none=>none
   |some (.nx δ2)=>YK γ φ r δ2
   |some (.ct δ2)=>YK γ φ r δ2
   |some (.bk δ2)=>some (.nx δ2)
   |some (.rt d)=>some (.rt d)
def YN(ι:Env->Option (List D))(γ:D->Env->Option Env)(φ:Env->Option Out)(δ:Env):Option Out:=match ι δ with
 |some xs=>YK γ φ xs δ
 |none=>none
theorem VL{wi:TI}{g:TG}{tb:TS}{ι:Env->Option (List D)}{γ:D->Env->Option Env}{φ:Env->Option Out}(hi:VI G ow wi ι)(hg:VG G ow ow g γ)(hb:VS G ow ow ow ow tb φ):VS G ow ow owB owC (ZkK wi g tb) (YN ι γ φ):=λH0 av A σ H δ E o e De k=>by
 unfold YN at e;cases he:ι δ with
 |none=>rw [he]at e;cases e
 |some xs=>
  rw [he]at e;have e:YK γ φ xs δ=some o:=e;refine hi H0 av A σ H δ E xs he _ λJ H1 s1 W => ?_
  have E1:=E.mono s1;refine⟨λi m σ' H'=>m=xs.length-i/\i<=xs.length/\∃A' δ',ER G ow (DL.cut A H1) av A' σ' H' δ'/\YK γ φ (xs.drop i) δ'=some o,⟨xs.length,by simp,Nat.zero_le _,A,δ,E1.cut,e⟩,?_⟩
  rintro i m σ' H' ⟨rfl,hle,A',δ',E',e'⟩
  obtain⟨w1,w2,w3⟩:=W H' E'.same
  by_cases hlt:i<xs.length
  · refine .inr ⟨w1 i hlt,λσ2 H2=>∃A2 δ2,ER G ow (DL.cut A H1) av A2 σ2 H2 δ2/\YK γ φ (xs.drop (i+1)) δ2=some o,λσ2 H2 ⟨A2,δ2,E2,e2⟩=>⟨xs.length-(i+1),by omega,rfl,hlt,A2,δ2,E2,e2⟩,λv H2 y => ?_⟩
    have hx:xs[i]? = some xs[i]:=List.getElem?_eq_getElem hlt;obtain⟨s2,rep⟩:=w2 i _ v H2 hx y;have E2:=E'.mono s2
    have rep':Rep G.1 (AV av A') H2 xs[i] v:=rep _ E'.avl λb z=>by
     rcases z with z|⟨j,z⟩
     · exact .inl (.inl z)
     · exact .inr (E'.fr j b z)
    rw [List.drop_eq_getElem_cons hlt]at e';unfold YK at e';cases hγ:γ xs[i] δ' with
    |none=>rw [hγ]at e';cases e'
    |some δ1=>
     rw [hγ]at e';dsimp only at e';refine hg _ av A' σ' H2 δ' E2 _ v rep' δ1 hγ _ λA3 σ3 H3 s3 E3 => ?_
     cases hφ:φ δ1 with
     |none=>rw [hφ]at e';cases e'
     |some o1=>
      rw [hφ]at e';refine hb _ av A3 σ3 H3 δ1 E3 o1 hφ _ ?_;cases o1 with
      |nx δ2=>exact λA4 σ4 H4 E4=>⟨A4,δ2,E4,e'⟩
      |ct δ2=>exact λA4 σ4 H4 E4=>⟨A4,δ2,E4,e'⟩
      |bk δ2=>cases e';exact λA4 σ4 H4 E4=>k A4 σ4 H4 (E1.uncut E4)
      |rt d=>cases e';exact λv H4 s4 r4=>k v H4 (E1.sub0.trans s4) r4
  · have ei:i=xs.length:=by omega
    subst ei;rw [List.drop_length]at e';cases e';exact .inl ⟨w3 _ (Nat.le_refl _),k A' σ' H' (E1.uncut E')⟩
def Xv(τ:Env->Option Bool)(φ:Env->Option Out):Nat->Env->Option Out
 |0,_=>none
 |n+1,δ=>match τ δ with
  |none=>none
  |some false=>some (.nx δ)
  |some true=>match φ δ with
   |none=>none
   |some (.nx δ2)=>Xv τ φ n δ2
   |some (.ct δ2)=>Xv τ φ n δ2
   |some (.bk δ2)=>some (.nx δ2)
   |some (.rt d)=>some (.rt d)
theorem Zak{τ:Env->Option Bool}{φ:Env->Option Out}:∀(n k:Nat)(δ:Env)(o:Out),Xv τ φ n δ=some o->Xv τ φ (n+k) δ=some o
 |0,_,_,_,h=>by cases h
 |n+1,k,δ,o,h=>by
  rw [Nat.add_right_comm];unfold Xv at h ⊢;cases ht:τ δ with
  |none=>rw [ht]at h;cases h
  |some b=>
   rw [ht]at h;cases b with
   |false=>exact h
   |true=>
    dsimp only at h ⊢;cases hp:φ δ with
    |none=>rw [hp]at h;cases h
    |some o1=>
     rw [hp]at h;cases o1 with
     |nx δ2=>exact Zak n k δ2 o h
     |ct δ2=>exact Zak n k δ2 o h
     |bk δ2=>exact h
     |rt d=>exact h
open Classical in
noncomputable def Qc(τ:Env->Option Bool)(φ:Env->Option Out)(δ:Env):Option Out:=if h:∃n o,Xv τ φ n δ=some o then Xv τ φ (Classical.choose h) δ else none
theorem ZeA{τ:Env->Option Bool}{φ:Env->Option Out}{δ:Env}{n:Nat}{o:Out}(h:Xv τ φ n δ=some o):Qc τ φ δ=some o:=by
 have hx:∃n o,Xv τ φ n δ=some o:=⟨n,o,h⟩
 unfold Qc;rw [dif_pos hx];obtain⟨o',ho'⟩:=Classical.choose_spec hx;have h1:=Zak _ n δ o' ho';have h2:=Zak _ (Classical.choose hx) δ o h;rw [Nat.add_comm,h2]at h1;rw [ho',h1]
theorem Zcm{τ:Env->Option Bool}{φ:Env->Option Out}{δ:Env}{o:Out}(h:Qc τ φ δ=some o):∃n,Xv τ φ n δ=some o:=by
 unfold Qc at h
 split at h
 · exact⟨_,h⟩
 · cases h
theorem Zfr{c:TT}{tb:TS}{τ:Env->Option Bool}{φ:Env->Option Out}(hc:VT G ow c τ)(hb:VS G ow ow ow ow tb φ):VS G ow ow owB owC (Zga c tb) (Qc τ φ):=λH0 av A σ H δ E o e De k=>by
 obtain⟨n,e⟩:=Zcm e;refine⟨λm σ' H'=>∃A' δ',ER G ow H0 av A' σ' H' δ'/\Xv τ φ m δ'=some o,⟨n,A,δ,E,e⟩,?_⟩
 rintro m σ' H' ⟨A',δ',E',e'⟩
 cases m with
 |zero=>cases e'
 |succ m=>
  unfold Xv at e';cases ht:τ δ' with
  |none=>rw [ht]at e';cases e'
  |some b=>
   rw [ht]at e';refine hc H0 av A' σ' H' δ' E' b ht _ λH2 s2 => ?_
   have E2:=E'.mono s2;cases b with
   |false=>cases e';exact V4 (k A' σ' H2 E2)
   |true=>
    dsimp only at e';refine V5 ⟨λσ3 H3=>∃A3 δ3,ER G ow H0 av A3 σ3 H3 δ3/\Xv τ φ m δ3=some o,λσ3 H3 ⟨A3,δ3,E3,e3⟩=>⟨m,Nat.lt_succ_self _,A3,δ3,E3,e3⟩,?_⟩;cases hφ:φ δ' with
    |none=>rw [hφ]at e';cases e'
    |some o1=>
     rw [hφ]at e';refine hb H0 av A' σ' H2 δ' E2 o1 hφ _ ?_;cases o1 with
     |nx δ2=>exact λA4 σ4 H4 E4=>⟨A4,δ2,E4,e'⟩
     |ct δ2=>exact λA4 σ4 H4 E4=>⟨A4,δ2,E4,e'⟩
     |bk δ2=>cases e';exact k
     |rt d=>cases e';exact k
end
end DL
namespace DL
open PySem PySem.Spec L2
section
variable{cA:Kn}{G:Cn}{ow owN owB owC:List Nat}
def Yu(ε:Env->Option D)(δ:Env):Option (List D):=match ε δ with
 |some (.lst xs)=>some xs
 |some (.tup xs)=>some xs
 |some (.str cs)=>some (cs.map λc => .str [c])
 |_=>none
theorem Rep.cut{av:Addr->Prop}{A:Nat->Option Addr}{H:Hp}{d:D}{v:V}(h:Rep cA (AV av A) H d v):Rep cA (AV av A) (DL.cut A H) d v:=h.ext λb o n e=>by
 rw [UJ λ⟨i,z⟩=>n (.inr ⟨i,z⟩)];exact e
theorem RepL.cut{av:Addr->Prop}{A:Nat->Option Addr}{H:Hp}{d:List D}{v:List V}(h:RepL cA (AV av A) H d v):RepL cA (AV av A) (DL.cut A H) d v:=h.ext λb o n e=>by
 rw [UJ λ⟨i,z⟩=>n (.inr ⟨i,z⟩)];exact e
theorem Zdl{iv:Addr->Prop}{H0:Hp}{a:Addr}{vs:List V}{xs:List D}(rd:SqL cA.K H0 a vs)(l:RepL cA iv H0 xs vs):Qb cA iv (Itl cA.K a) xs H0:=λH s=>by
 have rd':SqL cA.K H a vs:=s.seq rd;refine⟨λi hi => ?_,λi x v H' hx y => ?_,λi hi=>⟨vs,rd',by rw [<-l.length];exact hi⟩⟩
 · obtain⟨v,hv,_⟩:=l.get (List.getElem?_eq_getElem hi)
   exact⟨vs,v,rd',hv⟩
 · obtain⟨rfl,hy⟩:=y
   obtain⟨v',hv,r⟩:=l.get hx;rw [hy vs rd']at hv;cases hv;exact⟨Same.refl _,λav' _ h2=>(r.av h2).same s⟩
theorem ZeB{K:PySem.W.Frag}{iv:Addr->Prop}{H0:Hp}{a:Addr}{vs:List V}{xs:List D}(rd:H0 a=some (.tup vs))(l:RepL cA iv H0 xs vs):Qb cA iv (Itt K a) xs H0:=λH s=>by
 have rd':SqT K H a vs:=SqT.of (s _ _ rd);refine⟨λi hi => ?_,λi x v H' hx y => ?_,λi hi=>⟨vs,rd',by rw [<-l.length];exact hi⟩⟩
 · obtain⟨v,hv,_⟩:=l.get (List.getElem?_eq_getElem hi)
   exact⟨vs,v,rd',hv⟩
 · obtain⟨rfl,hy⟩:=y
   obtain⟨v',hv,r⟩:=l.get hx;rw [hy vs rd']at hv;cases hv;exact⟨Same.refl _,λav' _ h2=>(r.av h2).same s⟩
theorem ZeC{iv:Addr->Prop}{H0:Hp}{cs:List Nat}:Qb cA iv (Its cs) (cs.map λc => .str [c]) H0:=λH s=>by
 refine⟨λi hi=>(show i<cs.length by simpa using hi),λi x v H' hx y => ?_,λi hi=>(show cs.length<=i by simpa using hi)⟩;obtain⟨rfl,c,hc,rfl⟩:=y;rw [List.getElem?_map,hc]at hx;cases hx;exact⟨Same.refl _,λ_ _ _=>rfl⟩
theorem XS{tl:TE}{ε:Env->Option D}(h:VE G ow tl .cl ε):VI G ow (ZkR G.1.K tl) (Yu ε):=λH0 av A σ H δ E xs e R k=>by
 unfold Yu at e;cases he:ε δ with
 |none=>rw [he]at e;cases e
 |some d=>
  rw [he]at e;refine h H0 av A σ H δ E d he _ λv H1 s r => ?_
  cases d<;>first|(cases e;done)|skip
  · cases e
    exact .inr (.inr ⟨_,r,k _ H1 s ZeC⟩)
  · cases e
    obtain⟨a,vs,rfl,na,rd,l⟩:=r;exact .inl ⟨a,vs,rfl,rd,k _ H1 s (Zdl (ZdA na rd λb o n e=>by rw [UJ λ⟨i,z⟩=>n (.inr ⟨i,z⟩)];exact e) l.cut)⟩
  · cases e
    obtain⟨a,vs,rfl,na,rd,l⟩:=r;exact .inr (.inl ⟨a,vs,rfl,SqT.of rd,k _ H1 s (ZeB (by rw [UJ λ⟨i,z⟩=>na (.inr ⟨i,z⟩)];exact rd) l.cut)⟩)
def YA(lo c:Int)(n:Nat):List D:=(List.range n).map λk => .int (lo+(k:Nat)*c)
theorem ZeD{iv:Addr->Prop}{H0:Hp}{lo:Int}{n:Nat}:Qb cA iv (Itr lo n) (YA lo 1 n) H0:=λH s=>by
 refine⟨λi hi=>(show i<n by simpa [YA]using hi),λi x v H' hx y => ?_,λi hi=>(show n<=i by simpa [YA]using hi)⟩;obtain⟨rfl,rfl⟩:=y;have hi:i<n:=by have:=(List.getElem?_eq_some_iff.mp hx).1;simpa [YA]using this
 have:x = .int (lo+i):=by
  unfold YA at hx;rw [List.getElem?_map,List.getElem?_range hi]at hx;have:=Option.some.inj hx;rw [<-this];show D.int (lo+(i:Int)*1)=_;rw [Int.mul_one]
 subst this;exact⟨Same.refl _,λ_ _ _=>rfl⟩
def Xg(α:Env->Option (List D))(δ:Env):Option (List D):=match α δ with
 |some [.int j]=>if -(2 ^ 62)<=j/\j<2 ^ 62 then some (YA 0 1 j.toNat)else none
 |some [.int i,.int j]=>if -(2 ^ 62)<=i/\i<2 ^ 62 /\ -(2 ^ 62)<=j/\j<2 ^ 62 then some (YA i 1 (j-i).toNat)else none
 |some [.int i,.int j,.int c]=>if c≠0/\c.natAbs<1073741824/\Builtin.Range.small i j c=true then some (YA i c (Builtin.Range.rangeSize i j c).toNat)else none
 |_=>none
theorem ql1{av:Addr->Prop}{A:Nat->Option Addr}{H:Hp}{q:Ql}{x:Int}{vs:List V}(h:RepQL cA av A H q [.int x] vs):vs=[.int x]:=by
 obtain⟨v,r,rfl,h1,h2⟩:=h;have:=h1.any;cases(show v=_ from this);cases(show r=[]from h2);rfl
theorem QK{ta:TA}{q:Ql}{a:Env->Option (List D)}(h:VA G ow ta q a)(hl:∀δ ds,a δ=some ds->ds.length=1):VI G ow (ZhS ta) (Xg a):=λH0 av A σ H δ E xs e R k=>by
 unfold Xg at e;cases he:a δ with
 |none=>rw [he]at e;cases e
 |some ds=>
  rw [he]at e;refine h H0 av A σ H δ E ds he _ λvs H1 s r => ?_
  have hln:=hl δ ds he
  split at e
  · rename_i j he2
    cases he2
    by_cases hz : -(2 ^ 62)<=j/\j<2 ^ 62
    · rw [if_pos hz]at e
      cases e;exact⟨j,ql1 r,hz.1,hz.2,k _ H1 s ZeD⟩
    · rw [if_neg hz]at e;cases e
  · rename_i he2;cases he2;simp at hln
  · rename_i he2;cases he2;simp at hln
  · cases e
theorem Zg7{δ:Env}{ds:List D}(h:eNil δ=some ds):ds.length=0:=by cases h;rfl
theorem Zfs{a:Env->Option D}{r:Env->Option (List D)}{n:Nat}(hr:∀δ ds,r δ=some ds->ds.length=n):∀δ ds,Zb a r δ=some ds->ds.length=n+1:=λδ ds h=>by
 unfold Zb at h;cases ha:a δ with
 |none=>rw [ha]at h;cases h
 |some x=>
  rw [ha]at h;cases hr':r δ with
  |none=>rw [hr']at h;cases h
  |some xs=>rw [hr']at h;cases h;rw [List.length_cons,hr δ xs hr']
theorem QL{a:Env->Option D}:∀δ ds,Zb a eNil δ=some ds->ds.length=1:=Zfs λ_ _=>Zg7
def X1(n:Nat)(δ:Env)(js:List Nat):Env:=List.replicate n none++js.map λj=>(δ[j]?).getD none
def Xh(γ:D->Env->Option Env)(τ:Env->Option Bool)(ε:Env->Option D)(δ0:Env):List D->Option (List D)
 | []=>some []
 |x::r=>match γ x δ0 with
  |none=>none
  |some δ1=>match τ δ1 with
   |none=>none
   |some false=>Xh γ τ ε δ0 r
   |some true=>match ε δ1 with
    |none=>none
    |some y=>match Xh γ τ ε δ0 r with
     |none=>none
     |some ys=>some (y::ys)
def YJ(ι:Env->Option (List D))(γ:D->Env->Option Env)(τ:Env->Option Bool)(ε:Env->Option D)(n:Nat)(js:List Nat)(δ:Env):Option D:=match ι δ with
 |none=>none
 |some xs=>match Xh γ τ ε (X1 n δ js) xs with
  |none=>none
  |some ys=>if ys.length<=sizeLine then some (.lst ys)else none
theorem ER.blk{H0 H:Hp}{av:Addr->Prop}{A:Nat->Option Addr}{σ:L2.St}{δ:Env}(n:Nat)(js:List Nat)(hjs:js.all (λj => !ow.contains j)=true)(E:ER G ow H0 av A σ H δ) :
 ER ⟨G.1,λ_=>none⟩ [] H (AV av A) (λ_=>none) (L2.blk n σ js) H (X1 n δ js):=by
 refine⟨Same.refl H,E.avl,λ_ _ z=>(by cases z),λ_ _ _ z=>(by cases z),λ_ _ z=>(by cases z),λ_ z=>absurd rfl z,λ_ z=>(by cases z),?_,λ_ _ z=>(by cases z),λ_ _ z=>(by cases z),λi d e => ?_⟩
 · unfold L2.blk X1 Jk
   rw [List.length_append,List.length_append,List.length_replicate,List.length_replicate,List.length_map,List.length_map]
 · unfold X1 at e
   by_cases hi:i<n
   · rw [List.getElem?_append_left (by simpa using hi),List.getElem?_replicate,if_pos hi]at e
     cases e
   · rw [List.getElem?_append_right (by simpa using hi),List.length_replicate,List.getElem?_map]at e
     cases hj:js[i-n]? with
     |none=>rw [hj]at e;cases e
     |some j=>
      rw [hj]at e;have e':(δ[j]?).getD none=some d:=Option.some.inj e
      have e2:δ[j]? = some (some d):=by
       cases q:δ[j]? with
       |none=>rw [q]at e';cases e'
       |some z=>rw [q]at e';exact congrArg some e'
      obtain⟨v,h1,h2,_⟩:=E.var j d e2
      have hjo:A j=none:=by
       cases q:A j with
       |none=>rfl
       |some a=>
        have h3:=E.dom j (by rw [q];exact λz=>by cases z);have h4:=List.all_eq_true.mp hjs j (List.mem_of_getElem? hj);simp at h4;exact absurd h3 h4
      refine⟨v,?_,λ_=>(h2 hjo).av λb z => ?_,λ_ z=>(by cases z)⟩
      · unfold L2.blk Jk
        rw [List.getElem?_append_right (by simpa using hi),List.length_replicate,List.getElem?_map,hj];show some ((σ[j]?).getD none)=_;rw [h1];rfl
      · rcases z with z|⟨_,z⟩
        · exact .inl z
        · cases z
theorem X9 {wi:TI} {g:TG} {tt:TT} {te:TE} {n:Nat} {js:List Nat} {ι:Env->Option (List D)} {γ:D->Env->Option Env} {τ:Env->Option Bool} {ε:Env->Option D}
 (hjs:js.all (λj => !ow.contains j)=true) (hi:VI G ow wi ι) (hg:VG ⟨G.1,λ_=>none⟩ [] [] g γ) (ht:VT ⟨G.1,λ_=>none⟩ [] tt τ) (he:VE ⟨G.1,λ_=>none⟩ [] te .cl ε):VF G ow (ZgD wi g tt te n js) (YJ ι γ τ ε n js):=λH0 av A σ H δ E d e Q k=>by
 unfold YJ at e;cases hι:ι δ with
 |none=>rw [hι]at e;cases e
 |some xs=>
  rw [hι]at e;dsimp only at e;cases hc:Xh γ τ ε (X1 n δ js) xs with
  |none=>rw [hc]at e;cases e
  |some full=>
   rw [hc]at e;dsimp only at e
   by_cases hz:full.length<=sizeLine
   · rw [if_pos hz]at e
     have ed:D.lst full=d:=Option.some.inj e;refine hi H0 av A σ H δ E xs hι _ λJ H1 s1 W => ?_
     have E1:=E.mono s1
     refine⟨λi m ys H'=>m=xs.length-i/\i<=xs.length/\Same H1 H'/\∃done rest,RepL G.1 (AV av A) H' done ys/\Xh γ τ ε (X1 n δ js) (xs.drop i)=some rest/\done++rest=full,
      ⟨xs.length,by simp,Nat.zero_le _,Same.refl _,[],full,.nil,hc,rfl⟩,?_⟩
     rintro i m ys H' ⟨rfl,hle,s',done,rest,rl,hr,hf⟩
     have E':=E1.mono s';have sc:Same (DL.cut A H1) H':=λb o z=>s' b o (ZcN z).1
     obtain⟨w1,w2,w3⟩:=W H' sc
     by_cases hlt:i<xs.length
     · refine .inr ⟨w1 i hlt,λv H2 y => ?_⟩
       have hx:xs[i]? = some xs[i]:=List.getElem?_eq_getElem hlt;obtain⟨s2,rep⟩:=w2 i _ v H2 hx y;have rep':Rep G.1 (AV av A) H2 xs[i] v:=rep _ E'.avl λb z => .inl z
       have E2:=E'.mono s2;have EB:ER ⟨G.1,λ_=>none⟩ [] H2 (AV av A) (λ_=>none) (L2.blk n σ js) H2 (X1 n δ js):=E2.blk n js hjs
       have triv:∀(A':Nat->Option Addr){σ':L2.St}{H3:Hp}{δ':Env},ER ⟨G.1,λ_=>none⟩ [] H2 (AV av A) A' σ' H3 δ'->∀b,AV (AV av A) A' b ↔ AV av A b:=λA' {σ' H3 δ'} E3 b=>by
        constructor
        · rintro(z|⟨j,z⟩)
          · exact z
          · have:=E3.dom j (by rw [z];exact λz=>by cases z)
            cases this
        · exact λz => .inl z
       rw [List.drop_eq_getElem_cons hlt]at hr;unfold Xh at hr;cases hγ:γ xs[i] (X1 n δ js)with
       |none=>rw [hγ]at hr;cases hr
       |some δ1=>
        rw [hγ]at hr;dsimp only at hr;refine hg _ _ _ _ H2 _ EB _ v (rep'.av λb z => .inl ((triv _ EB b).mp z)) δ1 hγ _ λA3 σ3 H3 s3 E3 => ?_
        cases hτ:τ δ1 with
        |none=>rw [hτ]at hr;cases hr
        |some c=>
         rw [hτ]at hr;refine ht _ _ A3 σ3 H3 δ1 E3 c hτ _ λH4 s4 => ?_
         have E4:=E3.mono s4;cases c with
         |false=>
          exact V4 ⟨xs.length-(i+1),by omega,rfl,hlt,(s'.trans s2).trans (s3.trans s4),done,rest,rl.same ((s2.trans s3).trans s4),hr,hf⟩
         |true=>
          dsimp only at hr;cases hε:ε δ1 with
          |none=>rw [hε]at hr;cases hr
          |some yd=>
           rw [hε]at hr;dsimp only at hr;cases hr':Xh γ τ ε (X1 n δ js) (xs.drop (i+1))with
           |none=>rw [hr']at hr;cases hr
           |some rest'=>
            rw [hr']at hr;have hrr:yd::rest'=rest:=Option.some.inj hr;subst hrr;refine V5 (he _ _ A3 σ3 H4 δ1 E4 yd hε _ λvy H5 s5 r5 => ?_);have sall:Same H' H5:=((s2.trans s3).trans s4).trans s5;refine⟨?_,xs.length-(i+1),by omega,rfl,hlt,s'.trans sall,done++[yd],rest',(rl.same sall).append (.cons ((RepT.r r5).av λb z => .inl ((triv _ E4 b).mpr z)) .nil),hr',by rw [<-hf];simp⟩
            have:=congrArg List.length hf;rw [List.length_append,List.length_cons]at this;have:=rl.length;omega
     · have ei:i=xs.length:=by omega
       subst ei;rw [List.drop_length]at hr;cases hr;refine .inl ⟨w3 _ (Nat.le_refl _),λp hp=>k p ys full H' (s1.trans s') hp (by rw [<-hf,List.append_nil];exact rl) ed.symm⟩
   · rw [if_neg hz]at e;cases e
def spD(cA:Kn)(n:Nat)(m:List D->Option D):Sp:=λvs H Q _=>∃av ds d,(∀a,av a->H a≠none)/\RepL cA av H ds vs/\ds.length=n/\m ds=some d/\∀v H',Same H H'->Rep cA av H' d v->Q v H'
def Zk(n:Nat)(m:List D->Option D)(dds:List D)(α:Env->Option (List D))(δ:Env):Option D:=match α δ with
 |some ds=>if(ds++dds).length=n then m (ds++dds)else none
 |none=>none
def Ql.cq:Ql->Ql
 | .cl => .cl
 |_ => .dt
theorem ZT{n:Nat}{m:List D->Option D}{t:TA}{q:Ql}{α:Env->Option (List D)}{E0:XK}(dds:List D)(hd:dds.all Yp=true)(h:VA G ow t q α):VE G ow (ZeZ (spD G.1 n m) (dds.map val) E0 t) q.cq (Zk n m dds α):=λH0 av A σ H δ E d e Q k=>by
 unfold Zk at e;cases he:α δ with
 |none=>rw [he]at e;cases e
 |some ds=>
  rw [he]at e;dsimp only at e
  by_cases hz:(ds++dds).length=n
  · rw [if_pos hz]at e
    refine h H0 av A σ H δ E ds he _ λvs H1 s1 r1 => ?_
    have E1:=E.mono s1;cases q with
    |cl=>exact⟨AV av A,ds++dds,d,E1.avl,r1.cl.append (.of_vals hd),hz,e,λv H' s r=>k v H' (s1.trans s) r.t⟩
    |tp=>exact⟨av,ds++dds,d,E1.avH,r1.any.append (.of_vals hd),hz,e,λv H' s r=>k v H' (s1.trans s) r.t⟩
    |dt=>exact⟨av,ds++dds,d,E1.avH,r1.any.append (.of_vals hd),hz,e,λv H' s r=>k v H' (s1.trans s) r.t⟩
  · rw [if_neg hz]at e;cases e
def run(N:Nat)(φ:Env->Option Out)(ds:List D):Option D:=match φ (ds.map some++List.replicate (N-ds.length) none)with
 |some (.rt d)=>some d
 |some (.nx _)=>some .non
 |_=>none
theorem ZeE{N:List Str}{ds:List D}{vs:List V}{av:Addr->Prop}{H:Hp}(r:RepL cA av H ds vs){i:Nat}{d:D}(h:(ds.map some++List.replicate (N.length-ds.length) none)[i]? = some (some d)) :
 ∃v,(L2.start N vs)[i]? = some (some v)/\Rep cA av H d v:=by
 by_cases hi:i<ds.length
 · rw [List.getElem?_append_left (by simpa using hi),List.getElem?_map]at h
   cases hd:ds[i]? with
   |none=>rw [hd]at h;cases h
   |some x=>
    rw [hd]at h;cases h;obtain⟨v,hv,rv⟩:=r.get hd;refine⟨v,?_,rv⟩;unfold L2.start;have:i<vs.length:=by rw [<-r.length];exact hi
    rw [List.getElem?_append_left (by simpa using this),List.getElem?_map,hv];rfl
 · rw [List.getElem?_append_right (by simpa using hi),List.getElem?_replicate]at h
   split at h<;>cases h
theorem Zbl{N:List Str}{ds:List D}{vs:List V}{av:Addr->Prop}{H:Hp}(ha:∀a,av a->H a≠none)(r:RepL cA av H ds vs) :
 ER ⟨cA,λ_=>none⟩ [] H av (λ_=>none) (L2.start N vs) H (ds.map some++List.replicate (N.length-ds.length) none):=by
 refine⟨Same.refl H,ha,λ_ _ z=>(by cases z),λ_ _ _ z=>(by cases z),λ_ _ z=>(by cases z),λ_ z=>absurd rfl z,λ_ z=>(by cases z),?_,λ_ _ z=>(by cases z),λ_ _ z=>(by cases z),λi d e => ?_⟩
 · unfold L2.start
   rw [List.length_append,List.length_append,List.length_map,List.length_map,List.length_replicate,List.length_replicate,r.length]
 · obtain⟨v,h1,h2⟩:=ZeE r e
   refine⟨v,h1,λ_=>h2.av λb z => ?_,λ_ z=>(by cases z)⟩;rcases z with z|⟨_,z⟩
   · exact .inl z
   · cases z
section
variable{P:Program}{w:World}{K:PySem.W.Frag}{mg:Str->Option Value}{base:Heap}
end
theorem ZdU{vs:List V}{lo hi:Option Int}:UH vs lo hi=cutL vs lo hi:=by
 unfold UH cutL;have e:∀n d o,HT.sIx n d o=YQ n d o:=λn d o=>by cases o<;>rfl
 rw [e,e]
theorem RepL.cutL{av:Addr->Prop}{H:Hp}{xs:List D}{vs:List V}(l:RepL cA av H xs vs)(lo hi:Option Int):RepL cA av H (L2.cutL xs lo hi) (L2.cutL vs lo hi):=by
 unfold L2.cutL;rw [l.length];exact(l.drop _).take _
def xNoP(_:Env):Option (Option Int):=some none
def xP(ε:Env->Option D)(δ:Env):Option (Option Int):=match ε δ with
 |some (.int i)=>some (some i)
 |_=>none
def VO(G:Cn)(ow:List Nat)(to:TO)(ω:Env->Option (Option Int)):Prop:=
 ∀H0 av A σ H δ,ER G ow H0 av A σ H δ->∀x,ω δ=some x->∀Q:Option Int->Hp->Prop,(∀H',Same H H'->Q x H')->to σ H Q
theorem XI:VO G ow tNoPart xNoP:=λH0 av A σ H δ E x e Q k=>by
 cases e;exact k H (Same.refl H)
theorem XJ{te:TE}{q:Ql}{ε:Env->Option D}(h:VE G ow te q ε):VO G ow (ZhU te) (xP ε):=λH0 av A σ H δ E x e Q k=>by
 unfold xP at e;cases he:ε δ with
 |none=>rw [he]at e;cases e
 |some d=>
  rw [he]at e;cases d<;>first|(cases e;done)|skip
  cases e;exact h H0 av A σ H δ E _ he _ λv H' s r=>⟨_,r.any,k H' s⟩
def slD:D->Option Int->Option Int->Option D
 | .str a,lo,hi=>if a.length<=sizeLine then some (.str (L2.cutL a lo hi))else none
 | .lst xs,lo,hi=>some (.lst (L2.cutL xs lo hi))
 | .tup xs,lo,hi=>if YQ xs.length 0 lo=0/\YQ xs.length xs.length hi=xs.length then none else some (.tup (L2.cutL xs lo hi))
 |_,_,_=>none
def eSl(a:Env->Option D)(lo hi:Env->Option (Option Int))(δ:Env):Option D:=match a δ with
 |some x=>match lo δ with
  |some l=>match hi δ with
   |some u=>slD x l u
   |none=>none
  |none=>none
 |none=>none
theorem Zft{a:Env->Option D}{lo hi:Env->Option (Option Int)}{δ:Env}{d:D}(h:eSl a lo hi δ=some d):∃x l u,a δ=some x/\lo δ=some l/\hi δ=some u/\slD x l u=some d:=by
 unfold eSl at h;cases ea:a δ with
 |none=>rw [ea]at h;cases h
 |some x=>
  rw [ea]at h;cases el:lo δ with
  |none=>rw [el]at h;cases h
  |some l=>
   rw [el]at h;cases eu:hi δ with
   |none=>rw [eu]at h;cases h
   |some u=>rw [eu]at h;exact⟨x,l,u,rfl,rfl,rfl,h⟩
theorem XM{ta:TE}{tl th:TO}{q:Ql}{a:Env->Option D}{lo hi:Env->Option (Option Int)}(hq:q = .cl\/q = .tp)(ha:VE G ow ta q a)(hl:VO G ow tl lo)(hh:VO G ow th hi):VE G ow (tSl (ZkU G.1.K) ta tl th) .cl (eSl a lo hi):=λH0 av A σ H δ E d e Q k=>by
 obtain⟨x,l,u,ex,el,eu,ed⟩:=Zft e;refine ha H0 av A σ H δ E x ex _ λv H1 s1 r1=>hl H0 av A σ H1 δ (E.mono s1) l el _ λH2 s2=>hh H0 av A σ H2 δ ((E.mono s1).mono s2) u eu _ λH3 s3 => ?_
 have s13:=s2.trans s3;have E3:=(E.mono s1).mono s13
 have r3:RepT G.1 av (AV av A) H3 x v:=by
  have:=(r1.same s13).tp;rcases hq with rfl|rfl<;>exact this
 cases x<;>first|(cases ed;done)|skip
 · rename_i cs
   cases(show v=_ from r3);dsimp only [slD]at ed
   by_cases hz:cs.length<=sizeLine
   · rw [if_pos hz]at ed
     cases ed;exact .inl ⟨cs,rfl,hz,k _ H3 (s1.trans s13) rfl⟩
   · rw [if_neg hz]at ed;cases ed
 · cases ed
   obtain⟨p,vs,rfl,_,rd,ll⟩:=r3;refine .inr (.inl ⟨p,vs,rfl,rd,λp' hp => ?_⟩);rw [ZdU];exact k _ _ ((s1.trans s13).trans (YV hp)) ⟨p',_,rfl,λz=>(E3.avl p' z hp).elim,SqL.of YO,(ll.cutL l u).same (YV hp)⟩
 · rename_i xs
   dsimp only [slD]at ed
   by_cases hz:YQ xs.length 0 l=0/\YQ xs.length xs.length u=xs.length
   · rw [if_pos hz]at ed;cases ed
   · rw [if_neg hz]at ed
     cases ed;obtain⟨p,vs,rfl,_,rd,ll⟩:=r3;refine .inr (.inr ⟨p,vs,rfl,SqT.of rd,?_,λp' hp => ?_⟩)
     · have e:∀n d o,HT.sIx n d o=YQ n d o:=λn d o=>by cases o<;>rfl
       rw [e,e,<-ll.length];exact hz
     · rw [ZdU]
       exact k _ _ ((s1.trans s13).trans (YV hp)) ⟨p',_,rfl,λz=>E3.avl p' z hp,YO,(ll.cutL l u).same (YV hp)⟩
def ZgJ(K:PySem.W.Frag):List V->Hp->VK->Prop:=λxs H Q=>Zm8 K xs H Q\/∃p vs c cv b,xs=[.ref p,c]/\(∀v,RelV c v->v=cv)/\KL K p vs/\kitOne K (.type "list") cv=some b/\Q (.bl b) H
theorem Jx{X:Cx}{K:PySem.W.Frag}(hK:X.K=K:=by rfl):Y5 X (.builtin "isinstance") (ZgJ K):=by
 subst hK;intro pins s σ H xs us Q I rs h;rcases h with h|⟨p,vs,c,cv,b,rfl,hc,⟨o,its,n,hk,h1,_⟩,e,q⟩
 · exact Zfm pins s σ H xs us Q I rs h
 · obtain⟨u,w',rfl,rx,rc⟩:=Je rs
   have ec:=hc _ rc;subst ec;cases(show u=Value.ref p from rx);exact PySem.W.kia_one PySem.W.kitx_list I.kIn ⟨o,I.kIn p o hk,h1⟩ e (λz=>nomatch z) λtk=>⟨.bl b,H,I.tok tk,rfl,q⟩
def kind:D->String
 | .non => "NoneType"
 | .bl _ => "bool"
 | .int _ => "int"
 | .str _ => "str"
 | .lst _ => "list"
 | .tup _ => "tuple"
 | .obj c _ _=>c
 | .dct _ _ => "dict"
 | .dtt _ _ => "dict"
def plainKinds:List String:=["NoneType", "bool", "int", "str", "list", "tuple"]
def ZQ(tab:List (String×Bool)):D->Option Bool
 | .obj c _ _=>if plainKinds.contains c then none else tab.lookup c
 | .dct _ _=>none
 | .dtt _ _=>none
 |d=>tab.lookup (kind d)
def ZL(tab:List (String×Bool))(a:Env->Option D)(δ:Env):Option D:=match a δ with
 |some d=>match ZQ tab d with
  |some b=>some (.bl b)
  |none=>none
 |none=>none
structure ClsI(K:PySem.W.Frag)(C:Addr):Prop where
 cl:Cls K C
 ha:PySem.W.findIn K (.ref C) "__class__" = some (some (.builtin "object.__class__"))
 hn:PySem.W.specialIn K (.builtin "object.__class__") "__get__" = some (some (.builtin "getset_descriptor.__get__"))
 htk:PySem.W.takesIn K (.builtin "object.__class__")=some true
 hm:PySem.W.mroIn K C (.type "object")=some true
structure IsiOk(K:PySem.W.Frag)(cA:Kn)(cv:Value)(tab:List (String×Bool)):Prop where
 plain:∀k∈plainKinds,∀b,tab.lookup k=some b->kitOne K (.type k) cv=some b
 own:∀(c:String)b,plainKinds.contains c=false->tab.lookup c=some b->kitOne K (.ref (cA.c c)) cv=some b/\ClsI K (cA.c c)
theorem ZaG{β:Type}{c:String}{b:β}:∀{tab:List (String×β)},tab.lookup c=some b->(c,b)∈tab
 | [],h=>by simp at h
 |(c',b')::r,h=>by
  rw [List.lookup_cons]at h;cases hc:c == c' with
  |true=>
   rw [hc]at h;cases h;rw [eq_of_beq hc];exact List.mem_cons_self
  |false=>
   rw [hc]at h;exact List.mem_cons_of_mem _ (ZaG h)
theorem Zcd{K:PySem.W.Frag}{cA:Kn}{cv:Value}{tab:List (String×Bool)}(h:∀p∈tab,if plainKinds.contains p.1=true then kitOne K (.type p.1) cv=some p.2 else kitOne K (.ref (cA.c p.1)) cv=some p.2/\ClsI K (cA.c p.1)):IsiOk K cA cv tab where
 plain:=λk hk b hl=>by
  have:=h _ (ZaG hl)
  rwa [if_pos (by simpa using hk)]at this
 own:=λc b hc hl=>by
  have:=h _ (ZaG hl)
  rwa [if_neg (by simpa using hc)]at this
theorem Jy{ta:TE}{q:Ql}{a:Env->Option D}{c:V}{cv:Value}{tab:List (String×Bool)}(hc:∀v,RelV c v->v=cv)(I:IsiOk G.1.K G.1 cv tab)(ha:VE G ow ta q a) :
 VE G ow (tCB (ZgJ G.1.K) (Xk ta (Xk (tC c) tNil))) .cl (ZL tab a):=λH0 av A σ H δ E d e Q k=>by
 unfold ZL at e;cases he:a δ with
 |none=>rw [he]at e;cases e
 |some x=>
  rw [he]at e;dsimp only at e;cases ht:ZQ tab x with
  |none=>rw [ht]at e;cases e
  |some b=>
   rw [ht]at e;cases e;refine ha H0 av A σ H δ E x he _ λv H1 s r => ?_
   have r':=r.any;have fin:∀t,TyOf G.1.K H1 v t->kitOne G.1.K t cv=some b->ZgJ G.1.K [v,c] H1 Q:=λt ty e => .inl ⟨v,c,cv,t,b,rfl,hc,ty,e,k _ H1 s rfl⟩
   cases x with
   |non=>cases(show v=_ from r');exact fin _ .non (I.plain _ (by decide) b (by exact ht))
   |bl y=>cases(show v=_ from r');exact fin _ (.bl y) (I.plain _ (by decide) b (by exact ht))
   |int y=>cases(show v=_ from r');exact fin _ (.int y) (I.plain _ (by decide) b (by exact ht))
   |str y=>cases(show v=_ from r');exact fin _ (.str _) (I.plain _ (by decide) b (by exact ht))
   |lst y=>
    unfold Rep at r';obtain⟨p,vs,rfl,_,rd,_⟩:=r';rcases rd with(rd|⟨o,rd⟩)|rd
    · exact fin _ (.lst rd) (I.plain _ (by decide) b (by exact ht))
    · exact fin _ (.frz rd) (I.plain _ (by decide) b (by exact ht))
    · exact .inr ⟨p,vs,c,cv,b,rfl,hc,rd,I.plain _ (by decide) b (by exact ht),k _ H1 s rfl⟩
   |tup y=>
    unfold Rep at r';obtain⟨p,vs,rfl,_,rd,_⟩:=r';exact fin _ (.tup rd) (I.plain _ (by decide) b (by exact ht))
   |dct ks y=>cases ht
   |dtt ks y=>cases ht
   |obj c' ks y=>
    unfold Rep at r';obtain⟨p,dx,vs,rfl,_,rd,_⟩:=r';dsimp only [ZQ]at ht;cases hp:plainKinds.contains c' with
    |true=>rw [hp,if_pos rfl]at ht;cases ht
    |false=>
    rw [hp,if_neg Bool.false_ne_true]at ht;obtain⟨h1,h2⟩:=I.own c' b hp ht;exact fin _ (.ins rd h2.cl h2.ha h2.hn h2.htk h2.hm) h1
end
end DL
namespace L2
open PySem PySem.Spec
section
variable{X:Cx}
theorem Zfu:MtR X "str.rfind" (λx xs H Q=>∃a c,x=S a/\xs=[S [c]]/\Q (.int (Xd c a)) H):=by
 intro pins s σ H x xs v us Q I rx rs h;obtain⟨a,c,rfl,rfl,q⟩:=h;obtain⟨t,rfl⟩:=rx;obtain⟨u,rfl,t',rfl⟩:=XZ rs;refine SC.rfind ?_;rw [Zfj];exact⟨.int _,H,I.tok _,⟨_,rfl⟩,q⟩
theorem Zfv:MtR X "str.count" (λx xs H Q=>∃a c,x=S a/\xs=[S [c]]/\Q (.int (a.count c:Nat)) H):=by
 intro pins s σ H x xs v us Q I rx rs h;obtain⟨a,c,rfl,rfl,q⟩:=h;obtain⟨t,rfl⟩:=rx;obtain⟨u,rfl,t',rfl⟩:=XZ rs;refine SC.count ?_;rw [Zfk];exact⟨.int _,H,I.tok _,⟨_,rfl⟩,q⟩
theorem Zbm:MtR X "str.index" (λx xs H Q=>∃a c i,x=S a/\xs=[S [c]]/\YM c a=(i:Nat)/\Q (.int (i:Nat)) H):=by
 intro pins s σ H x xs v us Q I rx rs h;obtain⟨a,c,i,rfl,rfl,e,q⟩:=h;obtain⟨t,rfl⟩:=rx;obtain⟨u,rfl,t',rfl⟩:=XZ rs;have e':=Zg0 a c;rw [e]at e';unfold Txt.find at e';cases ho:Builtin.Str.occurrences (tx a) (tx [c]) 0 (tx a).length 1 with
 |nil=>rw [ho]at e';exact absurd e' (by show ¬(-1:Int)=(i:Int);omega)
 |cons j r=>
  rw [ho]at e'
  have e2:j=i:=by
   have:(j:Int)=(i:Int):=e';omega
  subst e2;exact SC.index ho ⟨.int _,H,I.tok _,⟨_,rfl⟩,q⟩
theorem Za1:∀{l:List (List Nat)}{us:List Value},Vals (l.map S) us->PyProof.Rows.StrsAre us (l.map tx)
 | [],us,r=>by
  rw [List.map_nil]at r;cases r;exact .nil
 |a::l,us,r=>by
  rw [List.map_cons]at r;cases r with
  |cons r1 r2=>
   obtain⟨t,rfl⟩:=r1;exact .cons _ t (Za1 r2)
theorem ZdV{K:PySem.W.Frag}(hK:X.K=K:=by rfl):MtR X "str.join" (λx xs H Q=>∃sep p l,x=S sep/\xs=[.ref p]/\SqL K H p (l.map S)/\(l.map List.length).sum+l.length*sep.length<=sizeLine/\Q (S (Uk sep l)) H):=by
 subst hK;intro pins s σ H x xs v us Q I rx rs h;obtain⟨sep,p,l,rfl,rfl,hq,hz,q⟩:=h;obtain⟨t,rfl⟩:=rx;obtain⟨u,rfl,rp⟩:=XZ rs;cases rp;obtain⟨its,rv,pl,_⟩:=I.list hq;have hs:sizeLine=16777216:=sizeLine_eq;refine PyProof.Rows.join_list (ys:=l.map tx) pl.isList (by simpa using Za1 rv) ?_ λt' k=>⟨S (Uk sep l),H,I.tok _,⟨t',?_⟩,q⟩
 · have e : ((l.map tx).map (·.length)) = l.map List.length := by
    rw [List.map_map];exact List.map_congr_left λa _=>Xl a
   rw [e,List.length_map,Xl];omega
 · have:=Zca sep l
   show Value.str (Builtin.Str.glued (tx sep) (l.map tx)) t'=_;rw [StrLaws.glued_eq_join,Zca]
end
end L2
namespace DL
open PySem PySem.Spec L2
section
variable{cA:Kn}{G:Cn}{ow:List Nat}
def QM(cA:Kn)(r:V->List V->Hp->VK->Prop)(f:List Nat->List D->Option D):Prop:=
 ∀(i:Addr->Prop)(H:Hp)(a:List Nat)(ds:List D)(vs:List V)(d:D),(∀a,i a->H a≠none)->Qa cA i H ds vs->f a ds=some d->∀Q:VK,(∀v H',Same H H'->Rep cA i H' d v->Q v H')->r (S a) vs H Q
def eBM(f:List Nat->List D->Option D)(a:Env->Option D)(α:Env->Option (List D))(δ:Env):Option D:=match a δ with
 |some (.str cs)=>match α δ with
  |some ds=>f cs ds
  |none=>none
 |_=>none
theorem Ua{K:PySem.W.Frag}{r:V->List V->Hp->VK->Prop}{f:List Nat->List D->Option D}{to:TE}{t:TA}{q0 q:Ql}{a:Env->Option D}{α:Env->Option (List D)}(hr:QM G.1 r f)(ha:VE G ow to q0 a)(h:VA G ow t q α) :
 VE G ow (tBM K "str" r to t) q.it (eBM f a α):=λH0 av A σ H δ E d e Q k=>by
 unfold eBM at e;cases hx:a δ with
 |none=>rw [hx]at e;cases e
 |some x=>
  rw [hx]at e;cases x<;>first|(cases e;done)|skip
  rename_i cs;dsimp only at e;cases he:α δ with
  |none=>rw [he]at e;cases e
  |some ds=>
   rw [he]at e;refine ha H0 av A σ H δ E _ hx _ λv H1 s1 r1 => ?_
   have e1:v=S cs:=r1.any;subst e1;refine⟨rfl,h H0 av A σ H1 δ (E.mono s1) ds he _ λvs H2 s2 r2 => ?_⟩;have E2:=(E.mono s1).mono s2;have s12:=s1.trans s2;cases q with
   |cl=>exact hr _ H2 cs ds vs d E2.avl r2.il e _ λv H' s r=>k v H' (s12.trans s) r.t
   |tp=>exact hr _ H2 cs ds vs d E2.avl r2.il e _ λv H' s r=>k v H' (s12.trans s) r.t
   |dt=>exact hr _ H2 cs ds vs d E2.avH r2.il e _ λv H' s r=>k v H' (s12.trans s) r.t
def endsD(a:List Nat):List D->Option D
 | [.str b]=>some (.bl (b.isSuffixOf a))
 |_=>none
def rfindD(a:List Nat):List D->Option D
 | [.str [c]]=>some (.int (Xd c a))
 |_=>none
def countD(a:List Nat):List D->Option D
 | [.str [c]]=>some (.int (a.count c:Nat))
 |_=>none
def indexD(a:List Nat):List D->Option D
 | [.str [c]]=>if 0<=YM c a then some (.int (YM c a))else none
 |_=>none
theorem Zcx{i:Addr->Prop}{H:Hp}{b:List Nat}{vs:List V}(h:Qa cA i H [.str b] vs):vs=[S b]:=by
 obtain⟨v,t,rfl,hx⟩:=il1 h;rw [show v=S b from hx]
theorem Zce:QM cA (λx xs H Q=>∃a b,x=S a/\xs=[S b]/\Q (.bl (b.isSuffixOf a)) H) endsD:=λi H a ds vs d _ h e Q k=>by
 unfold endsD at e
 split at e
 · cases e;exact⟨a,_,rfl,Zcx h,k _ H (Same.refl H) rfl⟩
 · cases e
theorem Zfw:QM cA (λx xs H Q=>∃a c,x=S a/\xs=[S [c]]/\Q (.int (Xd c a)) H) rfindD:=λi H a ds vs d _ h e Q k=>by
 unfold rfindD at e
 split at e
 · cases e;exact⟨a,_,rfl,Zcx h,k _ H (Same.refl H) rfl⟩
 · cases e
theorem Zfx:QM cA (λx xs H Q=>∃a c,x=S a/\xs=[S [c]]/\Q (.int (a.count c:Nat)) H) countD:=λi H a ds vs d _ h e Q k=>by
 unfold countD at e
 split at e
 · cases e;exact⟨a,_,rfl,Zcx h,k _ H (Same.refl H) rfl⟩
 · cases e
theorem Zbn:QM cA (λx xs H Q=>∃a c i,x=S a/\xs=[S [c]]/\YM c a=(i:Nat)/\Q (.int (i:Nat)) H) indexD:=λi H a ds vs d _ h e Q k=>by
 unfold indexD at e
 split at e
 · rename_i c
   by_cases hz:0<=YM c a
   · rw [if_pos hz]at e
     cases e;exact⟨a,c,(YM c a).toNat,rfl,Zcx h,by omega,k _ H (Same.refl H) (by rw [Int.toNat_of_nonneg hz];rfl)⟩
   · rw [if_neg hz]at e;cases e
 · cases e
def strs? : List D->Option (List (List Nat))
 | []=>some []
 | .str a::r=>match strs? r with
  |some l=>some (a::l)
  |none=>none
 |_=>none
theorem ZdW:∀{xs:List D}{l:List (List Nat)},strs? xs=some l->xs=l.map D.str
 | [],l,h=>by cases h;rfl
 |x::xs,l,h=>by
  cases x<;>first|(cases h;done)|skip
  rename_i a;unfold strs? at h;cases hr:strs? xs with
  |none=>rw [hr]at h;cases h
  |some r=>
   rw [hr]at h;cases h;rw [List.map_cons,ZdW hr]
def joinD(sep:List Nat):List D->Option D
 | [.lst xs]=>match strs? xs with
  |some l=>if(l.map List.length).sum+l.length*sep.length<=sizeLine then some (.str (Uk sep l))else none
  |none=>none
 |_=>none
theorem ZdX:QM cA (λx xs H Q=>∃sep p l,x=S sep/\xs=[.ref p]/\SqL cA.K H p (l.map S)/\(l.map List.length).sum+l.length*sep.length<=sizeLine/\Q (S (Uk sep l)) H) joinD:=λi H a ds vs d _ h e Q k=>by
 unfold joinD at e
 split at e
 · rename_i xs
   cases hs:strs? xs with
   |none=>rw [hs]at e;cases e
   |some l=>
    rw [hs]at e;dsimp only at e
    by_cases hz:(l.map List.length).sum+l.length*a.length<=sizeLine
    · rw [if_pos hz]at e
      cases e;obtain⟨v,t,rfl,p,ws,rfl,_,rd,ll⟩:=il1 h;have ex:=ZdW hs;subst ex;have ev:=ll.vals (by rw [List.all_map];exact List.all_eq_true.mpr λ_ _=>rfl);rw [List.map_map]at ev;subst ev;exact⟨a,p,l,rfl,rfl,rd,hz,k _ H (Same.refl H) rfl⟩
    · rw [if_neg hz]at e;cases e
 · cases e
end
end DL
namespace L2
open PySem PySem.Spec
structure FunX(K:PySem.W.Frag)(x qual:Str)(st:Stmt)(f:Addr)(fd:FuncData):Prop where
 ex:∃(oc:Value) (od:Option Addr) (dV kV doc pm:Value) (an:Option Addr) (cdv ct:Value) (osl:Array (Option Value)),
  fd=fnOf x qual (defArgs st) (defBody st) (defScope st) dV kV doc pm an cdv ct/\K.lookup f=some ⟨oc,od,.func fd,osl⟩/\codeIn K cdv qual=true
theorem Fun.x{K:PySem.W.Frag}{x qual:Str}{st:Stmt}{f:Addr}{fd:FuncData}(F:Fun K x qual st f fd):FunX K x qual st f fd:=by
 obtain⟨oc,od,kV,doc,pm,an,cdv,ct,osl,h⟩:=F.ex;exact⟨oc,od,.none,kV,doc,pm,an,cdv,ct,osl,h⟩
section
variable{P:Program}{w:World}{K:PySem.W.Frag}{mg:Str->Option Value}{base:Heap}
theorem FunX.ok {x qual:Str} {st:Stmt} {f:Addr} {fd:FuncData} {N ps:List Str} {k:Nat} {sp:Sp} (F:FunX K x qual st f fd) (S:FnScope N ps (defScope st)) (len:∀vs H Q E,sp vs H Q E->vs.length=ps.length)
 (hbody:∀(cdv:Value)(A:Around)(outer:List Env)(s:Shared)(H:Hp)(vs:List V)(Q:VK)(E:XK),Room k (A.deeper (PyProof.Rows.envOfC qual (defScope st) s.heap.objs.size f cdv))->sp vs H Q E ->
   ∃t,PSs (Xq CX0 P w K mg base N qual (defScope st) f cdv A outer s H E).nox (defBody st) t/\t { nx:=λ_ H'=>Q .non H',rt:=Q } (start N vs) H):FnOk P w K mg base CX0 (k+1) f fd ps sp:=by
 obtain⟨oc,od,dV,kV,doc,pm,an,cdv,ct,osl,rfl,lk,hcd⟩:=F.ex;refine ZgC lk hcd S len λA outer s H vs Q E hr hsp => ?_
 obtain⟨t,h,q⟩:=hbody cdv A outer s H vs Q E hr hsp;exact⟨t,h.nox,q⟩
theorem Za2 {x qual:Str} {st:Stmt} {dT:Addr} {o:Obj} {ps:List Str} {ds items:List Value} {n:Nat} {kV doc pm:Value} {an:Option Addr} {cdv ct:Value} (us0:List Str) (ht:K.lookup dT=some o) (hd:o.data = .seq items.toArray n) (hn:us0.length+ds.length=ps.length)
 (h:∀(us:List Value),us.length=us0.length->∃k,bindArgs (fnOf x qual (defArgs st) (defBody st) (defScope st) (.ref dT) kV doc pm an cdv ct) ⟨us,[]⟩=seqItems? (.ref dT) >>= k/\k (some items.toArray)=pure (ps.zip (us++ds))) :
 Binds K (fnOf x qual (defArgs st) (defBody st) (defScope st) (.ref dT) kV doc pm an cdv ct) ps ds:=λs us X hl=>by
 obtain⟨k,h1,h2⟩:=h us (by rw [List.length_append]at hl;omega);exact BindsTo.of_defaults (T:=dT) (o:=o) (items:=items.toArray) (n:=n) rfl (X _ _ ht) hd h1 h2
end
section
variable{X:Cx}
theorem ZcO:OpR X (compareOp .Is) (λx y H Q=>∃a b,x = .bl a/\y = .bl b/\Q (.bl (a == b)) H):=by
 intro pins s σ H x y v u Q I rx ry h;obtain⟨a,b,rfl,rfl,q⟩:=h;cases rx;cases ry;refine wpAny_is_plain rfl ?_;have e:(Value.bool a == Value.bool b)=(a == b):=by cases a<;>cases b<;>rfl
 rw [e];exact⟨.bl (a == b),H,I,rfl,q⟩
end
structure CMeth(K:PySem.W.Frag)(C:Addr)(m:Str)(f:Addr):Prop where
 ga:PySem.W.specialIn K (.ref C) "__getattribute__" = some (some (.builtin "type.__getattribute__"))
 rd:PySem.W.readsIn K C (.type "type")=true
 fc:PySem.W.findCls K (.ref C) (.type "type") m=some (.val (.ref f))
 kp:keepIn K (.ref f)=true
section
variable{X:Cx}{CX:CXT}{k:Nat}{f C:Addr}{fd:FuncData}{ps:List Str}{sp:Sp}{dvs:List V}{ds:List Value}{E:XK}{x m:Str}{p pos apos:Pos}{e o:Expr}{es:List Expr}{ta:TE}{t:TA}
theorem QN {pl:Sem Bool} (hg:Gl X x) (hmg:X.mg x=some (.ref C)) (hm:CMeth X.K C m f) (F:FnOk X.prog X.w X.K X.mg X.base CX k f fd ps sp) (hr:Room k X.A) (hb:Binds X.K fd ps ds) (hd:Vals dvs ds) (hx:Uj CX X E) (ha:PA X (e::es) t)
 (hdb:(x == ("__debug__" : Str))=false:=by decide)
 (hst:starEach (e::es) X.env=(false,eval e X.env)::starEach es X.env:=by rfl) (hpl:(backTo pos (starEach es X.env)).any (·.1)=false:=by rfl)
 (ht:eval (.Call (.Attribute (.Name x p) m apos) (e::es) [] pos) X.env=(do
   let ov <-eval (.Name x p) X.env
   standAt apos.atName
   let(f,first) <-holding [ov] (getMethod ov m pl)
   callWith pos f first (backTo pos (starEach (e::es) X.env)) (backToKw pos (keywordEach [] X.env))):=by rfl) :
 PE X (.Call (.Attribute (.Name x p) m apos) (e::es) [] pos) (ZeZ sp dvs E t):=by
 intro pins s σ H Q I h;refine PySem.W.methodCall_KW (pl:=pl) (U6 I hg hmg ?_ hdb) ht;refine PySem.W.method_cls I.kIn hm.ga (PySem.W.cls_value I.kIn hm.rd hm.fc rfl ?_);have I1:Inv X pins σ H { s with toks:=s.toks+1 }:=I.tok _;refine PySem.W.callWith_K (first:=[]) (h₀:=X.base) I.ok.mod.kin hm.kp (thn (ha pos pins _ σ H _ I1 h) λus s2 ⟨vs,H2,I2,r,q2⟩=>⟨I2.kIn,?_⟩) hst hpl;exact Jg (us:=us) (vs:=vs) F hr hb hd hx I2 r q2
end
end L2
namespace DL
open PySem PySem.Spec L2
theorem Zaz{a b:String}(h:Str.ofString a=Str.ofString b):a=b:=by
 rw [Str.ofString_eq_toList,Str.ofString_eq_toList]at h
 have h1:(a.toList.map Char.toNat)=(b.toList.map Char.toNat):=by
  have:=congrArg (λs:Str=>s.cps.toList) h;simpa using this
 have inj:∀{x y:List Char},x.map Char.toNat=y.map Char.toNat->x=y:=by
  intro x
  induction x with
  |nil=>
   intro y h;cases y with
   |nil=>rfl
   |cons _ _=>cases h
  |cons c x ih=>
   intro y h;cases y with
   |nil=>cases h
   |cons d y=>
    rw [List.map_cons,List.map_cons,List.cons.injEq]at h;have:c=d:=Char.toNat_inj.mp h.1;rw [this,ih h.2]
 exact String.toList_inj.mp (inj h1)
theorem ZaA(a b:String):(Str.ofString a == Str.ofString b)=(a == b):=by
 rw [Bool.eq_iff_iff,beq_iff_eq,beq_iff_eq];exact⟨Zaz,λh=>by rw [h]⟩
section
variable{cA:Kn}{G:Cn}{ow owN owB owC:List Nat}
theorem ZcP{av:Addr->Prop}{H:Hp}{f:String}:∀{ks:List String}{xs:List D}{vs:List V}{d:D},RepL cA av H xs vs->(ks.zip xs).lookup f=some d->∃v,((ks.map Str.ofString).zip vs).lookup (Str.ofString f)=some v/\Rep cA av H d v
 | [],_,_,_,_,h=>by simp at h
 |k::ks,[],_,_,_,h=>by simp at h
 |k::ks,x::xs,vs,d,l,h=>by
  obtain⟨v,r,rfl,h1,h2⟩:=l.uncons;rw [List.zip_cons_cons,List.lookup_cons]at h;rw [List.map_cons,List.zip_cons_cons,List.lookup_cons,ZaA];cases hk:f == k with
  |true=>rw [hk]at h;cases h;exact⟨v,rfl,h1⟩
  |false=>rw [hk]at h;exact ZcP h2 h
theorem ZaH{f:String}:∀{ks:List String}{vs:List V},ks.contains f=false->((ks.map Str.ofString).zip vs).lookup (Str.ofString f)=none
 | [],_,_=>by simp
 |k::ks,[],_=>by simp
 |k::ks,v::vs,h=>by
  rw [List.contains_cons,Bool.or_eq_false_iff]at h;rw [List.map_cons,List.zip_cons_cons,List.lookup_cons,ZaA,h.1];exact ZaH h.2
theorem ZdY{f:String}{y:V}:∀{ks:List String}{vs:List V},ks.length=vs.length->ks.contains f=false->Xc (Str.ofString f) y ((ks.map Str.ofString).zip vs)=(((ks++[f]).map Str.ofString).zip (vs++[y]))
 | [],[],_,_=>rfl
 | [],_::_,h,_=>by simp at h
 |_::_,[],h,_=>by simp at h
 |k::ks,v::vs,h,hf=>by
  rw [List.contains_cons,Bool.or_eq_false_iff]at hf
  have hne:¬Str.ofString k=Str.ofString f:=λz=>by
   have:=Zaz z;have h1:=hf.1;rw [this]at h1;simp at h1
  rw [List.map_cons,List.zip_cons_cons,List.cons_append,List.cons_append,List.map_cons,List.zip_cons_cons];rw [show Xc (Str.ofString f) y ((Str.ofString k,v)::(ks.map Str.ofString).zip vs)=(if Str.ofString k=Str.ofString f then(Str.ofString k,y)::(ks.map Str.ofString).zip vs else(Str.ofString k,v)::Xc (Str.ofString f) y ((ks.map Str.ofString).zip vs))from rfl,if_neg hne];rw [ZdY (by simpa using h) hf.2]
def Va(K:PySem.W.Frag)(cA:Kn)(cls:List String)(f:String):Prop:=∀c∈cls,Cls K (cA.c c)/\NoAttr K (cA.c c) (Str.ofString f)
def Zs(cls:List String)(f:String)(a:Env->Option D)(δ:Env):Option D:=match a δ with
 |some (.obj c ks xs)=>if cls.contains c then(ks.zip xs).lookup f else none
 |_=>none
theorem YR{K:PySem.W.Frag}{ta:TE}{q:Ql}{a:Env->Option D}{cls:List String}{f:String}(F:Va K G.1 cls f)(ha:VE G ow ta q a):VE G ow (ZkM K ta (Str.ofString f)) q.it (Zs cls f a):=λH0 av A σ H δ E d e Q k=>by
 unfold Zs at e;cases he:a δ with
 |none=>rw [he]at e;cases e
 |some x=>
  rw [he]at e;cases x<;>first|(cases e;done)|skip
  rename_i c ks xs;dsimp only at e
  by_cases hc:cls.contains c=true
  · rw [if_pos hc]at e
    obtain⟨h1,h2⟩:=F c (by simpa using hc);refine ha H0 av A σ H δ E _ he _ λv H1 s r => ?_
    obtain⟨p,dx,vs,rfl,_,rd,_,l⟩:=r.tp;obtain⟨w,hw,rw'⟩:=ZcP l e;refine⟨p,_,dx,_,w,rfl,rd,h1,h2,hw,k w H1 s ?_⟩;cases q<;>exact rw'.t
  · rw [if_neg hc]at e;cases e
def ZG(i:Nat)(cls:List String)(f:String)(ε:Env->Option D)(δ:Env):Option Out:=match ε δ with
 |some d=>match Za i δ with
  |some (.obj c ks xs)=>if cls.contains c && !ks.contains f&&decide (ks.length<1000)then some (.nx (δ.set i (some (.obj c (ks++[f]) (xs++[d])))))else none
  |_=>none
 |none=>none
theorem Vb{K:PySem.W.Frag}{te:TE}{ε:Env->Option D}{cls:List String}{f:String}(i:Nat)(hi:ow.contains i=true)(F:Va K G.1 cls f)(h:VE G ow te .cl ε):VS G ow ow owB owC (ZmQ K (UC i) te (Str.ofString f)) (ZG i cls f ε):=λH0 av A σ H δ E o e De k=>by
 unfold ZG at e;cases he:ε δ with
 |none=>rw [he]at e;cases e
 |some d=>
  rw [he]at e;dsimp only at e;cases hv:Za i δ with
  |none=>rw [hv]at e;cases e
  |some x=>
   rw [hv]at e;cases x<;>first|(cases e;done)|skip
   rename_i c ks xs;dsimp only at e
   by_cases hz:(cls.contains c && !ks.contains f&&decide (ks.length<1000))=true
   · rw [if_pos hz]at e
     cases e;simp only [Bool.and_eq_true,decide_eq_true_eq,Bool.not_eq_true']at hz;obtain⟨⟨z1,z2⟩,z3⟩:=hz;obtain⟨h1,h2⟩:=F c (by simpa using z1);have hi':i∈ow:=by simpa using hi
     cases hA:A i with
     |none=>exact absurd hA (E.dom' i hi')
     |some a=>
      refine h H0 av A σ H δ E d he _ λy H1 s r => ?_
      have E1:=E.mono s;obtain⟨v,g1,_,g3⟩:=E1.var i _ (Ul hv);obtain⟨rfl,dx,vs,q1,q0,q2⟩:=g3 a hA;have hl:ks.length=vs.length:=q0.trans q2.length;refine⟨_,g1,a,_,dx,_,rfl,q1,h1,h2,?_,k A σ _ (E1.put hA (Ul hv) (λb o hb e=>by rw [Ye hb];exact e) (by rw [YO];exact λz=>by cases z) ?_)⟩
      · rw [List.length_zip,List.length_map];omega
      · refine⟨dx,vs++[y],?_,by rw [List.length_append,List.length_append,q0];rfl,?_⟩
        · rw [YO,ZdY hl z2]
        · have ex : ∀ b o, ¬ AV av A b -> H1 b = some o -> upd H1 a (.ins (G.1.c c) dx (Xc (Str.ofString f) y ((ks.map Str.ofString).zip vs))) b = some o := fun b o n e => by
           rw [Ye λz=>n (.inr ⟨i,by rw [z];exact hA⟩)];exact e
          exact(q2.append (.cons (RepT.r r) .nil)).ext ex
   · rw [if_neg hz]at e;cases e
def spI(cA:Kn)(n:Nat)(m:List D->Option D):Sp:=λvs H Q _=>∃(x:Addr) (r:List V) (av:Addr->Prop) (ds:List D) (d d':D),vs = .ref x::r/\(∀a,av a->H a≠none)/\¬av x/\Own cA (λa=>av a\/a=x) H d x/\RepL cA (λa=>av a\/a=x) H ds r/\(d::ds).length=n/\m (d::ds)=some d' /\
 ∀H',(∀b o,b≠x->H b=some o->H' b=some o)->Own cA (λa=>av a\/a=x) H' d' x->Q .non H'
theorem Own.live{av:Addr->Prop}{H:Hp}{d:D}{a:Addr}(h:Own cA av H d a):H a≠none:=by
 cases d with
 |lst xs=>obtain⟨vs,q,_⟩:=h;rw [q];exact λz=>by cases z
 |obj c ks xs=>obtain⟨dx,vs,q,_⟩:=h;rw [q];exact λz=>by cases z
 |dct ks xs=>obtain⟨vs,q,_⟩:=h;rw [q];exact λz=>by cases z
 |dtt ks xs=>obtain⟨vs,q,_⟩:=h;rw [q];exact λz=>by cases z
 |_=>exact h.elim
theorem Own.av{av av':Addr->Prop}{H:Hp}{d:D}{a:Addr}(k:∀b,av' b->av b\/H b=none)(h:Own cA av H d a):Own cA av' H d a:=by
 cases d with
 |lst xs=>obtain⟨vs,q,l⟩:=h;exact⟨vs,q,l.av k⟩
 |obj c ks xs=>obtain⟨dx,vs,q,z,l⟩:=h;exact⟨dx,vs,q,z,l.av k⟩
 |dct ks xs=>obtain⟨vs,q,z,l⟩:=h;exact⟨vs,q,z,l.av k⟩
 |dtt ks xs=>obtain⟨vs,q,z,l⟩:=h;exact⟨vs,q,z,l.av k⟩
 |_=>exact h.elim
theorem Own.rep{av:Addr->Prop}{H:Hp}{d:D}{a:Addr}(n:¬av a)(h:Own cA av H d a):Rep cA av H d (.ref a):=by
 cases d with
 |lst xs=>obtain⟨vs,q,l⟩:=h;unfold Rep;exact⟨a,vs,rfl,λz=>(n z).elim,SqL.of q,l⟩
 |obj c ks xs=>obtain⟨dx,vs,q,z,l⟩:=h;unfold Rep;exact⟨a,dx,vs,rfl,n,q,z,l⟩
 |dct ks xs=>obtain⟨vs,q,z,l⟩:=h;unfold Rep;exact⟨a,vs,rfl,n,q,z,l⟩
 |dtt ks xs=>obtain⟨vs,q,z,l⟩:=h;unfold Rep;exact⟨a,vs,rfl,n,q,z,l⟩
 |_=>exact h.elim
def ZE(c:String)(n:Nat)(m:List D->Option D)(dds:List D)(α:Env->Option (List D))(δ:Env):Option D:=match α δ with
 |some ds=>if(D.obj c [] []::(ds++dds)).length=n then m (.obj c [] []::(ds++dds))else none
 |none=>none
theorem Ub{n:Nat}{m:List D->Option D}{t:TA}{α:Env->Option (List D)}{E0:XK}{c:String}(dds:List D)(hd:dds.all Yp=true)(h:VA G ow t .cl α):VE G ow (ZhT (G.1.c c) (spI G.1 n m) (dds.map val) E0 t) .cl (ZE c n m dds α):=λH0 av A σ H δ E d e Q k=>by
 unfold ZE at e;cases he:α δ with
 |none=>rw [he]at e;cases e
 |some ds=>
  rw [he]at e;dsimp only at e
  by_cases hz:(D.obj c [] []::(ds++dds)).length=n
  · rw [if_pos hz]at e
    refine h H0 av A σ H δ E ds he _ λvs H1 s1 r1 x dx hx hdx hne => ?_
    have E1:=E.mono s1;have s2:Same H1 (upd (upd H1 dx (.own x)) x (.ins (G.1.c c) dx [])):=(YV hdx).trans (YV (by rw [Ye (Ne.symm hne)];exact hx));have nx:¬AV av A x:=λz=>E1.avl x z hx
    refine⟨x,vs++dds.map val,AV av A,ds++dds,.obj c [] [],d,rfl,λa z => ?_,nx,⟨dx,[],YO,rfl,.nil⟩,?_,hz,e,λH' hk ho=>⟨rfl,k _ H' ?_ ?_⟩⟩
    · have:=E1.avl a z
      cases q:H1 a with
      |none=>exact absurd q this
      |some o=>rw [s2 a o q];exact λz=>by cases z
    · refine RepL.same s2 ((r1.cl.append (.of_vals hd)).av λb z => ?_)
      rcases z with z|z
      · exact .inl z
      · exact .inr (by rw [z];exact hx)
    · refine s1.trans λb o e=>hk b o (λz=>by rw [z,hx]at e;cases e) (s2 b o e)
    · exact((ho.av λb z => .inl (.inl z)).rep nx).t
  · rw [if_neg hz]at e;cases e
def ZO(i n:Nat)(m:List D->Option D)(dds:List D)(α:Env->Option (List D))(δ:Env):Option Out:=match Za i δ with
 |some d=>match α δ with
  |some ds=>if(d::(ds++dds)).length=n then(match m (d::(ds++dds))with
   |some d'=>some (.nx (δ.set i (some d')))
   |none=>none)else none
  |none=>none
 |none=>none
theorem QO{n:Nat}{m:List D->Option D}{t:TA}{α:Env->Option (List D)}{E0:XK}(i:Nat)(hi:ow.contains i=true)(dds:List D)(hd:dds.all Yp=true)(h:VA G ow t .cl α) :
 VS G ow ow owB owC (Qz (ZeZ (spI G.1 n m) (dds.map val) E0 (Xk (UC i) t))) (ZO i n m dds α):=λH0 av A σ H δ E o e De k=>by
 unfold ZO at e;cases hv:Za i δ with
 |none=>rw [hv]at e;cases e
 |some d=>
  rw [hv]at e;dsimp only at e;cases he:α δ with
  |none=>rw [he]at e;cases e
  |some ds=>
   rw [he]at e;dsimp only at e
   by_cases hz:(d::(ds++dds)).length=n
   · rw [if_pos hz]at e
     cases hm:m (d::(ds++dds))with
     |none=>rw [hm]at e;cases e
     |some d'=>
      rw [hm]at e;cases e;have hi':i∈ow:=by simpa using hi
      cases hA:A i with
      |none=>exact absurd hA (E.dom' i hi')
      |some a=>
       obtain⟨v,g1,_,g3⟩:=E.var i _ (Ul hv);obtain⟨rfl,_⟩:=g3 a hA;refine⟨_,g1,h H0 av A σ H δ E ds he _ λvs H1 s r => ?_⟩;have E1:=E.mono s;obtain⟨v2,g1',_,g3'⟩:=E1.var i _ (Ul hv);obtain⟨_,ow'⟩:=g3' a hA
       have eqv:∀b,(AV av A b/\b≠a)\/b=a ↔ AV av A b:=λb=>by
        constructor
        · rintro(z|z)
          · exact z.1
          · rw [z];exact .inr ⟨i,hA⟩
        · intro z
          by_cases q:b=a
          · exact .inr q
          · exact .inl ⟨z,q⟩
       refine⟨a,vs++dds.map val,λb=>AV av A b/\b≠a,ds++dds,d,d',rfl,λb z=>E1.avl b z.1,λz=>z.2 rfl,ow'.av λb z => .inl ((eqv b).mp z),(r.cl.append (.of_vals hd)).av λb z => .inl ((eqv b).mp z),hz,hm,λH' hk ho => ?_⟩;exact k A σ H' (E1.put hA (Ul hv) hk ho.live (ho.av λb z => .inl ((eqv b).mpr z)))
   · rw [if_neg hz]at e;cases e
def runI(N:Nat)(φ:Env->Option Out)(ds:List D):Option D:=match φ (ds.map some++List.replicate (N-ds.length) none)with
 |some (.nx δ)=>Za 0 δ
 |_=>none
section
variable{P:Program}{w:World}{K:PySem.W.Frag}{mg:Str->Option Value}{base:Heap}
theorem Zm9 {x qual:Str} {st:Stmt} {f:Addr} {fd:FuncData} {N ps:List Str} {k:Nat} {φ:Env->Option Out} (F:FunX K x qual st f fd) (S:FnScope N ps (defScope st))
 (hbody:∀(cdv:Value)(A:Around)(outer:List PySem.Env)(s:Shared)(H:Hp)(E:XK)(a:Addr),Room k (A.deeper (PyProof.Rows.envOfC qual (defScope st) s.heap.objs.size f cdv)) ->
   ∃t,PSs (Xq CX0 P w K mg base N qual (defScope st) f cdv A outer s H E).nox (defBody st) t/\VS ⟨cA,λj=>if j=0 then some (.inl a)else none⟩ [0] [0] [] [] t φ):FnOk P w K mg base CX0 (k+1) f fd ps (spI cA ps.length (runI N.length φ)):=by
 refine F.ok S (λvs H Q E h => ?_) λcdv A outer s H vs Q E hr h => ?_
 · obtain⟨x,r,av,ds,d,d',rfl,_,_,_,l,hl,_⟩:=h
   rw [<-hl,List.length_cons,List.length_cons,l.length]
 · obtain⟨x,r,av,ds,d,d',rfl,ha,nx,ho,l,hl,hm,q⟩:=h
   obtain⟨t,ht,hv⟩:=hbody cdv A outer s H E x hr;refine⟨t,ht,?_⟩;unfold runI at hm;cases hφ:φ ((d::ds).map some++List.replicate (N.length-(d::ds).length) none)with
   |none=>rw [hφ]at hm;cases hm
   |some o=>
    rw [hφ]at hm;cases o<;>first|(cases hm;done)|skip
    rename_i δ';have hm:Za 0 δ'=some d':=hm
    have hAV:∀b,AV av (λj=>if j=0 then some x else none) b ↔ av b\/b=x:=λb=>by
     constructor
     · rintro(z|⟨j,z⟩)
       · exact .inl z
       · by_cases e:j=0
         · simp [e]at z;exact .inr z.symm
         · simp [e]at z
     · rintro(z|z)
       · exact .inl z
       · exact .inr ⟨0,by simp [z]⟩
    have E0:ER ⟨cA,λj=>if j=0 then some (.inl x)else none⟩ [0] (λb=>if b=x then none else H b) av (λj=>if j=0 then some x else none) (L2.start N (.ref x::r)) H ((d::ds).map some++List.replicate (N.length-(d::ds).length) none):=by
     refine⟨λb o e => ?_,λa z => ?_,λi a e => ?_,λi j a e1 e2 => ?_,λi a e => ?_,λi e => ?_,λi hi => ?_,?_,(λi a e=>by
      by_cases q:i=0
      · simp [q]at e;simp [q,e]
      · simp [q]at e),(λi v e=>by
      by_cases q:i=0
      · simp [q]at e
      · simp [q]at e),λi d'' e => ?_⟩
     · by_cases q:b=x
       · simp [q]at e
       · simpa [q]using e
     · have:a≠x:=λq=>nx (q▸z)
       simp [this];exact ha a z
     · by_cases q:i=0
       · simp [q]at e;simp [e]
       · simp [q]at e
     · by_cases q:i=0
       · by_cases q2:j=0
         · rw [q,q2]
         · simp [q2]at e2
       · simp [q]at e1
     · by_cases q:i=0
       · simp [q]at e;subst e;exact ho.live
       · simp [q]at e
     · by_cases q:i=0
       · simp [q]
       · simp [q]at e
     · have:i=0:=by simpa using hi
       simp [this]
     · unfold L2.start
       rw [List.length_append,List.length_append,List.length_map,List.length_map,List.length_replicate,List.length_replicate,List.length_cons,List.length_cons,l.length]
     · by_cases q:i=0
       · subst q
         have e':d=d'':=by simpa using e
         subst e'
         exact⟨.ref x,by simp [L2.start],λz=>by simp at z,λa z=>by
          simp at z;subst z;exact⟨rfl,ho.av λb z => .inl ((hAV b).mp z)⟩⟩
       · obtain⟨i,rfl⟩:∃i',i=i'+1:=⟨i-1,by omega⟩
         have e2:(ds.map some++List.replicate (N.length-(ds.length+1)) none)[i]? = some (some d''):=by simpa using e
         by_cases hi:i<ds.length
         · rw [List.getElem?_append_left (by simpa using hi),List.getElem?_map]at e2
           cases hd:ds[i]? with
           |none=>rw [hd]at e2;cases e2
           |some z=>
            rw [hd]at e2;cases e2;obtain⟨v,hv',rv⟩:=l.get hd;refine⟨v,?_,λ_=>rv.av λb z => .inl ((hAV b).mp z),λa z=>by simp at z⟩;unfold L2.start;have:i+1<(V.ref x::r).length:=by rw [List.length_cons,<-l.length];omega
            rw [List.getElem?_append_left (by simpa using this),List.getElem?_map];simp [hv']
         · rw [List.getElem?_append_right (by simpa using hi),List.getElem?_replicate]at e2
           split at e2<;>cases e2
    refine hv _ av _ _ H _ E0 _ hφ _ λA' σ' H' E' => ?_
    have hA':A' 0=some x:=E'.pin 0 x (by simp);obtain⟨v,_,_,g3⟩:=E'.var 0 d' (Ul hm);obtain⟨_,ho'⟩:=g3 x hA';refine q H' (λb o hb e=>E'.same b o (by simpa [hb]using e)) (ho'.av λb z => ?_);rcases z with z|z
    · exact .inl (.inl z)
    · exact .inl (.inr ⟨0,by rw [hA',z]⟩)
theorem Zlq {x qual:Str} {st:Stmt} {f:Addr} {fd:FuncData} {N ps:List Str} {k:Nat} {φ:Env->Option Out} (F:FunX K x qual st f fd) (S:FnScope N ps (defScope st))
 (hbody:∀(cdv:Value)(A:Around)(outer:List PySem.Env)(s:Shared)(H:Hp)(E:XK),Room k (A.deeper (PyProof.Rows.envOfC qual (defScope st) s.heap.objs.size f cdv)) ->
   ∃t,PSs (Xq CX0 P w K mg base N qual (defScope st) f cdv A outer s H E).nox (defBody st) t/\∃owN,VS ⟨cA,λ_=>none⟩ [] owN [] [] t φ):FnOk P w K mg base CX0 (k+1) f fd ps (spD cA ps.length (run N.length φ)):=by
 refine F.ok S (λvs H Q E h => ?_) λcdv A outer s H vs Q E hr h => ?_
 · obtain⟨av,ds,d,_,r,hl,_⟩:=h
   rw [<-r.length,hl]
 · obtain⟨av,ds,d,ha,r,hl,hm,q⟩:=h
   obtain⟨t,ht,owN,hv⟩:=hbody cdv A outer s H E hr;refine⟨t,ht,?_⟩;unfold run at hm;cases hφ:φ (ds.map some++List.replicate (N.length-ds.length) none)with
   |none=>rw [hφ]at hm;cases hm
   |some o=>
    rw [hφ]at hm;refine hv H av _ _ H _ (Zbl ha r) o hφ _ ?_;cases o with
    |nx δ'=>cases hm;exact λA' σ' H' E'=>q .non H' E'.same rfl
    |rt d'=>cases hm;exact λv H' s' r'=>q v H' s' r'
    |bk δ'=>cases hm
    |ct δ'=>cases hm
end
abbrev MTab:=List (String×(Nat×(List D->Option D)))
structure MethOk(X:Cx)(cA:Kn)(k:Nat)(m:String)(c:String)(n:Nat)(mm:List D->Option D):Prop where
 ex:∃f fd ps,Cls X.K (cA.c c)/\Meth X.K (cA.c c) (Str.ofString m) f/\FnOk X.prog X.w X.K X.mg X.base CX0 k f fd ps (spD cA n mm)/\Binds X.K fd ps []
def MTOk(X:Cx)(cA:Kn)(k:Nat)(m:String):MTab->Prop
 | []=>True
 |(c,n,mm)::r=>MethOk X cA k m c n mm/\MTOk X cA k m r
theorem MTOk.get{X:Cx}{k:Nat}{m:String}:∀{tab:MTab}{c:String}{n:Nat}{mm:List D->Option D},MTOk X cA k m tab->tab.lookup c=some (n,mm)->MethOk X cA k m c n mm
 | [],_,_,_,_,h=>by simp at h
 |(c',n',mm')::r,c,n,mm,T,h=>by
  rw [List.lookup_cons]at h;cases hc:c == c' with
  |true=>
   rw [hc]at h;cases h;have:c=c':=eq_of_beq hc;subst this;exact T.1
  |false=>
   rw [hc]at h;exact MTOk.get T.2 h
def ZdC(cA:Kn)(m:String)(tab:MTab)(ta:TE)(t:TA):TE:=λσ H Q=>ta σ H λx H1=>∃a dx fs c n mm,x = .ref a/\H1 a=some (.ins (cA.c c) dx fs)/\fs.lookup (Str.ofString m)=none/\tab.lookup c=some (n,mm)/\t σ H1 λvs H2=>spD cA n mm (x::vs) H2 Q E0
theorem Zbo {X:Cx} {k:Nat} {m:String} {tab:MTab} {o e:Expr} {es:List Expr} {ta:TE} {t:TA} {pos apos:Pos} {pl:Sem Bool} (T:MTOk X cA k m tab) (hr:Room k X.A) (he:PE X o ta) (ha:PA X (e::es) t)
 (hst:starEach (e::es) X.env=(false,eval e X.env)::starEach es X.env:=by rfl) (hpl:(backTo pos (starEach es X.env)).any (·.1)=false:=by rfl)
 (ht:eval (.Call (.Attribute o (Str.ofString m) apos) (e::es) [] pos) X.env=(do
   let ov <-eval o X.env
   standAt apos.atName
   let(f,first) <-holding [ov] (getMethod ov (Str.ofString m) pl)
   callWith pos f first (backTo pos (starEach (e::es) X.env)) (backToKw pos (keywordEach [] X.env))):=by rfl) :
 PE X (.Call (.Attribute o (Str.ofString m) apos) (e::es) [] pos) (ZdC cA m tab ta t):=by
 intro pins s σ H Q I h;refine PySem.W.methodCall_KW (pl:=pl) (thn (he pins s σ H _ I h) λu s1 ⟨x,H1,I1,rx,a,dx,fs,c,n,mm,ex,ea,l,tl,q⟩ => ?_) ht;subst ex;obtain rfl:u=Value.ref a:=rx;obtain⟨f,fd,ps,hc,hm,F,hb⟩:=(T.get tl).ex;refine Zaj I1 ea hc hm l ?_;refine PySem.W.callWith_K (first:=[.ref a]) (h₀:=X.base) I.ok.mod.kin hm.kp (thn (ha pos pins s1 σ H1 _ I1 q) λus s2 ⟨vs,H2,I2,r,q2⟩=>⟨I2.kIn,?_⟩) hst hpl
 exact Jg (us:=.ref a::us) (vs:=.ref a::vs) (dvs:=[]) (ds:=[]) F hr hb .nil ZB I2 (.cons rfl r) (by rw [List.append_nil];exact q2)
theorem Zaq {X:Cx} {k:Nat} {m:String} {tab:MTab} {o:Expr} {ta:TE} {pos apos:Pos} {pl:Sem Bool} (T:MTOk X cA k m tab) (hr:Room k X.A) (he:PE X o ta)
 (ht:eval (.Call (.Attribute o (Str.ofString m) apos) [] [] pos) X.env=(do
   let ov <-eval o X.env
   standAt apos.atName
   let(f,first) <-holding [ov] (getMethod ov (Str.ofString m) pl)
   callWith pos f first (backTo pos (starEach [] X.env)) (backToKw pos (keywordEach [] X.env))):=by rfl) :
 PE X (.Call (.Attribute o (Str.ofString m) apos) [] [] pos) (ZdC cA m tab ta tNil):=by
 intro pins s σ H Q I h;refine PySem.W.methodCall_KW (pl:=pl) (thn (he pins s σ H _ I h) λu s1 ⟨x,H1,I1,rx,a,dx,fs,c,n,mm,ex,ea,l,tl,q⟩ => ?_) ht;subst ex;obtain rfl:u=Value.ref a:=rx;obtain⟨f,fd,ps,hc,hm,F,hb⟩:=(T.get tl).ex;refine Zaj I1 ea hc hm l ?_;exact PySem.W.callWith_K0 (first:=[.ref a]) I1.kIn hm.kp (Jg (us:=[.ref a]) (vs:=[.ref a]) (dvs:=[]) (ds:=[]) F hr hb .nil ZB I1 (.cons rfl .nil) (by rw [List.append_nil];exact q))
def ZA(m:String)(tab:MTab)(a:Env->Option D)(α:Env->Option (List D))(δ:Env):Option D:=match a δ with
 |some (.obj c ks xs)=>if ks.contains m then none else(match tab.lookup c with
  |some (n,mm)=>match α δ with
   |some ds=>if(D.obj c ks xs::ds).length=n then mm (.obj c ks xs::ds)else none
   |none=>none
  |none=>none)
 |_=>none
theorem UL{m:String}{tab:MTab}{ta:TE}{t:TA}{a:Env->Option D}{α:Env->Option (List D)}(ha:VE G ow ta .cl a)(h:VA G ow t .cl α):VE G ow (ZdC G.1 m tab ta t) .cl (ZA m tab a α):=λH0 av A σ H δ E d e Q k=>by
 unfold ZA at e;cases hx:a δ with
 |none=>rw [hx]at e;cases e
 |some x=>
  rw [hx]at e;cases x<;>first|(cases e;done)|skip
  rename_i c ks xs;dsimp only at e;cases hf:ks.contains m with
  |true=>rw [hf,if_pos rfl]at e;cases e
  |false=>
   rw [hf,if_neg Bool.false_ne_true]at e;cases htb:tab.lookup c with
   |none=>rw [htb]at e;cases e
   |some p=>
    obtain⟨n,mm⟩:=p;rw [htb]at e;dsimp only at e;cases he:α δ with
    |none=>rw [he]at e;cases e
    |some ds=>
     rw [he]at e;dsimp only at e
     by_cases hz:(D.obj c ks xs::ds).length=n
     · rw [if_pos hz]at e
       refine ha H0 av A σ H δ E _ hx _ λv H1 s1 r1 => ?_
       obtain⟨p,dx,vs,rfl,np,rd,zl,l⟩:=r1;refine⟨p,dx,_,c,n,mm,rfl,rd,ZaH hf,htb,h H0 av A σ H1 δ (E.mono s1) ds he _ λws H2 s2 r2 => ?_⟩;have E2:=(E.mono s1).mono s2;refine⟨AV av A,.obj c ks xs::ds,d,E2.avl,.cons ?_ r2.cl,hz,e,λv H' s r=>k v H' ((s1.trans s2).trans s) r.t⟩;unfold Rep;exact⟨p,dx,vs,rfl,np,s2 _ _ rd,zl,l.same s2⟩
     · rw [if_neg hz]at e;cases e
def isD:D->D->Option D
 | .bl a,.bl b=>some (.bl (a == b))
 |_,_=>none
theorem ZhY:Vo cA (λx y H Q=>∃a b,x = .bl a/\y = .bl b/\Q (.bl (a == b)) H) isD:=λt t' i H x y vx vy d _ hx hy e Q k=>by
 cases x<;>cases y<;>first|(cases e;done)|skip
 cases(show vx=_ from hx);cases(show vy=_ from hy);cases e;exact⟨_,_,rfl,rfl,k _ H (Same.refl H) rfl⟩
end
end DL
namespace DL
open PySem PySem.Spec L2
def Xi:Nat->List D->List D
 |_,[]=>[]
 |k,x::xs => .tup [.int (k:Nat),x]::Xi (k+1) xs
theorem Zah:∀(k:Nat)(xs:List D),(Xi k xs).length=xs.length
 |_,[]=>rfl
 |k,x::xs=>by rw [Xi,List.length_cons,List.length_cons,Zah]
theorem ZbQ:∀(k:Nat)(xs:List D)(i:Nat),(Xi k xs)[i]? = (xs[i]?).map λx => .tup [.int ((k+i:Nat):Int),x]
 |_,[],i=>by simp [Xi]
 |k,x::xs,0=>by simp [Xi]
 |k,x::xs,i+1=>by
  rw [Xi,List.getElem?_cons_succ,List.getElem?_cons_succ,ZbQ (k+1) xs i];have:k+1+i=k+(i+1):=by omega
  rw [this]
section
variable{cA:Kn}{G:Cn}{ow:List Nat}
def UM(k:Nat)(ε:Env->Option D)(δ:Env):Option (List D):=match ε δ with
 |some (.str cs)=>some (Xi k (cs.map λc => .str [c]))
 |_=>none
theorem Zcn{iv:Addr->Prop}{H0:Hp}{n0:Nat}{cs:List Nat}:Qb cA iv (ZkV n0 cs) (Xi n0 (cs.map λc => .str [c])) H0:=λH s=>by
 refine⟨λi hi => ?_,λi x v H' hx y => ?_,λi hi => ?_⟩
 · have:i<cs.length:=by simpa [Zah]using hi
   exact this
 · obtain⟨c,p,hc,hp,rfl,rfl⟩:=y
   rw [ZbQ,List.getElem?_map,hc]at hx;cases hx;refine⟨YV hp,λav' h1 _ => ?_⟩;unfold Rep;exact⟨p,_,rfl,λz=>h1 p z hp,YO,.cons rfl (.cons rfl .nil)⟩
 · have:cs.length<=i:=by simpa [Zah]using hi
   exact this
theorem Zfy {X:Cx} {elts:List Expr} {x1:Nat} {tpos:Pos} {a:Expr} {ta:TE} {p pos:Pos} (hg:Gl X "enumerate") (hm:X.mg "enumerate" = none) (ha:PE X a ta) (hs:starEach [a] X.env=[(false,eval a X.env)]:=by rfl) :
 PI X (.Tuple elts x1 tpos) (.Call (.Name "enumerate" p) [a] [] pos) (ZgG (Xk ta tNil)):=Zg3 hg hm (Zd ha Zj hs) hs
theorem Zbp{ta:TE}{q:Ql}{ε:Env->Option D}(h:VE G ow ta q ε):VI G ow (ZgG (Xk ta tNil)) (UM 0 ε):=λH0 av A σ H δ E xs e R k=>by
 unfold UM at e;cases he:ε δ with
 |none=>rw [he]at e;cases e
 |some d=>
  rw [he]at e;cases d<;>first|(cases e;done)|skip
  cases e;refine h H0 av A σ H δ E _ he _ λv H1 s r => ?_
  have e1:v=S _:=r.any;subst e1;exact⟨_,rfl,k _ H1 s Zcn⟩
end
end DL
namespace DL
open PySem PySem.Spec L2
section
variable{cA:Kn}{P:Program}{w:World}{K:PySem.W.Frag}{mg:Str->Option Value}{base:Heap}
theorem Yv {x qual:Str} {st:Stmt} {f:Addr} {fd:FuncData} {N ps:List Str} {k:Nat} {φ:Env->Option Out} {body:List Stmt} {scope:Scope} {n:Nat} {m:List D->Option D} (F:FunX K x qual st f fd) (S:FnScope N ps (defScope st)) (hS:defScope st=scope) (hB:defBody st=body)
 (hbody:∀(cdv:Value)(A:Around)(outer:List PySem.Env)(s:Shared)(H:Hp)(E:XK),Room k (A.deeper (PyProof.Rows.envOfC qual scope s.heap.objs.size f cdv)) ->
   ∃t,PSs (Xq CX0 P w K mg base N qual scope f cdv A outer s H E).nox body t/\∃owN,VS ⟨cA,λ_=>none⟩ [] owN [] [] t φ)  (hm:m=run N.length φ) (hn:ps.length=n):FnOk P w K mg base CX0 (k+1) f fd ps (spD cA n m):=by
 subst hS hB hm hn;exact Zlq F S hbody
theorem Qd {x qual:Str} {st:Stmt} {f:Addr} {fd:FuncData} {N ps:List Str} {k:Nat} {φ:Env->Option Out} {body:List Stmt} {scope:Scope} {n:Nat} {m:List D->Option D} (F:FunX K x qual st f fd) (S:FnScope N ps (defScope st)) (hS:defScope st=scope) (hB:defBody st=body)
 (hbody:∀(cdv:Value)(A:Around)(outer:List PySem.Env)(s:Shared)(H:Hp)(E:XK)(a:Addr),Room k (A.deeper (PyProof.Rows.envOfC qual scope s.heap.objs.size f cdv)) ->
   ∃t,PSs (Xq CX0 P w K mg base N qual scope f cdv A outer s H E).nox body t/\VS ⟨cA,λj=>if j=0 then some (.inl a)else none⟩ [0] [0] [] [] t φ)  (hm:m=runI N.length φ) (hn:ps.length=n):FnOk P w K mg base CX0 (k+1) f fd ps (spI cA n m):=by
 subst hS hB hm hn;exact Zm9 F S hbody
end
end DL
namespace DL
open PySem PySem.Spec L2 PyProof.Rows
def UN:List D->Option (List Int)
 | []=>some []
 | .int b::r=>match UN r with
  |some bs=>some (b::bs)
  |none=>none
 |_=>none
theorem ZcQ:∀{xs:List D}{bs:List Int},UN xs=some bs->xs=bs.map D.int
 | [],bs,h=>by cases h;rfl
 |x::xs,bs,h=>by
  cases x<;>first|(cases h;done)|skip
  rename_i b;unfold UN at h;cases hr:UN xs with
  |none=>rw [hr]at h;cases h
  |some cs=>
   rw [hr]at h;cases h;rw [List.map_cons,ZcQ hr]
theorem ZeF(bs:List Int):UN (bs.map D.int)=some bs:=by
 induction bs with
 |nil=>rfl
 |cons b bs ih=>rw [List.map_cons,UN,ih]
theorem ZcR:∀(ns:List Int)(its:List Value),Vals (ns.map V.int) its->IntsAre its ns
 | [],its,h=>by cases h;exact .nil
 |n::ns,its,h=>by
  cases h with
  |cons r1 r2=>
   obtain⟨t,rfl⟩:=r1;exact .cons _ _ (ZcR ns _ r2)
def ZgK(K:PySem.W.Frag):List V->Hp->VK->Prop:=λxs H Q=>∃(p:Addr) (ns:List Int),xs=[.ref p]/\SqL K H p (ns.map V.int)/\Q (.int ns.sum) H
section
variable{X:Cx}{K:PySem.W.Frag}{cA:Kn}
theorem ZeG(hc:X.calm=true):Y5 X (.builtin "sum") (ZgK X.K):=by
 intro pins s σ H xs us Q I rs h;obtain⟨p,ns,rfl,hq,q⟩:=h;obtain⟨u,rfl,rx⟩:=XZ rs;cases rx;obtain⟨its,rv,pl,hz⟩:=I.list hq;have hi:=ZcR ns its rv;obtain⟨ys,e⟩:=hi.allInts.items
 have hns:ns=ys.toList.map (·.1):=by
  rw [<-hi.numsOf,<-nums_intItems,<-e]
 have hl:=pl.isList;rw [e]at hl;refine sum_intListG (I.ok.hd hc) hl λh' tk t' hk => ?_
 have e2:preSum (numAt ys) ys.size=ns.sum:=by
  rw [preSum_eq,List.take_of_length_le (by simp),hns]
 exact⟨.int ns.sum,H,I.kept hk,⟨t',by rw [e2]⟩,q⟩
theorem ZiK(hc:X.calm=true:=by rfl)(hK:X.K=K:=by rfl):Y5 X (.builtin "sum") (ZgK K):=hK▸ZeG hc
def sumLD:List D->Option D
 | [.lst xs]=>match UN xs with
  |some ns=>some (.int ns.sum)
  |none=>none
 |_=>none
theorem Zg8:QI cA (ZgK cA.K) sumLD:=λi H ds vs d _ h e Q k=>by
 unfold sumLD at e
 split at e
 · rename_i xs
   cases hb:UN xs with
   |none=>rw [hb]at e;cases e
   |some bs=>
    rw [hb]at e;cases e;obtain⟨v,t,rfl,a,ws,rfl,_,rd,l⟩:=il1 h;have ex:=ZcQ hb;subst ex;have ev:=l.vals (by rw [List.all_map];exact List.all_eq_true.mpr λ_ _=>rfl);rw [List.map_map]at ev;subst ev;exact⟨a,bs,rfl,rd,k _ H (Same.refl H) rfl⟩
 · cases e
end
end DL
namespace L2
open PySem PySem.Spec PyProof.Rows
section
variable{X:Cx}{scope:Scope}{tn cn:List Str}{js:List Nat}{tg iter elt:Expr}{ifs:List Expr}{pos spos pos':Pos}{wi:TI}{g:TG}{tt:TT}{te:TE}
end
end L2
namespace L2
open PySem PySem.Spec PyProof.Rows Builtin Builtin.Str
section
variable{X:Cx}
end
end L2
namespace DL
open PySem PySem.Spec L2
variable{cA:Kn}
end DL
namespace PySem
open Builtin SmallTypes
open AutoSeq1 (wpAny_loadPart')
end PySem
namespace PySem
open Sem (wp)
end PySem
namespace PySem
open Sem (wp)
section
variable{P:Program}{w:World}{A:Around}{E:Value->Shared->Prop}{s:Shared}
end
end PySem
namespace L2
open PySem PySem.Spec PyProof.Rows
end L2
namespace L2
open PySem PySem.Spec PyProof.Rows
section
variable{X:Cx}{elts:List Expr}{x1:Nat}{tpos:Pos}
end
end L2
namespace DL
open PySem PySem.Spec L2
section
variable{cA:Kn}{G:Cn}{ow:List Nat}
end
end DL
namespace PySem
open Builtin SmallTypes
open AutoSeq1 (wpAny_loadPart')
end PySem
namespace PySem
section
variable{P:Program}{w:World}{A:Around}{E:Value->Shared->Prop}{s:Shared}
end
end PySem
namespace L2
open PySem PySem.Spec PyProof.Rows
section
variable{X:Cx}{elts:List Expr}{x1:Nat}{tpos:Pos}
end
end L2
namespace DL
open PySem PySem.Spec L2
section
variable{cA:Kn}{G:Cn}{ow:List Nat}
end
end DL
namespace DL
open PySem PySem.Spec L2 PyProof.Rows
def Wd(i:Int):Prop:=i.natAbs<2 ^ 8000
instance (i:Int):Decidable (Wd i):=by unfold Wd;infer_instance
def CMulW(i j:Int):Prop:=(Wd i/\Wd j)\/CMul i j
instance (i j:Int):Decidable (CMulW i j):=by unfold CMulW;infer_instance
def ZhZ(_ j:Int):Prop:=j≠0/\Wd j
instance (i j:Int):Decidable (ZhZ i j):=by unfold ZhZ;infer_instance
instance (i j:Int):Decidable (ZmP i j):=by unfold ZmP;infer_instance
theorem ZiL{i:Int}(h:Wd i)(h0:i≠0):i.natAbs.log2<8000:=(Nat.log2_lt (by omega)).mpr h
theorem CMulW.ok{i j:Int}(h:CMulW i j):IntMulOk i j:=by
 rcases h with⟨h1,h2⟩|h
 · have bits : ∀ {a : Int}, Wd a -> Builtin.Int.intBits a <= 2 ^ 20 := fun {a} ha => by
    unfold Builtin.Int.intBits
    by_cases h0:a=0
    · subst h0;decide
    · have:=ZiL ha h0
      have e:(2:Nat) ^ 20=1048576:=by decide
      rw [e]
      split<;>omega
   exact .of_bits (bits h1) (bits h2)
 · exact h.ok
section
variable{X:Cx}{cA:Kn}
end
end DL
namespace L2
open PySem PySem.Spec PySem.W PyProof.Rows
def bmV:List Value:=[.type "ValueError",.type "Exception",.type "BaseException",.type "object"]
theorem Zg9{K:PySem.W.Frag}{hp:Heap}{C:Addr}{tlB:List Value}{nid:String}(KX:K.In hp)(q0:excIn K C tlB nid=true) :
 ∃bm N nm q bs hdct sn sub ab col dd k0 k1 k2 k3 k5 mN,hp.get? C=some (excClassObj nm q C N bs bm hdct sn sub ab col dd k0 k1 k2 k3 k5 nid)/\hp.Ns N mN/\mN "__init__" = none/\OwnTail hp tlB bm:=by
 unfold excIn at q0
 split at q0
 · rename_i dict0 cls0 slots0 look0
   split at q0
   · rename_i C1 rest0 j0 j1 j2 j3 nid1 j5 mro0 sl0
     simp only [Bool.and_eq_true,beq_iff_eq,Bool.not_eq_true']at q0;have e1:C1=C:=q0.1.1.1.1.1;have e2:nid1=nid:=q0.1.1.1.1.2;have e3:=q0.1.1.1.2;have e4:=q0.1.1.2;have e5:=q0.1.2;have e6:=q0.2;subst e1 e2;cases cls0 with
     |mk f1 f2 f3 f4 f5 f6 f7 f8 f9 f10 f11=>
      dsimp only at mro0 e3 e5 e6;subst mro0 e3
      have es:slots0 = #[j0,j1,j2,j3,some (.builtin nid1),j5]:=by
       cases slots0 with
       |mk l=>exact congrArg Array.mk sl0
      subst es;exact⟨rest0,f4,f1,f5,f2,f6,f7,f8,f9,f10,dict0,j0,j1,j2,j3,j5,_,KX _ _ look0,.of_isNs (isNs_of_in KX e5),nsMap_none_of_in KX e5 e6,tail_of_in KX e4⟩
   · cases q0
 · cases q0
def ZdZ(X:Cx)(E:XK)(C:Addr):Prop:=∀(pins:List (Addr×Obj))(σ:St)(H:Hp)(s:Shared)(h':Heap)(e:Addr)(us:List Value),Inv X pins σ H s->Heap.MadeExcOf s.heap h' e (.ref C) us->E (.ref C) none H->X.xe (.ref e) { s with heap:=h' }
def Zgj(E:XK)(C:Addr)(t:TA):TS:=λ_ σ H=>t σ H λvs H1=>vs.length<=8/\E (.ref C) none H1
section
variable{X:Cx}{E:XK}{C:Addr}{x:Str}{p cpos pos:Pos}{e:Expr}{es:List Expr}{t:TA}
theorem Zfz (hg:Gl X x) (hm:X.mg x=some (.ref C)) (hq:excIn X.K C bmV "ValueError.__new__" = true) (hR:ZdZ X E C) (ha:PA X (e::es) t) (hc:X.calm=true:=by rfl)
 (he:starEach (e::es) X.env=(false,eval e X.env)::starEach es X.env:=by rfl) (hpl:(backTo cpos (starEach es X.env)).any (·.1)=false:=by rfl) (hdb:(x == ("__debug__" : Str))=false:=by decide) :
 PS X (.Raise (some (.Call (.Name x p) (e::es) [] cpos)) none pos) (Zgj E C t):=by
 intro pins s σ H D I h;obtain⟨tl,N,nm,q,bs,hdct,sn,sub,ab,col,dd,k0,k1,k2,k3,k5,mN,hC,hN,hni,T⟩:=Zg9 I.ok.mod.kin hq
 refine wpAny_Raise_call_subT (C:=C) (nm:=nm) (q:=q) (N:=N) (bs:=bs) (bm:=tl) (hdct:=hdct) (sn:=sn) (sub:=sub) (ab:=ab) (col:=col) (dd:=dd) (k0:=k0) (k1:=k1) (k2:=k2) (k3:=k3) (k5:=k5)
  PySem.F.excBase_ValueError (mN:=mN) (T.hasType PySem.F.excBase_ValueError.hasBase) (I.ok.hd hc) (by rw [he];show(false||(backTo cpos (starEach es X.env)).any (·.1))=false;rw [hpl];rfl) hni (U6 I hg hm ⟨rfl,?_⟩ hdb)
 have h1:=ha cpos pins s σ H _ I h;rw [he]at h1 ⊢;refine Calls.evalArgs_plain (thn h1 λus s2 ⟨vs,H2,I2,r,hl,hE⟩=>⟨rfl,?_,I2.bk _ _ hC,hN.keeps I2.bk,T.keeps I2.bk,λh' ea hx => ?_⟩)
 · show us.length<=sizeLine
   rw [<-r.length];exact Nat.le_trans hl (by decide)
 · exact hR pins σ H2 s2 h' ea us I2 hx hE
end
theorem HOk.hide{P:Program}{w:World}{H:Hp}{h:Heap}{as:List Addr}(x:HOk P w H h)(hn:∀b∈as,H b=none):HOk P w H (hideAll h as):=λa o e=>
 (x a o e).stay (λb u hb q=>hideAll_get _ q λz=>by
   rcases hb with rfl|hb
   · rw [hn _ z]at e;cases e
   · rw [hn _ z]at hb;cases hb) (λ_ q=>q) λ_ _ q=>q
def CX1(P:Program)(w:World):CXT:=λouter H s E ev s'=>∃(ea:Addr) (cls a0:Value) (B:Heap) (H':Hp),ev = .ref ea/\s'.os=s.os/\AllBare s'.gens/\Heap.FlyingW B outer ea cls a0 s'.heap /\
 (∀b o,s.heap.get? b=some o->H b=none->b∉frs outer->B.get? b=some o)/\HOk P w H' B/\Same H H'/\(∀b o,s.heap.get? b=some o->H b=none->H' b=none)/\(∀b o,s.heap.get? b=some o->b∈frs outer->∃sl,s'.heap.get? b=some { o with slots:=sl })/\E cls none H'
section
variable{P:Program}{w:World}{K:PySem.W.Frag}{mg:Str->Option Value}{base:Heap}{N:List Str}{qual:Str}{scope:Scope}{f:Addr}{cd:Value}{A:Around}{outer:List Env}{s:Shared}{H:Hp}{E:XK}
theorem Zb5{C:Addr}:ZdZ (Xq (CX1 P w) P w K mg base N qual scope f cd A outer s H E) (λc d H'=>Same H H'/\E c d H') C:=by
 intro pins σ H1 s1 h' e us I hx ⟨hsm,hw⟩;show wpAny (model P w) _ (leaving _ (.ref e)) _ _ _;have hin:∀env∈((Xq (CX1 P w) P w K mg base N qual scope f cd A outer s H E).stack),∀b,env.frame=some b->b∈frs (Xq (CX1 P w) P w K mg base N qual scope f cd A outer s H E).stack:=λenv he b hb=>List.mem_filterMap.mpr ⟨env,he,hb⟩
 have hfr:=I.ok.frames;have hfun:=funFrames_hide I.stack hin;have hfree:=I.stkFree;have hsub:=I.stkSub;refine wpAny_leaves_madeW (base:=hideAll s1.heap (frs (Xq (CX1 P w) P w K mg base N qual scope f cd A outer s H E).stack)) (h:=s1.heap) (outer:=outer) hfr rfl (λb o q=>of_hideAll _ q) hfun hx λh2 t x1 x2 x3 x4 => ?_
 refine⟨e,.ref C,.ref t,_,H1,rfl,I.os,I.bare,x1,λb o q n hb => ?_,HOk.hide I.hok hfree,hsm,λb o q n=>I.base.free b o q n (λz=>nomatch z),λb o q hb => ?_,hw⟩
 · have q1:=I.base.keep b o q n hb (λz=>nomatch z)
   refine hideAll_get _ q1 λz => ?_
   rcases List.mem_cons.mp (hsub b z)with e'|z
   · have:=I.ok.above
     exact absurd (Heap.lt_size q) (Nat.not_lt.mpr (by rw [e'];exact this))
   · exact hb z
 · obtain⟨sl,q1⟩:=I.base.slot b o q (I.ok.frf b hb) hb (λz=>nomatch z)
   obtain⟨_,o',q2,hnf⟩:=I.ok.funs.mem hb;have:o'=o:=Option.some.inj (q2.symm.trans q);subst this;obtain⟨sl2,q4⟩:=x4 b _ (hx.keeps b _ q1) (show ∀vs,({ cls:=o'.cls,dict:=o'.dict,data:=o'.data,slots:=sl }:Obj).data ≠ .fields vs from hnf);exact⟨sl2,q4⟩
theorem ZaV:Uj (CX1 P w) (Xq (CX1 P w) P w K mg base N qual scope f cd A outer s H E) (λc d H'=>Same H H'/\E c d H'):=by
 intro pins σ H1 s1 ev s' I ⟨ea,cls,a0,B,H2,e,hos,hb,hfl,hKB,hok,hsame,hfree,hup,hS,hE⟩;subst e;show wpAny (model P w) _ (leaving _ (.ref ea)) _ _ _;refine wpAny_leaves_onW (outer:=outer) I.ok.frames rfl hfl λh2 y1 y2 => ?_
 refine⟨ea,cls,a0,B,H2,rfl,hos.trans I.os,hb,y1,λb o q n hn => ?_,hok,hS,λb o q n => ?_,λb o q hn => ?_,hE⟩
 · refine hKB b o (I.base.keep b o q n hn (λz=>nomatch z)) (I.base.free b o q n (λz=>nomatch z)) λz => ?_
   rcases List.mem_cons.mp (I.stkSub b z)with e'|z
   · exact absurd (Heap.lt_size q) (Nat.not_lt.mpr (by rw [e'];exact I.ok.above))
   · exact hn z
 · obtain⟨sl,q1⟩:=I.base.any q n (λz=>nomatch z)
   exact hfree b _ q1 (I.base.free b o q n (λz=>nomatch z))
 · obtain⟨sl,q1⟩:=I.base.slot b o q (I.ok.frf b hn) hn (λz=>nomatch z)
   obtain⟨_,o',q2,hnf⟩:=I.ok.funs.mem hn;have:o'=o:=Option.some.inj (q2.symm.trans q);subst this;obtain⟨sl',q3⟩:=hup b _ q1 (List.mem_cons_of_mem _ hn);obtain⟨sl2,q4⟩:=y2 b _ q3 (show ∀vs,({ cls:=o'.cls,dict:=o'.dict,data:=o'.data,slots:=sl' }:Obj).data ≠ .fields vs from hnf);exact⟨sl2,q4⟩
end
end L2
namespace L2
open PySem PySem.Spec PySem.W PyProof.Rows PySem.Calls PySem.Builtin PySem.Builtin.ObjectAttr PySem.Builtin.Getset_descriptor
def Xa(e:Addr)(C:Value)(hp:Heap):Prop:=∃o:Obj,hp.get? e=some o/\o.cls=C
structure ExCls(K:PySem.W.Frag)(C:Addr):Prop where
 ex:excIn K C bmV "ValueError.__new__" = true
 ga:findIn K (.ref C) "__getattribute__" = some (some (.builtin "BaseException.__getattribute__"))
 mb:mroIn K C (.type "BaseException")=some true
 gt:findIn K (.ref C) "__getattr__" = some none
 ca:findIn K (.ref C) "__class__" = some (some (.builtin "object.__class__"))
 cg:specialIn K (.builtin "object.__class__") "__get__" = some (some (.builtin "getset_descriptor.__get__"))
 ct:takesIn K (.builtin "object.__class__")=some true
 mo:mroIn K C (.type "object")=some true
 cl:(clsIn K C).isSome=true
section
variable{P:Program}{w:World}{A:Around}{E:Value->Shared->Prop}{s:Shared}{K:PySem.W.Frag}{e C:Addr}
theorem Qe{M:Model}{hp:Heap}(p:Xa e (.ref C) hp):Looks M hp (typeOf (.ref e)) (.ref C):=by
 obtain⟨o,h1,h2⟩:=p;exact h2▸(Looks.ld h1).andThen .now
theorem ZfA{M:Model}{hp:Heap}(T:ExCls K C)(KX:K.In hp):Looks M hp (Builtin.ObjectAttr.find (.ref e) (.ref C) "__class__") (.bind (.builtin "getset_descriptor.__get__") (.builtin "object.__class__")):=
 (looks_findIn (M:=M) KX T.ca).andThen ((show Looks M hp (Builtin.ObjectAttr.getOf (some (.builtin "object.__class__"))) _ from looks_specialIn KX T.cg).andThen
   ((show Looks M hp (Builtin.ObjectAttr.dataDescriptor? (some (.builtin "object.__class__")) (some (.builtin "getset_descriptor.__get__"))) (some (Value.builtin "getset_descriptor.__get__",Value.builtin "object.__class__"))from(looks_takesIn (M:=M) KX T.ct).andThen .now).andThen (Looks.tag .now)))
theorem ZfB{tp:Value}{R:Result->Shared->Prop}(T:ExCls K C)(KX:K.In s.heap)(p:Xa e (.ref C) s.heap)(hr:R (.ok (.ret (.ref C))) s) :
 codeAny (model P w) A (.call (.builtin "getset_descriptor.__get__") ⟨[.builtin "object.__class__",.ref e,tp],[]⟩) R s:=by
 cases s with
 |mk hp gs dr tk os'=>
 have Y0:=Qe (M:=model P w) p;have Y1:=looks_mroIn (M:=model P w) KX T.mo
 refine codeAny_call_builtin KF.slot_gs.plain KF.entry_gs (KF.slot_gs.check _ _ _ _ _ _ _ _ KF.type_class (KF.args_gs _ _ _) (by
  unfold Builtin.«getset_descriptor.__get__» descrGet;rw [dga_obj];refine wpAny_bind (wpAny_pure ?_);unfold descrGetter descrCheckInstance descrNameAndClass isInstance;simp only [KF.owner_class];repeat lk
  refine ⟨Code.quiet_builtin _ (by decide +kernel), codeAny_builtin KF.entry_class (by unfold Builtin.«object.__class__» shownTypeOf; repeat lk
                                                                                       exact hr)⟩))
theorem ZeH{tk:Tok}{Q:Fin->Shared->Prop}(T:ExCls K C)(KX:K.In s.heap)(p:Xa e (.ref C) s.heap)(hq:Q (.done (.ret (.ref C))) s):wpAny (model P w) A (Builtin.«object.__getattribute__» ⟨[.ref e,.str "__class__" tk],[]⟩) Q E s:=by
 have Y0:=Qe (M:=model P w) p;have Y2:=ZfA (e:=e) (M:=model P w) T KX;unfold Builtin.«object.__getattribute__»;refine wpAny_bind (wpAny_pure ?_);refine wpAny_bind (wpAny_pure ?_);refine wpAny_bind (Y0.here (wpAny_bind (Y2.here ?_)));show wpAny _ _ (holding [Value.builtin "object.__class__"] (call (.builtin "getset_descriptor.__get__") [.builtin "object.__class__",.ref e,.ref C]) >>= ret) _ _ _
 exact wpAny_bind (wpAny_holding (wpAny_call (ZfB T KX p (wpAny_pure hq))))
theorem ZeI{nameV:Value}{Q:Unit->Shared->Prop}(T:ExCls K C)(KX:K.In s.heap)(p:Xa e (.ref C) s.heap)(hq:Q () s):wpAny (model P w) A (checkBuiltinCall "BaseException.__getattribute__" ⟨[.ref e,nameV],[]⟩) Q E s:=by
 cases s with
 |mk hp gs dr tk os'=>
 have Y0:=Qe (M:=model P w) p;have Y1:=looks_mroIn (M:=model P w) KX T.mb;have e1:builtinKind "BaseException.__getattribute__" = some .slot:=by decide +kernel
 have e2:splitId "BaseException.__getattribute__" = some ("BaseException", "__getattribute__"):=by decide +kernel
 have e3:=F.args_bexc_ga (.ref e) nameV;simp only [checkBuiltinCall,e1,e2];unfold isInstance
 repeat (first|exact hq|assumption|lk|wp_step)
theorem ZeJ{Q:Option Value->Shared->Prop}(T:ExCls K C)(KX:K.In s.heap)(p:Xa e (.ref C) s.heap)(hq:Q (some (.ref C)) { s with toks:=s.toks+1 }):wpAny (model P w) A (getAttr? (.ref e) "__class__") Q E s:=by
 cases s with
 |mk hp gs dr tk os'=>
 have Y0:=Qe (M:=model P w) p;have Y1:=looks_findIn (M:=model P w) KX T.ga;have Y3:=looks_findIn (M:=model P w) KX T.gt;have b1:=PySem.F.attr_ValueError.ga.bind (.ref e);unfold getAttr? getAttrBy? getAttrBy;refine wpAny_bind (wpAny_mkText (wpAny_bind (wpAny_attempt (wpAny_holding (wpAny_bind (Y0.at (wpAny_bind (Y1.at ?_))))))));show wpAny _ _ (getAttrByItsOwn (.ref e) _ (.ref C) (.builtin "BaseException.__getattribute__") false false) _ _ _
 unfold getAttrByItsOwn hookBefore;refine wpAny_bind (Y3.at ?_);refine wpAny_bind (wpAny_attempt (wpAny_holding ?_));show wpAny _ _ (boundAndCalled (.builtin "BaseException.__getattribute__") (.ref e) _) _ _ _;unfold boundAndCalled;rw [b1];refine wpAny_bind (wpAny_pure ?_);show wpAny _ _ (call (.builtin "BaseException.__getattribute__") [.ref e,.str "__class__" _]) _ _ _;refine wpAny_call (codeAny_call_builtin PySem.F.attr_ValueError.ga.plain F.entry_bexc_ga (ZeI (s:=⟨hp,gs,dr,tk+1,os'⟩) T KX p (ZeH (s:=⟨hp,gs,dr,tk+1,os'⟩) T KX p ?_)))
 exact wpAny_mono (handed_on (E:=λ_ _=>False) rfl (show(λv s''=>Q (some v) s'') (.ref C) _ from hq)) (λv s'' hv=>wpAny_pure hv) (λ_ _ z=>z.elim)
theorem ZcS(T:ExCls K C):KitX K (.ref e) (.ref C) (Xa e (.ref C)) where
 ty:=λ_ _ _ p=>Qe p
 it:=λM hp KX _=>by
  have hc:=T.cl;cases hq:clsIn K C with
  |none=>rw [hq]at hc;cases hc
  |some cd=>
   unfold clsIn at hq
   split at hq
   · rename_i look0
     intro A' Q' E' s' k0 q0;unfold isType loadHead;exact wpAny_bind (wpAny_loadPart (k0 _ _ (KX _ _ look0)) (wpAny_pure q0))
   · cases hq
 ne:=λhp tp dd its n sl KX htp=>by
  have hc:=T.cl;cases hq:clsIn K C with
  |none=>rw [hq]at hc;cases hc
  |some cd=>
   cases hz:(Value.ref C == Value.ref tp)with
   |false=>rfl
   |true=>
    exfalso
    have ez:C=tp:=Value.ref.inj (beq_iff_eq.mp hz);subst ez;unfold clsIn at hq
    split at hq
    · rename_i look0
      have:=(KX _ _ look0).symm.trans htp;cases this
    · cases hq
 ca:=λKX p k=>ZeJ T KX p k
end
theorem ZeK{X:Cx}{e C:Addr}(T:ExCls X.K C):Y5 X (.builtin "isinstance") (λxs H Q=>∃c cv b,xs=[.ref e,c]/\(∀v,RelV c v->v=cv)/\H e=some (.ext (Xa e (.ref C)))/\kitOne X.K (.ref C) cv=some b/\Q (.bl b) H):=by
 intro pins s σ H xs us Q I rs h;obtain⟨c,cv,b,rfl,hc,he,hk,q⟩:=h;obtain⟨u,w',rfl,rx,rc⟩:=Je rs;have ec:=hc _ rc;subst ec;cases(show u=Value.ref e from rx);have hx:Xa e (.ref C) s.heap:=(I.hok e _ he).1;exact PySem.W.kia_one (ZcS T) I.kIn hx hk (λz=>nomatch z) λtk=>⟨.bl b,H,I.tok tk,rfl,q⟩
end L2
namespace L2
open PySem PySem.Spec PySem.W PyProof.Rows
theorem ObjOk.there{P:Program}{w:World}{H:Hp}{hp:Heap}{a:Addr}{o:HO}(x:ObjOk P w H hp a o):∃u,hp.get? a=some u:=by
 cases o with
 |lst xs=>obtain⟨_,_,_,_,e⟩:=x;exact⟨_,e⟩
 |tup xs=>obtain⟨_,_,_,ob,e,_⟩:=x;exact⟨_,e⟩
 |dK kvs=>obtain⟨_,_,_,_,o,_,_,e,_⟩:=x;exact⟨_,e⟩
 |dT kvs=>obtain⟨_,_,_,_,o,_,_,e,_⟩:=x;exact⟨_,e⟩
 |set S n=>obtain⟨o,_,_,_,e,_⟩:=x;exact⟨_,e⟩
 |ins C dx fs=>obtain⟨_,_,_,e,_⟩:=x;exact⟨_,e⟩
 |own y=>exact x
 |xd fs=>obtain⟨_,⟨_,_,_,e,_⟩,_⟩:=x;exact⟨_,e⟩
 |rng lo hi=>obtain⟨_,_,_,e⟩:=x;exact⟨_,e⟩
 |frz ob u=>obtain⟨e,_⟩:=x;exact⟨_,e⟩
 |tbl ps=>exact⟨_,x⟩
 |met f y=>exact⟨_,x⟩
 |ext φ=>exact x.2.1
section
variable{X:Cx}{pins:List (Addr×Obj)}{σ:St}{H H':Hp}{s s':Shared}{B hp:Heap}{ea:Addr}{C:Value}
theorem Za3 (I:Inv X pins σ H s) (hos:s'.os=s.os) (hbare:AllBare s'.gens) (hst:B.StaysIn s'.heap) (hea:B.get? ea=none) (hKB:∀b o,s.heap.get? b=some o->H b=none->b∉frs X.stack->B.get? b=some o)
 (hok:HOk X.prog X.w H' B) (hsame:Same H H') (hfree:∀b o,s.heap.get? b=some o->H b=none->H' b=none) (hup:∀b o,s.heap.get? b=some o->b∈frs X.stack->∃sl,s'.heap.get? b=some { o with slots:=sl })
 (hx:Xa ea C s'.heap) (hnf:ea∉frs X.stack):Inv X pins σ (upd H' ea (.ext (Xa ea C))) s'/\H' ea=none:=by
 have hn:H' ea=none:=by
  cases q:H' ea with
  |none=>rfl
  |some o=>
   obtain⟨u,e⟩:=(hok ea o q).there;rw [hea]at e;cases e
 have ne':∀b o,H' b=some o->b≠ea:=λb o q z=>by rw [z,hn]at q;cases q
 have hup':∀b o,H' b=some o->upd H' ea (.ext (Xa ea C)) b=some o:=λb o q=>(Ye (ne' b o q)).trans q
 refine⟨I.call' (ch:=[]) hos ⟨λb o q n hb _=>hst b o (hKB b o q n hb),λb o q n hb _=>hup b o q hb,λb o q n _ => ?_,λb o q _ => ?_,λb xs q=>hup' b _ (hsame b _ q),λb ob u q=>hup' b _ (hsame b _ q),λb ps q=>⟨#[],by rw [hup' b _ (hsame b _ q)];simp⟩⟩ ?_ hbare (λb z=>nomatch z),hn⟩
 · by_cases hb:b∈frs X.stack
   · have hbe:b≠ea:=λz=>hnf (by rw [<-z];exact hb)
     rw [Ye hbe];exact hfree b o q n
   · have:=hKB b o q n hb
     have hbe:b≠ea:=λz=>by rw [z,hea]at this;cases this
     rw [Ye hbe];exact hfree b o q n
 · by_cases hb:b∈frs X.stack
   · obtain⟨sl,e⟩:=hup b o q hb
     exact⟨_,e⟩
   · cases n:H b with
     |none=>exact⟨o,hst b o (hKB b o q n hb)⟩
     |some u=>
      obtain⟨v,e⟩:=(hok b u (hsame b u n)).there;exact⟨v,hst b v e⟩
 · intro a o q
   by_cases ha:a=ea
   · subst ha
     rw [YO]at q;cases q;obtain⟨ob,h1,h2⟩:=hx;exact⟨⟨ob,h1,h2⟩,⟨ob,h1⟩,λg1 g2 ⟨o1,a1,a2⟩ k=>⟨o1,k o1 a1,a2⟩⟩
   · rw [Ye ha]at q
     exact(hok a o q).stay (λb u _ e=>hst b u e) (λb e=>hup' b _ e) λb xs e=>hup' b _ e
theorem Zar {M:Model} {A:Around} {E:Value->Shared->Prop} {i:Nat} {n:Str} {pos:Pos} {Q:Unit->Shared->Prop} (I:Inv X pins σ H s) (hN:X.N.Nodup) (hi:X.N[i]? = some n) (hk:X.env.scope.names.lookup n=some .local)
 (hq:∀s',Inv X pins (σ.set i none) H s'->Q () s'):wpAny M A (do bindName X.env n .none;unbindBehindTheSuite X.env n pos) Q E s:=by
 obtain⟨m,hn,hl⟩:=id I.loc;have hcls:(X.env.scope.kind == .class||(X.env.scope.kind == .module&&X.env.locals != X.env.globals))=false:=by rw [I.ok.kind];rfl
 have cne:=I.cne;refine wpAny_nameGoes_keeps hk hn hcls λh1 v hn1 hs => ?_
 obtain⟨oL,_,_,hoL,_⟩:=id hn;have low:∀{b:Addr}{o:Obj},X.s₀.heap.get? b=some o->b≠X.env.locals:=λ{b o} e=>Nat.ne_of_lt (Nat.lt_of_lt_of_le (Heap.lt_size e) I.ok.above)
 refine hq _ ⟨I.ok,I.os,I.bare,⟨λb o e n' hb hx=>(hs.2 b (low e)).trans (I.base.keep b o e n' hb hx),λb o e n' hb hx => ?_,I.base.free,λb o e hx => ?_,I.base.tups,I.base.frzs,I.base.tbls⟩,⟨_,hn1,λj y v' e1 e2 e3 => ?_⟩,λy c e => ?_,I.free,I.freeC,λp hp => ?_,λb ob e => ?_,by simpa using I.len⟩
 · obtain⟨sl,e1⟩:=I.base.slot b o e n' hb hx
   exact⟨sl,(hs.2 b (low e)).trans e1⟩
 · obtain⟨o',e1⟩:=I.base.there b o e hx
   exact⟨o',(hs.2 b (low e)).trans e1⟩
 · by_cases hj:j=i
   · subst hj
     have:j<σ.length:=by rw [I.len];exact(List.getElem?_eq_some_iff.mp hi).1
     rw [List.getElem?_set_self this]at e2;cases e2
   · rw [List.getElem?_set_ne (Ne.symm hj)]at e2
     obtain⟨u',r',q⟩:=hl j y v' e1 e2 e3;refine⟨u',r',?_⟩;rcases q with⟨k1,e⟩|⟨k1,c,e,z⟩
     · refine .inl ⟨k1,?_⟩
       have hyn:y≠n:=λe=>hj (Zbh hN e1 (e▸hi))
       show(if y=n then v else m y)=some u';rw [if_neg hyn];exact e
     · exact .inr ⟨k1,c,e,z.sameBut hs (cne y c e)⟩
 · obtain⟨w',z⟩:=I.cell y c e
   exact⟨w',z.sameBut hs (cne y c e)⟩
 · obtain⟨e,n',ne,nf,d⟩:=I.pin p hp
   exact⟨(hs.2 p.1 ne).trans e,n',ne,nf,d⟩
 · refine(I.hok b ob e).stay (λc w' hc q=>(hs.2 c ?_).trans q) (λ_ q=>q) λ_ _ q=>q
   intro z;have fr:=I.free;rcases hc with hc|hc
   · rw [<-z,hc,e]at fr;cases fr
   · rw [<-z,hc]at fr;cases fr
end
abbrev Cx.suite(X:Cx)(ea:Addr):Cx:={ X with A:=X.A.mark (some (.ref ea)),calm:=false,xe:=λ_ _=>False }
theorem Inv.suite{X:Cx}{pins:List (Addr×Obj)}{σ:St}{H:Hp}{s:Shared}(I:Inv X pins σ H s)(ea:Addr):Inv (X.suite ea) pins σ H s:=
 ⟨⟨I.ok.mod,I.ok.kind,I.ok.glob,I.ok.blt,I.ok.above,I.ok.inj,I.ok.has,I.ok.cab,(λz=>nomatch z),I.ok.frames,I.ok.stk,I.ok.exf,I.ok.bs,I.ok.bsz,I.ok.noex,I.ok.exfs,I.ok.funs,I.ok.frf⟩,I.os,I.bare,I.base,I.loc,I.cell,I.free,I.freeC,I.pin,I.hok,I.len⟩
theorem Inv.unsuite{X:Cx}{pins:List (Addr×Obj)}{σ:St}{H:Hp}{s:Shared}{ea:Addr}(ok:X.Ok)(I:Inv (X.suite ea) pins σ H s):Inv X pins σ H s:=
 ⟨ok,I.os,I.bare,I.base,I.loc,I.cell,I.free,I.freeC,I.pin,I.hok,I.len⟩
def PEx(X:Cx)(E:XK)(e:Expr)(t:TE):Prop:=∀(pins:List (Addr×Obj))(s:Shared)(σ:St)(H:Hp)(Q:VK)(xe:Value->Shared->Prop),Inv X pins σ H s->t σ H Q ->
 (∀H2 s2 ev s',Inv X pins σ H2 s2->CX1 X.prog X.w X.stack H2 s2 E ev s'->xe ev s')->wpAny (model X.prog X.w) X.A (eval e X.env) (EP X pins σ Q) xe s
def PSx(X:Cx)(E:XK)(st:List Stmt)(t:TS):Prop:=∀(pins:List (Addr×Obj))(s:Shared)(σ:St)(H:Hp)(D:Ends)(xe:Value->Shared->Prop),Inv X pins σ H s->t D σ H ->
 (∀H2 s2 ev s',Inv X pins σ H2 s2->CX1 X.prog X.w X.stack H2 s2 E ev s'->xe ev s')->wpAny (model X.prog X.w) X.A (execs st X.env) (SP X pins D) xe s
section
variable{X:Cx}{E:XK}
theorem ZfC{e:Expr}{te:TE}{pos:Pos}(he:PEx X E e te)(hs:swapsWith e none pos.line X.env=pure false:=by rfl):PSx X E [.Expr e pos] (Qz te):=by
 intro pins s σ H D xe I h hx;refine wpAny_execs_cons (thn (Q:=SP X pins D) (wpAny_Expr_any (thn (he pins s σ H _ xe I h hx) λv s1 ⟨x,H1,I1,r1,q1⟩=>⟨σ,H1,I1,q1⟩) I.quiet hs) λf s1 q => ?_);cases f with
 |next=>exact wpAny_execs_nil q
 |ret v=>exact q
 |brk=>exact q
 |cont=>exact q
end
end L2
namespace L2
open PySem PySem.Spec PySem.W PyProof.Rows
def Zd0(i:Nat)(D:Ends):Ends:={ nx:=λσ H=>D.nx (σ.set i none) H,rt:=D.rt,bk:=λσ H=>D.bk (σ.set i none) H,ct:=λσ H=>D.ct (σ.set i none) H }
def ZmV(K:PySem.W.Frag)(G:Addr)(i:Nat)(tb:XK->TS)(ts:Addr->Addr->TS):TS:=λD σ H=>∃E:XK,tb E D σ H/\∀cls H',E cls none H'->∃C,cls = .ref C/\ExCls K C/\exmOne K (.ref C) (.ref G)=some true /\
 ∀ea,H' ea=none->ts C ea (Zd0 i D) (σ.set i (some (.ref ea))) (upd H' ea (.ext (Xa ea (.ref C))))
section
variable{X:Cx}{G:Addr}{g n:Str}{i:Nat}{body suite:List Stmt}{b₀:Stmt}{gp hpos pos:Pos}{tb:XK->TS}{ts:Addr->Addr->TS}
theorem Zgk (hN:X.N.Nodup) (hi:X.N[i]? = some n) (hk:X.env.scope.names.lookup n=some .local) (hstk:X.stack=X.env::X.outer/\X.env.frame=some X.env.locals) (hg:Gl X g) (hm:X.mg g=some (.ref G))
 (hb:∀E,PSx X E body (tb E)) (hs:∀C ea,ExCls X.K C->PSs (X.suite ea) (b₀::suite) (ts C ea)) (hdb:(g == ("__debug__" : Str))=false:=by decide) :
 PS X (.Try body [.ExceptHandler (some (.Name g gp)) (some n) (b₀::suite) hpos] [] [] pos) (ZmV X.K G i tb ts):=by
 intro pins s σ H D I ⟨E,h⟩;refine wpAny_Try_except ?_;refine thn (hb E pins s σ H D _ I h.1 ?_) λfl s1 q => ?_
 · intro H2 s2 ev s' I2 ⟨ea,cls,a0,B,H',e,hos,hbare,hfl,hKB,hok,hsame,hfree,hup,hE⟩
   subst e;obtain⟨C,rfl,T,hx,hts⟩:=h.2 cls H' hE;have hfr:X.A.frames=some (X.env::X.outer):=by rw [<-hstk.1];exact I.ok.frames
   have hfl':Heap.FlyingW B (X.env::X.outer) ea (.ref C) a0 s'.heap:=hstk.1▸hfl;have hea:B.get? ea=none:=hfl.2.1
   have hnf:ea∉frs X.stack:=λz=>by
    obtain⟨_,o,h1,h2⟩:=hfl.2.2.1.mem z;obtain⟨oe,vs,h3,_,h4,_⟩:=hfl.first;rw [h1]at h3;cases h3;exact h2 vs h4
   have frnf:∀b o,s2.heap.get? b=some o->b∈frs X.stack->∀vs,o.data ≠ .fields vs:=λb o q z=>by
    obtain⟨_,o',h1,h2⟩:=I2.stack.mem z;have:o'=o:=Option.some.inj (h1.symm.trans q);exact this▸h2
   have at_:∀{hp:Heap}{g':Array GenState}{d':Drawn}{t':Nat},Heap.FlyingW B (X.env::X.outer) ea (.ref C) a0 hp->s'.heap.UpToSlots hp->AllBare g'->Inv X pins σ (upd H' ea (.ext (Xa ea (.ref C)))) ⟨hp,g',d',t',s'.os⟩/\H' ea=none:=λ{hp g' d' t'} f u hg'=>by
    refine Za3 (s':=⟨hp,g',d',t',s'.os⟩) I2 hos hg' f.1 hea hKB hok hsame hfree (λb o q z => ?_) f.there hnf;obtain⟨sl,q1⟩:=hup b o q z;obtain⟨sl2,q2⟩:=u b _ q1 (show ∀vs,({ o with slots:=sl }:Obj).data ≠ .fields vs from frnf b o q z);exact⟨sl2,q2⟩
   refine wpAny_looks_onW hfr hstk.2 hfl' λh4 hh4 u4 => ?_
   refine wpAny_landsW hh4 λh5 hf5 u5 => ?_
   obtain⟨I5,hn⟩:=at_ (hp:=h5) (g':=s'.gens) (d':=s'.drawn) (t':=s'.toks) hf5 (u4.trans u5) hbare;refine wpAny_handleBy_cons (codeAny_handlers_test (U6 (I5.suite ea) hg hm ?_ hdb)) (by intro q;cases q);refine(exm_one (M:=model X.prog X.w) (K:=X.K) I5.kIn (Qe (hf5.there)) hx).here ?_;show codeAny (model X.prog X.w) (X.A.mark (some (.ref ea))) _ _ _;refine codeAny_handlers_suite_as (lands_againW hf5 λh6 hf6 u6 => ?_)
   obtain⟨I6,_⟩:=at_ (hp:=h6) (g':=s'.gens) (d':=s'.drawn) (t':=s'.toks) hf6 ((u4.trans u5).trans u6) hbare;refine ZaE I6 hN hi (.inl hk) (v:=.ref ea) (show RelV (.ref ea) (.ref ea)from rfl) (λs7 I7 => ?_) (.inr hk);refine wpAny_mono (hs C ea T pins s7 _ _ (Zd0 i D) (I7.suite ea) (hts ea hn)) (λfl s8 q8 => ?_) λ_ _ z=>z.elim
   cases fl with
   |next=>
    obtain⟨σ',H8,I8,q⟩:=q8;exact Zar (I8.unsuite I.ok) hN hi hk λs9 I9=>⟨_,H8,I9,q⟩
   |brk=>
    obtain⟨σ',H8,I8,q⟩:=q8;exact Zar (I8.unsuite I.ok) hN hi hk λs9 I9=>⟨_,H8,I9,q⟩
   |cont=>
    obtain⟨σ',H8,I8,q⟩:=q8;exact Zar (I8.unsuite I.ok) hN hi hk λs9 I9=>⟨_,H8,I9,q⟩
   |ret u=>
    obtain⟨v,σ',H8,I8,r,q⟩:=q8;exact Zar (I8.unsuite I.ok) hN hi hk λs9 I9=>⟨v,_,H8,I9,r,q⟩
 · cases fl with
   |next=>exact wpAny_execs_nil q
   |ret v=>exact q
   |brk=>exact q
   |cont=>exact q
end
end L2
namespace DL
open PySem PySem.Spec L2
def spX(cA:Kn)(n:Nat)(m:List D->Option D)(x:List D->Option String):Sp:=λvs H Q E=>spD cA n m vs H Q E \/
 ∃(av:Addr->Prop) (ds:List D) (c:String),(∀a,av a->H a≠none)/\RepL cA av H ds vs/\ds.length=n/\x ds=some c/\∀H',Same H H'->E (.ref (cA.c c)) none H'
def Zjr(N:Nat)(χ:Env->Option String)(ds:List D):Option String:=χ (ds.map some++List.replicate (N-ds.length) none)
def VX(G:Cn)(ow:List Nat)(E:XK)(ts:TS)(χ:Env->Option String):Prop:=
 ∀H0 av A σ H δ,ER G ow H0 av A σ H δ->∀c,χ δ=some c->(∀H',Same H0 H'->E (.ref (G.1.c c)) none H')->∀De:Ends,ts De σ H
def VXe(G:Cn)(ow:List Nat)(E:XK)(te:TE)(χ:Env->Option String):Prop:=
 ∀H0 av A σ H δ,ER G ow H0 av A σ H δ->∀c,χ δ=some c->(∀H',Same H H'->E (.ref (G.1.c c)) none H')->∀Q:VK,te σ H Q
def VXs(G:Cn)(ow:List Nat)(E:XK)(ts:TS)(χ:Env->Option String):Prop:=
 ∀H0 av A σ H δ,ER G ow H0 av A σ H δ->∀c,χ δ=some c->(∀H',Same H H'->E (.ref (G.1.c c)) none H')->∀De:Ends,ts De σ H
section
variable{cA:Kn}{G:Cn}{ow ow1 owB owC owN:List Nat}{E:XK}
def xNever(_:Env):Option String:=none
theorem Jz{ts:TS}:VX G ow E ts xNever:=λH0 av A σ H δ R c e=>nomatch e
def JA(c:String)(α:Env->Option (List D))(δ:Env):Option String:=match α δ with
 |some ds=>if ds.length<=8 then some c else none
 |none=>none
theorem ZfD{C:Addr}{t:TA}{q:Ql}{α:Env->Option (List D)}(c:String)(hC:C=G.1.c c)(h:VA G ow t q α):VX G ow E (Zgj E C t) (JA c α):=λH0 av A σ H δ R c' e k De=>by
 unfold JA at e;cases he:α δ with
 |none=>rw [he]at e;cases e
 |some ds=>
  rw [he]at e;dsimp only at e
  by_cases hz:ds.length<=8
  · rw [if_pos hz]at e
    cases e;subst hC;exact h H0 av A σ H δ R ds he _ λvs H1 s1 r1=>⟨by rw [<-r1.any.length];exact hz,k H1 (R.same.trans s1)⟩
  · rw [if_neg hz]at e;cases e
def xIf(τ:Env->Option Bool)(χ ψ:Env->Option String)(δ:Env):Option String:=match τ δ with
 |some true=>χ δ
 |some false=>ψ δ
 |none=>none
theorem Zlr{c:TT}{t u:TS}{τ:Env->Option Bool}{χ ψ:Env->Option String}(hc:VT G ow c τ)(h1:VX G ow E t χ)(h2:VX G ow E u ψ):VX G ow E (ZkI c t u) (xIf τ χ ψ):=λH0 av A σ H δ R c' e k De=>by
 unfold xIf at e;cases he:τ δ with
 |none=>rw [he]at e;cases e
 |some b=>
  rw [he]at e;refine hc H0 av A σ H δ R b he _ λH' s => ?_
  cases b with
  |true=>exact V5 (h1 H0 av A σ H' δ (R.mono s) c' e k De)
  |false=>exact V4 (h2 H0 av A σ H' δ (R.mono s) c' e k De)
def XT(χ:Env->Option String)(φ:Env->Option Out)(ψ:Env->Option String)(δ:Env):Option String:=match χ δ with
 |some c=>some c
 |none=>match φ δ with
  |some (.nx δ1)=>ψ δ1
  |_=>none
theorem Zcy{t u:TS}{χ ψ:Env->Option String}{φ:Env->Option Out}(h1:VX G ow E t χ)(hv:VS G ow ow1 owB owC t φ)(h2:VX G ow1 E u ψ):VX G ow E (Qy t u) (XT χ φ ψ):=λH0 av A σ H δ R c e k De=>by
 unfold XT at e;cases hx:χ δ with
 |some c'=>
  rw [hx]at e;cases e;exact h1 H0 av A σ H δ R c hx k _
 |none=>
  rw [hx]at e;dsimp only at e;cases hp:φ δ with
  |none=>rw [hp]at e;cases e
  |some o=>
   rw [hp]at e;cases o with
   |nx δ1=>exact hv H0 av A σ H δ R _ hp _ λA' σ' H' R'=>h2 H0 av A' σ' H' δ1 R' c e k De
   |rt d=>cases e
   |bk δ1=>cases e
   |ct δ1=>cases e
theorem VXs.vx{ts:TS}{χ:Env->Option String}(h:VXs G ow E ts χ):VX G ow E ts χ:=λH0 av A σ H δ R c e k De=>h H0 av A σ H δ R c e (λH' s=>k H' (R.same.trans s)) De
theorem ZfE{te:TE}{χ:Env->Option String}(h:VXe G ow E te χ):VXs G ow E (Qz te) χ:=λH0 av A σ H δ R c e k De=>h H0 av A σ H δ R c e k _
theorem Zcf{te:TE}{χ:Env->Option String}{g:TG}(h:VXe G ow E te χ):VXs G ow E (VC te g) χ:=λH0 av A σ H δ R c e k De=>h H0 av A σ H δ R c e k _
theorem Zha{te:TE}{χ:Env->Option String}(h:VXe G ow E te χ):VXs G ow E (ZkH te) χ:=λH0 av A σ H δ R c e k De=>h H0 av A σ H δ R c e k _
end
section
variable{P:Program}{w:World}{K:PySem.W.Frag}{mg:Str->Option Value}{base:Heap}{cA:Kn}
theorem ZgL {x qual:Str} {st:Stmt} {f:Addr} {fd:FuncData} {N ps:List Str} {k:Nat} {φ:Env->Option Out} {χ:Env->Option String} {body:List Stmt} {scope:Scope} {n:Nat} {m:List D->Option D} {xm:List D->Option String} (F:FunX K x qual st f fd) (S:FnScope N ps (defScope st)) (hS:defScope st=scope) (hB:defBody st=body)
 (hbody:∀(cdv:Value)(A:Around)(outer:List PySem.Env)(s:Shared)(H:Hp)(E:XK),Room k (A.deeper (PyProof.Rows.envOfC qual scope s.heap.objs.size f cdv)) ->
   ∃t,PSs (Xq (CX1 P w) P w K mg base N qual scope f cdv A outer s H E) body t/\∃owN,VS ⟨cA,λ_=>none⟩ [] owN [] [] t φ/\VX ⟨cA,λ_=>none⟩ [] (λc d H'=>Same H H'/\E c d H') t χ) (hm:m=run N.length φ) (hx:xm=Zjr N.length χ) (hn:ps.length=n) :
 FnOk P w K mg base (CX1 P w) (k+1) f fd ps (spX cA n m xm):=by
 subst hS hB hm hx hn;obtain⟨oc,od,dV,kV,doc,pm,an,cdv,ct,osl,rfl,lk,hcd⟩:=F.ex;refine ZgC lk hcd S (λvs H Q E h => ?_) λA outer s H vs Q E hr h => ?_
 · rcases h with⟨av,ds,d,_,r,hl,_⟩|⟨av,ds,c,_,r,hl,_⟩
   · rw [<-r.length,hl]
   · rw [<-r.length,hl]
 · obtain⟨t,ht,owN,hv,hX⟩:=hbody cdv A outer s H E hr
   refine⟨t,ht,?_⟩;rcases h with⟨av,ds,d,ha,r,hl,hm,q⟩|⟨av,ds,c,ha,r,hl,hm,q⟩
   · unfold run at hm
     cases hφ:φ (ds.map some++List.replicate (N.length-ds.length) none)with
     |none=>rw [hφ]at hm;cases hm
     |some o=>
      rw [hφ]at hm;refine hv H av _ _ H _ (Zbl ha r) o hφ _ ?_;cases o with
      |nx δ'=>cases hm;exact λA' σ' H' E'=>q .non H' E'.same rfl
      |rt d'=>cases hm;exact λv H' s' r'=>q v H' s' r'
      |bk δ'=>cases hm
      |ct δ'=>cases hm
   · exact hX H av _ _ H _ (Zbl ha r) c hm (λH' s'=>⟨s',q H' s'⟩) _
end
end DL
namespace DL
open PySem PySem.Spec L2
def Zh0(K:PySem.W.Frag)(e C:Addr):List V->Hp->VK->Prop:=λxs H Q=>∃c cv b,xs=[.ref e,c]/\(∀v,RelV c v->v=cv)/\H e=some (.ext (Xa e (.ref C)))/\kitOne K (.ref C) cv=some b/\Q (.bl b) H
theorem Zcz{X:Cx}{K:PySem.W.Frag}{e C:Addr}(T:ExCls K C)(hK:X.K=K:=by rfl):Y5 X (.builtin "isinstance") (Zh0 K e C):=by
 subst hK;exact ZeK T
def Vt(c:String):List (List (String×Bool))->Option (List Bool)
 | []=>some []
 |t::r=>match t.lookup c,Vt c r with
  |some b,some bs=>some (b::bs)
  |_,_=>none
def Qf(K:PySem.W.Frag)(cA:Kn)(v:V)(tab:List (String×Bool)):Prop:=∀c b,tab.lookup c=some b->∃cv,(∀u,RelV v u->u=cv)/\kitOne K (.ref (cA.c c)) cv=some b
inductive IsiEs(K:PySem.W.Frag)(cA:Kn):List V->List (List (String×Bool))->Prop where
 |nil:IsiEs K cA [] []
 |cons {v:V} {t:List (String×Bool)} {vs:List V} {ts:List (List (String×Bool))}:Qf K cA v t->IsiEs K cA vs ts->IsiEs K cA (v::vs) (t::ts)
section
variable{cA:Kn}{G:Cn}{ow owB owC:List Nat}
theorem ER.none{H0 H:Hp}{av:Addr->Prop}{A:Nat->Option Addr}{σ:L2.St}{δ:Env}{i:Nat}{x:Option V}(R:ER G ow H0 av A σ H δ)(hi:ow.contains i=false)(hn:G.2 i=Option.none):ER G ow H0 av A (σ.set i x) H (δ.set i Option.none):=
 ⟨R.same,R.avd,R.fr,R.inj,R.live,R.dom,R.dom',by rw [List.length_set,List.length_set];exact R.len,R.pin,(λj v' e=>by
   have q:j≠i:=λz=>by rw [z,hn]at e;cases e
   rw [List.getElem?_set_ne (Ne.symm q)];exact R.kept j v' e),λj d e=>by
   have hj:j≠i:=by
    intro z;subst z
    by_cases hl:j<δ.length
    · rw [List.getElem?_set_self hl]at e;cases e
    · rw [List.getElem?_eq_none (by rw [List.length_set];omega)]at e;cases e
   rw [List.getElem?_set_ne (Ne.symm hj)]at e;obtain⟨v,h1,h2⟩:=R.var j d e;exact⟨v,by rw [List.getElem?_set_ne (Ne.symm hj)];exact h1,h2⟩⟩
end
end DL
namespace L2
open PySem PySem.Spec PyProof.Rows
section
variable{X:Cx}
def Zh1(K:PySem.W.Frag):R2:=λx y H Q=>∃l b xs zs,x = .ref l/\y = .ref b/\SqL K H l xs/\SqL K H b zs/\xs.length+zs.length<=sizeLine/\∀p,H p=none->Q (.ref p) (upd H p (.lst (xs++zs)))
theorem Zhb:OpR X (binaryOp .Add) (Zh1 X.K):=by
 intro pins s σ H x y v u Q I rx ry h;obtain⟨l,b,xs,zs,rfl,rfl,hH,hB,hz,q⟩:=h;cases rx;cases ry;obtain⟨its,r,pl,_⟩:=I.list hH;obtain⟨its2,r2,pl2,_⟩:=I.list hB;obtain⟨⟨c1,d1,da1,sl1⟩,n1,g1,e1,e2,e3⟩:=pl;obtain⟨⟨c2,d2,da2,sl2⟩,n2,g2,f1,f2,f3⟩:=pl2;dsimp only at e1 e2 e3 f1 f2 f3;subst e1 e2 e3 f1 f2 f3;have hl:=r.length;have hl2:=r2.length;refine concat_meets ⟨_,g1,rfl⟩ ⟨_,g2,rfl⟩ noFill_list_add seq_list_add PySem.F.slot_list_add PySem.F.entry_list_add (PySem.F.args_list_add_2 _ _) (list_addW l b its.toArray its2.toArray n1 n2 none none sl1 sl2 (by rw [List.size_toArray,List.size_toArray];omega)) ⟨g1,g2,?_⟩
 have ea:its.toArray++its2.toArray=(its++its2).toArray:=by simp
 rw [ea];exact⟨.ref _,_,I.lnew (t':=s.toks) (r.append r2) (by rw [List.length_append];omega),rfl,q _ I.fresh⟩
def ZgM(K:PySem.W.Frag):R2:=λx y H Q=>rI0 (λi j => .int (i+j)) x y H Q\/rAddS x y H Q\/Zh1 K x y H Q
theorem Zhc:OpR X (binaryOp .Add) (ZgM X.K):=op_add.or (op_addS.or Zhb)
theorem ZiM{K:PySem.W.Frag}(hK:X.K=K:=by rfl):OpR X (binaryOp .Add) (ZgM K):=hK▸Zhc
end
end L2
namespace DL
open PySem PySem.Spec L2
section
variable{cA:Kn}{G:Cn}{ow owB owC:List Nat}
def Zjs:D->D->Option D
 | .lst a,.lst b=>if a.length+b.length<=sizeLine then some (.lst (a++b))else none
 |x,y=>addD x y
end
end DL
namespace L2
open PySem PySem.W
theorem ZiN{P:Program}{w:World}{X:Cx}:Uj (CX1 P w) X E0:=λ_ _ _ _ _ _ _ ⟨_,_,_,_,_,_,_,_,_,_,_,_,_,_,hE⟩=>hE.elim
theorem Zdm{K:PySem.W.Frag}{C:Addr}{tlB:List Value}{nid:String}(q0:excIn K C tlB nid=true):(clsIn K C).isSome=true:=by
 unfold excIn at q0
 split at q0
 · rename_i look0
   unfold clsIn;rw [look0];rfl
 · cases q0
theorem ExCls.of {K:PySem.W.Frag} {C:Addr} (ex:excIn K C bmV "ValueError.__new__" = true) (ga:findIn K (.ref C) "__getattribute__" = some (some (.builtin "BaseException.__getattribute__"))) (mb:mroIn K C (.type "BaseException")=some true) (gt:findIn K (.ref C) "__getattr__" = some none) (ca:findIn K (.ref C) "__class__" = some (some (.builtin "object.__class__")))
 (cg:specialIn K (.builtin "object.__class__") "__get__" = some (some (.builtin "getset_descriptor.__get__"))) (ct:takesIn K (.builtin "object.__class__")=some true) (mo:mroIn K C (.type "object")=some true):ExCls K C:=⟨ex,ga,mb,gt,ca,cg,ct,mo,Zdm ex⟩
end L2
namespace DL
open L2
theorem VX.frz{G:Cn}{ow ow1:List Nat}{E:XK}{t:TS}{χ:Env->Option String}(i:Nat)(h:VX G ow1 E t χ)(hn:G.2 i=none)(h1:sub ow1 ow=true)(h2:ow1.contains i=false)(h3:sub ow (i::ow1)=true):VX G ow E t χ:=λH0 av A σ H δ R c e k De=>
 h H0 av _ σ H δ (R.freeze i (ZaP h1 h2 h3) hn) c e k De
theorem ZaI{K:PySem.W.Frag}{cA:Kn}{v:V}{cv:PySem.Value}{tab:List (String×Bool)}(hv:∀u,RelV v u->u=cv)(h:∀p∈tab,kitOne K (.ref (cA.c p.1)) cv=some p.2):Qf K cA v tab:=λc b e=>⟨cv,hv,h (c,b) (ZaG e)⟩
end DL
namespace L2
open PySem
end L2
namespace L2
open PySem
end L2
namespace L2
open PySem PySem.Spec PySem.W PyProof.Rows
def VM(cs:List Nat):List Nat:=(reprText (tx cs)).cps.toList
theorem ZcT(cs:List Nat)(h:cs.all (λc=>decide (c<65536))=true):(VM cs).length<=10*cs.length+2:=by
 have:=StrLaws.reprText_len (tx cs) (λc hc=>by
  have h1:=List.all_eq_true.mp h c (by simpa using hc);have:c<65536:=of_decide_eq_true h1;exact Nat.lt_trans this (by decide))
 simpa [VM,Str.length]using this
section
variable{X:Cx}{e:Expr}{te:TE}{pos:Pos}
def Zh2(te:TE):TE:=λσ H Q=>te σ H λv H1=>∃cs,v=S cs/\(VM cs).length<=sizeLine/\Q (S (VM cs)) H1
theorem Zhd(he:PE X e te):PE X (.FormattedValue e 114 none pos) (Zh2 te):=by
 intro pins s σ H Q I h;refine wpAny_FormattedValue_repr (thn (he pins s σ H _ I h) λu s1 ⟨v,H1,I1,r,cs,ev,hl,q⟩ => ?_);subst ev;obtain⟨t,rfl⟩:=r;have er:tx (VM cs)=reprText (tx cs):=rfl;have hz:(reprText (tx cs)).length<=sizeLine:=by simpa [VM,Str.length]using hl
 refine wpAny_pyReprObj_str ?_ hz;refine wpAny_formatField_str ⟨S (VM cs),H1,I1.tok _,⟨_,rfl⟩,q⟩ ⟨S (VM cs),H1,(I1.tok _),⟨_,rfl⟩,q⟩ hz
inductive PJ(X:Cx):List Expr->List TE->Prop where
 |nil:PJ X [] []
 |cons {e:Expr} {es:List Expr} {t:TE} {ts:List TE}:PE X e t->PJ X es ts->PJ X (e::es) (t::ts)
def tJs:List TE->List Nat->L2.St->Hp->(List Nat->Hp->Prop)->Prop
 | [],acc,_,H,Q=>Q acc H
 |t::r,acc,σ,H,Q=>t σ H λv H1=>∃cs,v=S cs/\(acc++cs).length<=sizeLine/\tJs r (acc++cs) σ H1 Q
theorem ZcU{pins:List (Addr×Obj)}{σ:L2.St}{Q:List Nat->Hp->Prop}:∀{es:List Expr}{ts:List TE}{acc:List Nat}{H:Hp}{s:Shared},PJ X es ts->Inv X pins σ H s->acc.length<=sizeLine->tJs ts acc σ H Q ->
 Joins (model X.prog X.w) X.A X.xe (evalEach es X.env) (tx acc) (λout s1=>∃cs H',out=tx cs/\Inv X pins σ H' s1/\cs.length<=sizeLine/\Q cs H') s
 |_,_,acc,H,s,.nil,I,hl,q=>⟨acc,H,rfl,I,hl,q⟩
 |_,_,acc,H,s,.cons he hr,I,hl,q=>by
  show wpAny (model X.prog X.w) X.A _ _ X.xe s;refine thn (he pins s σ H _ I q) λu s1 ⟨v,H1,I1,r,cs,ev,hz,q1⟩ => ?_
  subst ev;obtain⟨t,rfl⟩:=r
  have ea:tx acc++tx cs=tx (acc++cs):=by
   show(⟨acc.toArray++cs.toArray⟩:Str)=⟨(acc++cs).toArray⟩
   simp
  refine⟨_,_,rfl,?_,?_⟩
  · rw [ea];simpa [Str.length]using hz
  · rw [ea];exact ZcU hr I1 hz q1
theorem Za4{P Q:Str->Shared->Prop}(k:∀x s,P x s->Q x s):∀{parts:List (Sem Value)}{acc:Str}{s:Shared},Joins (model X.prog X.w) X.A X.xe parts acc P s->Joins (model X.prog X.w) X.A X.xe parts acc Q s
 | [],acc,s,h=>k _ _ h
 |x::r,acc,s,h=>thn h λv s1 ⟨y,t,e,hz,q⟩=>⟨y,t,e,hz,Za4 k q⟩
def Zh3(ts:List TE):TE:=λσ H Q=>tJs ts [] σ H λcs H1=>Q (S cs) H1
theorem Zhe{e1 e2:Expr}{es:List Expr}{ts:List TE}(h:PJ X (e1::e2::es) ts):PE X (.JoinedStr (e1::e2::es) pos) (Zh3 ts):=by
 intro pins s σ H Q I q;refine wpAny_JoinedStr (Za4 (λx s1 ⟨cs,H1,ex,I1,hl,q1⟩ => ?_) (ZcU (acc:=[]) h I (Nat.zero_le _) q));subst ex;exact⟨by simpa [Str.length]using hl,S cs,H1,I1.tok _,⟨_,rfl⟩,q1⟩
end
end L2
namespace DL
open PySem PySem.Spec L2
def UO:D->Option D
 | .str cs=>if cs.length<=1000/\cs.all (λc=>decide (c<65536))=true then some (.str (VM cs))else none
 |_=>none
def Qg(f:D->Option D)(a:Env->Option D)(δ:Env):Option D:=match a δ with
 |some d=>f d
 |none=>none
section
variable{G:Cn}{ow:List Nat}
theorem Zhf{te:TE}{a:Env->Option D}(h:VE G ow te .cl a):VE G ow (Zh2 te) .cl (Qg UO a):=λH0 av A σ H δ E d e Q k=>by
 unfold Qg at e;cases hx:a δ with
 |none=>rw [hx]at e;cases e
 |some x=>
  rw [hx]at e;dsimp only at e;unfold UO at e
  split at e
  · rename_i cs
    by_cases hz:cs.length<=1000/\cs.all (λc=>decide (c<65536))=true
    · rw [if_pos hz]at e
      cases e;refine h H0 av A σ H δ E _ hx _ λv H1 s1 r1=>⟨cs,r1,?_,k _ H1 s1 rfl⟩
      have:=ZcT cs hz.2;have hs:sizeLine=16777216:=sizeLine_eq;omega
    · rw [if_neg hz]at e;cases e
  · cases e
inductive VJ(G:Cn)(ow:List Nat):List TE->List (Env->Option D)->Prop where
 |nil:VJ G ow [] []
 |cons {t:TE} {a:Env->Option D} {ts:List TE} {as:List (Env->Option D)}:VE G ow t .cl a->VJ G ow ts as->VJ G ow (t::ts) (a::as)
def xJs:List (Env->Option D)->List Nat->Env->Option (List Nat)
 | [],acc,_=>some acc
 |a::r,acc,δ=>match a δ with
  |some (.str cs)=>if(acc++cs).length<=sizeLine then xJs r (acc++cs) δ else none
  |_=>none
theorem vjs{H0:Hp}{av:Addr->Prop}{A:Nat->Option Addr}{σ:L2.St}{δ:Env}:∀{ts:List TE}{as:List (Env->Option D)},VJ G ow ts as->∀{acc cs:List Nat}{H:Hp},ER G ow H0 av A σ H δ->xJs as acc δ=some cs->∀Q:List Nat->Hp->Prop,(∀H',Same H H'->Q cs H')->tJs ts acc σ H Q
 |_,_,.nil,acc,cs,H,E,e,Q,k=>by cases e;exact k H (Same.refl H)
 |_,_,.cons h hr,acc,cs,H,E,e,Q,k=>by
  rename_i t a ts as;unfold xJs at e;cases hx:a δ with
  |none=>rw [hx]at e;cases e
  |some x=>
   rw [hx]at e;cases x<;>first|(cases e;done)|skip
   rename_i c1;dsimp only at e
   by_cases hz:(acc++c1).length<=sizeLine
   · rw [if_pos hz]at e
     exact h H0 av A σ H δ E _ hx _ λv H1 s1 r1=>⟨c1,r1,hz,vjs hr (E.mono s1) e _ λH' s=>k H' (s1.trans s)⟩
   · rw [if_neg hz]at e;cases e
def QP(as:List (Env->Option D))(δ:Env):Option D:=match xJs as [] δ with
 |some cs=>some (.str cs)
 |none=>none
theorem Zhg{ts:List TE}{as:List (Env->Option D)}(h:VJ G ow ts as):VE G ow (Zh3 ts) .cl (QP as):=λH0 av A σ H δ E d e Q k=>by
 unfold QP at e;cases hx:xJs as [] δ with
 |none=>rw [hx]at e;cases e
 |some cs=>
  rw [hx]at e;cases e;exact vjs h E hx _ λH' s=>k _ H' s rfl
end
end DL
namespace L2
open PySem PySem.Spec PySem.W PyProof.Rows
section
variable{X:Cx}{E:XK}
theorem ZiO {st:Stmt} {t:TS} (h:∀(pins:List (Addr×Obj))(s:Shared)(σ:St)(H:Hp)(D:Ends)(xe:Value->Shared->Prop),Inv X pins σ H s->t D σ H ->
 (∀H2 s2 ev s',Inv X pins σ H2 s2->CX1 X.prog X.w X.stack H2 s2 E ev s'->xe ev s')->wpAny (model X.prog X.w) X.A (exec st X.env) (SP X pins D) xe s):PSx X E [st] t:=by
 intro pins s σ H D xe I q hx;refine wpAny_execs_cons (thn (Q:=SP X pins D) (h pins s σ H D xe I q hx) λf s1 q => ?_);cases f with
 |next=>exact wpAny_execs_nil q
 |ret v=>exact q
 |brk=>exact q
 |cont=>exact q
theorem Zd1 {i:Nat} {x:Str} {e:Expr} {te:TE} {pos pos':Pos} (hN:X.N.Nodup) (hi:X.N[i]? = some x) (hx:Loc X.env.scope x) (he:PEx X E e te) (hs:swapsWith e (some (.Name x pos')) pos.line X.env=pure false:=by rfl)
 (hf:X.fn x=true\/X.env.scope.names.lookup x=some .local:=by first|exact .inl rfl|exact .inr rfl|assumption):PSx X E [.Assign [.Name x pos'] e pos] (VC te (VB i)):=by
 refine ZiO λpins s σ H D xe I h hxe => ?_
 refine wpAny_Assign_Name (thn (he pins s σ H _ xe I h hxe) λv s1 ⟨y,H1,I1,r1,q1⟩ => ?_) hs;exact ZaE I1 hN hi hx r1 (λs2 I2=>⟨_,H1,I2,q1⟩) hf
end
end L2
namespace DL
open PySem PySem.Spec L2
abbrev XTab:=List (String×(Nat×(List D->Option D)×(List D->Option String)))
structure MethOkX(X:Cx)(cA:Kn)(k:Nat)(m:String)(c:String)(n:Nat)(mm:List D->Option D)(xm:List D->Option String):Prop where
 ex:∃f fd ps,Cls X.K (cA.c c)/\Meth X.K (cA.c c) (Str.ofString m) f/\FnOk X.prog X.w X.K X.mg X.base (CX1 X.prog X.w) k f fd ps (spX cA n mm xm)/\Binds X.K fd ps []
def MTOkX(X:Cx)(cA:Kn)(k:Nat)(m:String):XTab->Prop
 | []=>True
 |(c,n,mm,xm)::r=>MethOkX X cA k m c n mm xm/\MTOkX X cA k m r
theorem MTOkX.get{X:Cx}{cA:Kn}{k:Nat}{m:String}:∀{tab:XTab}{c:String}{n:Nat}{mm:List D->Option D}{xm:List D->Option String},MTOkX X cA k m tab->tab.lookup c=some (n,mm,xm)->MethOkX X cA k m c n mm xm
 | [],_,_,_,_,_,h=>by simp at h
 |(c',n',mm',xm')::r,c,n,mm,xm,T,h=>by
  rw [List.lookup_cons]at h;cases hc:c == c' with
  |true=>
   rw [hc]at h;cases h;have:c=c':=eq_of_beq hc;subst this;exact T.1
  |false=>
   rw [hc]at h;exact MTOkX.get T.2 h
def ZcA(cA:Kn)(m:String)(tab:XTab)(E:XK)(ta:TE)(t:TA):TE:=λσ H Q=>ta σ H λx H1=>∃a dx fs c n mm xm,x = .ref a/\H1 a=some (.ins (cA.c c) dx fs)/\fs.lookup (Str.ofString m)=none/\tab.lookup c=some (n,mm,xm)/\t σ H1 λvs H2=>spX cA n mm xm (x::vs) H2 Q E
section
variable{X:Cx}{cA:Kn}{k:Nat}{m:String}{tab:XTab}{o e:Expr}{es:List Expr}{ta:TE}{t:TA}{pos apos:Pos}{pl:Sem Bool}{E:XK}
theorem Zbq (T:MTOkX X cA k m tab) (hr:Room k X.A) (hx:Uj (CX1 X.prog X.w) X E) (he:PE X o ta) (ha:PA X (e::es) t)
 (hst:starEach (e::es) X.env=(false,eval e X.env)::starEach es X.env:=by rfl) (hpl:(backTo pos (starEach es X.env)).any (·.1)=false:=by rfl)
 (ht:eval (.Call (.Attribute o (Str.ofString m) apos) (e::es) [] pos) X.env=(do
   let ov <-eval o X.env
   standAt apos.atName
   let(f,first) <-holding [ov] (getMethod ov (Str.ofString m) pl)
   callWith pos f first (backTo pos (starEach (e::es) X.env)) (backToKw pos (keywordEach [] X.env))):=by rfl) :
 PE X (.Call (.Attribute o (Str.ofString m) apos) (e::es) [] pos) (ZcA cA m tab E ta t):=by
 intro pins s σ H Q I h;refine PySem.W.methodCall_KW (pl:=pl) (thn (he pins s σ H _ I h) λu s1 ⟨x,H1,I1,rx,a,dx,fs,c,n,mm,xm,ex,ea,l,tl,q⟩ => ?_) ht;subst ex;obtain rfl:u=Value.ref a:=rx;obtain⟨f,fd,ps,hc,hm,F,hb⟩:=(T.get tl).ex;refine Zaj I1 ea hc hm l ?_;refine PySem.W.callWith_K (first:=[.ref a]) (h₀:=X.base) I.ok.mod.kin hm.kp (thn (ha pos pins s1 σ H1 _ I1 q) λus s2 ⟨vs,H2,I2,r,q2⟩=>⟨I2.kIn,?_⟩) hst hpl
 exact Jg (us:=.ref a::us) (vs:=.ref a::vs) (dvs:=[]) (ds:=[]) F hr hb .nil hx I2 (.cons rfl r) (by rw [List.append_nil];exact q2)
theorem Zbr (T:MTOkX X cA k m tab) (hr:Room k X.A) (h0:∀e s,¬X.xe e s) (he:PE X o ta) (ha:PA X (e::es) t)
 (hst:starEach (e::es) X.env=(false,eval e X.env)::starEach es X.env:=by rfl) (hpl:(backTo pos (starEach es X.env)).any (·.1)=false:=by rfl)
 (ht:eval (.Call (.Attribute o (Str.ofString m) apos) (e::es) [] pos) X.env=(do
   let ov <-eval o X.env
   standAt apos.atName
   let(f,first) <-holding [ov] (getMethod ov (Str.ofString m) pl)
   callWith pos f first (backTo pos (starEach (e::es) X.env)) (backToKw pos (keywordEach [] X.env))):=by rfl) :
 PEx X E (.Call (.Attribute o (Str.ofString m) apos) (e::es) [] pos) (ZcA cA m tab E ta t):=by
 intro pins s σ H Q xe I h hx;refine PySem.W.methodCall_KW (pl:=pl) (wpAny_mono (he pins s σ H _ I h) (λu s1 ⟨x,H1,I1,rx,a,dx,fs,c,n,mm,xm,ex,ea,l,tl,q⟩ => ?_) λe s z=>(h0 e s z).elim) ht;subst ex;obtain rfl:u=Value.ref a:=rx;obtain⟨f,fd,ps,hc,hm,F,hb⟩:=(T.get tl).ex;refine Zaj I1 ea hc hm l ?_;refine PySem.W.callWith_K (first:=[.ref a]) (h₀:=X.base) I.ok.mod.kin hm.kp (wpAny_mono (ha pos pins s1 σ H1 _ I1 q) (λus s2 ⟨vs,H2,I2,r,q2⟩=>⟨I2.kIn,?_⟩) λe s z=>(h0 e s z).elim) hst hpl
 have r2:Vals (.ref a::vs) (.ref a::us) := .cons rfl r;have r3:Vals ((.ref a::vs)++[]) ((.ref a::us)++[]):=by rw [List.append_nil,List.append_nil];exact r2
 have q3:spX cA n mm xm ((.ref a::vs)++[]) H2 Q E:=by rw [List.append_nil];exact q2
 have hl:((Value.ref a::us)++[]).length=ps.length:=by rw [<-r3.length];exact F.len _ _ _ _ q3
 refine wpAny_call (codeAny_mono (F.run X.A X.stack s2 H2 ⟨.ref a::us,[]⟩ ((.ref a::us)++[]) ((.ref a::vs)++[]) Q E hr I2.env0 (hb s2 (.ref a::us) I2.kIn hl) r3 q3) λr' s' hq => ?_);cases r' with
 |error ev=>exact hx H2 s2 ev s' I2 hq
 |ok fl=>
  cases fl with
  |ret u=>exact I2.after hq
  |next=>exact False.elim hq
  |brk=>exact False.elim hq
  |cont=>exact False.elim hq
end
section
variable{cA:Kn}{G:Cn}{ow ow1 owB owC owN:List Nat}{E:XK}
def Xw(m:String)(tab:XTab)(a:Env->Option D)(α:Env->Option (List D))(δ:Env):Option D:=match a δ with
 |some (.obj c ks xs)=>if ks.contains m then none else(match tab.lookup c with
  |some (n,mm,_)=>match α δ with
   |some ds=>if(D.obj c ks xs::ds).length=n then mm (.obj c ks xs::ds)else none
   |none=>none
  |none=>none)
 |_=>none
def Vu(m:String)(tab:XTab)(a:Env->Option D)(α:Env->Option (List D))(δ:Env):Option String:=match a δ with
 |some (.obj c ks xs)=>if ks.contains m then none else(match tab.lookup c with
  |some (n,_,xm)=>match α δ with
   |some ds=>if(D.obj c ks xs::ds).length=n then xm (.obj c ks xs::ds)else none
   |none=>none
  |none=>none)
 |_=>none
theorem Up{m:String}{tab:XTab}{ta:TE}{t:TA}{a:Env->Option D}{α:Env->Option (List D)}{E1:XK}(ha:VE G ow ta .cl a)(h:VA G ow t .cl α):VE G ow (ZcA G.1 m tab E1 ta t) .cl (Xw m tab a α):=λH0 av A σ H δ E d e Q k=>by
 unfold Xw at e;cases hx:a δ with
 |none=>rw [hx]at e;cases e
 |some x=>
  rw [hx]at e;cases x<;>first|(cases e;done)|skip
  rename_i c ks xs;dsimp only at e;cases hf:ks.contains m with
  |true=>rw [hf,if_pos rfl]at e;cases e
  |false=>
   rw [hf,if_neg Bool.false_ne_true]at e;cases htb:tab.lookup c with
   |none=>rw [htb]at e;cases e
   |some p=>
    obtain⟨n,mm,xm⟩:=p;rw [htb]at e;dsimp only at e;cases he:α δ with
    |none=>rw [he]at e;cases e
    |some ds=>
     rw [he]at e;dsimp only at e
     by_cases hz:(D.obj c ks xs::ds).length=n
     · rw [if_pos hz]at e
       refine ha H0 av A σ H δ E _ hx _ λv H1 s1 r1 => ?_
       obtain⟨p,dx,vs,rfl,np,rd,zl,l⟩:=r1;refine⟨p,dx,_,c,n,mm,xm,rfl,rd,ZaH hf,htb,h H0 av A σ H1 δ (E.mono s1) ds he _ λws H2 s2 r2 => .inl ?_⟩;have E2:=(E.mono s1).mono s2;refine⟨AV av A,.obj c ks xs::ds,d,E2.avl,.cons ?_ r2.cl,hz,e,λv H' s r=>k v H' ((s1.trans s2).trans s) r.t⟩;unfold Rep;exact⟨p,dx,vs,rfl,np,s2 _ _ rd,zl,l.same s2⟩
     · rw [if_neg hz]at e;cases e
theorem JB{m:String}{tab:XTab}{ta:TE}{t:TA}{a:Env->Option D}{α:Env->Option (List D)}(ha:VE G ow ta .cl a)(h:VA G ow t .cl α):VXe G ow E (ZcA G.1 m tab E ta t) (Vu m tab a α):=λH0 av A σ H δ R c0 e k Q=>by
 unfold Vu at e;cases hx:a δ with
 |none=>rw [hx]at e;cases e
 |some x=>
  rw [hx]at e;cases x<;>first|(cases e;done)|skip
  rename_i c ks xs;dsimp only at e;cases hf:ks.contains m with
  |true=>rw [hf,if_pos rfl]at e;cases e
  |false=>
   rw [hf,if_neg Bool.false_ne_true]at e;cases htb:tab.lookup c with
   |none=>rw [htb]at e;cases e
   |some p=>
    obtain⟨n,mm,xm⟩:=p;rw [htb]at e;dsimp only at e;cases he:α δ with
    |none=>rw [he]at e;cases e
    |some ds=>
     rw [he]at e;dsimp only at e
     by_cases hz:(D.obj c ks xs::ds).length=n
     · rw [if_pos hz]at e
       refine ha H0 av A σ H δ R _ hx _ λv H1 s1 r1 => ?_
       obtain⟨p,dx,vs,rfl,np,rd,zl,l⟩:=r1;refine⟨p,dx,_,c,n,mm,xm,rfl,rd,ZaH hf,htb,h H0 av A σ H1 δ (R.mono s1) ds he _ λws H2 s2 r2 => .inr ?_⟩;have E2:=(R.mono s1).mono s2;refine⟨AV av A,.obj c ks xs::ds,c0,E2.avl,.cons ?_ r2.cl,hz,e,λH' s=>k H' ((s1.trans s2).trans s)⟩;unfold Rep;exact⟨p,dx,vs,rfl,np,s2 _ _ rd,zl,l.same s2⟩
     · rw [if_neg hz]at e;cases e
def Xm(γ:D->Env->Option Env)(φ:Env->Option Out)(χ:Env->Option String):List D->Env->Option String
 | [],_=>none
 |x::r,δ=>match γ x δ with
  |none=>none
  |some δ1=>match χ δ1 with
   |some c=>some c
   |none=>match φ δ1 with
    |some (.nx δ2)=>Xm γ φ χ r δ2
    |some (.ct δ2)=>Xm γ φ χ r δ2
    |_=>none
def QQ(ι:Env->Option (List D))(γ:D->Env->Option Env)(φ:Env->Option Out)(χ:Env->Option String)(δ:Env):Option String:=match ι δ with
 |some xs=>Xm γ φ χ xs δ
 |none=>none
theorem ZiP{wi:TI}{g:TG}{tb:TS}{ι:Env->Option (List D)}{γ:D->Env->Option Env}{φ:Env->Option Out}{χ:Env->Option String}(hi:VI G ow wi ι)(hg:VG G ow ow g γ)(hb:VS G ow ow ow ow tb φ)(hX:VX G ow E tb χ):VX G ow E (ZkK wi g tb) (QQ ι γ φ χ):=λH0 av A σ H δ R c e k De=>by
 unfold QQ at e;cases he:ι δ with
 |none=>rw [he]at e;cases e
 |some xs=>
  rw [he]at e;have e:Xm γ φ χ xs δ=some c:=e;refine hi H0 av A σ H δ R xs he _ λJ H1 s1 W => ?_
  have E1:=R.mono s1;refine⟨λi m σ' H'=>m=xs.length-i/\i<=xs.length/\∃A' δ',ER G ow (DL.cut A H1) av A' σ' H' δ'/\Xm γ φ χ (xs.drop i) δ'=some c,⟨xs.length,by simp,Nat.zero_le _,A,δ,E1.cut,e⟩,?_⟩
  rintro i m σ' H' ⟨rfl,hle,A',δ',E',e'⟩
  obtain⟨w1,w2,w3⟩:=W H' E'.same
  by_cases hlt:i<xs.length
  · refine .inr ⟨w1 i hlt,λσ2 H2=>∃A2 δ2,ER G ow (DL.cut A H1) av A2 σ2 H2 δ2/\Xm γ φ χ (xs.drop (i+1)) δ2=some c,λσ2 H2 ⟨A2,δ2,E2,e2⟩=>⟨xs.length-(i+1),by omega,rfl,hlt,A2,δ2,E2,e2⟩,λv H2 y => ?_⟩
    have hx:xs[i]? = some xs[i]:=List.getElem?_eq_getElem hlt;obtain⟨s2,rep⟩:=w2 i _ v H2 hx y;have E2:=E'.mono s2
    have rep':Rep G.1 (AV av A') H2 xs[i] v:=rep _ E'.avl λb z=>by
     rcases z with z|⟨j,z⟩
     · exact .inl (.inl z)
     · exact .inr (E'.fr j b z)
    rw [List.drop_eq_getElem_cons hlt]at e';unfold Xm at e';cases hγ:γ xs[i] δ' with
    |none=>rw [hγ]at e';cases e'
    |some δ1=>
     rw [hγ]at e';dsimp only at e';refine hg _ av A' σ' H2 δ' E2 _ v rep' δ1 hγ _ λA3 σ3 H3 s3 E3 => ?_
     cases hχ:χ δ1 with
     |some c'=>
      rw [hχ]at e';cases e';exact hX _ av A3 σ3 H3 δ1 E3 c hχ (λH' s=>k H' (E1.sub0.trans s)) _
     |none=>
      rw [hχ]at e';dsimp only at e';cases hφ:φ δ1 with
      |none=>rw [hφ]at e';cases e'
      |some o1=>
       rw [hφ]at e';refine hb _ av A3 σ3 H3 δ1 E3 o1 hφ _ ?_;cases o1 with
       |nx δ2=>exact λA4 σ4 H4 E4=>⟨A4,δ2,E4,e'⟩
       |ct δ2=>exact λA4 σ4 H4 E4=>⟨A4,δ2,E4,e'⟩
       |bk δ2=>cases e'
       |rt d=>cases e'
  · have ei:i=xs.length:=by omega
    subst ei;rw [List.drop_length]at e';cases e'
end
end DL
namespace L2
open PySem PySem.Spec PySem.W PyProof.Rows
end L2
namespace DL
open PySem PySem.Spec L2
section
variable{G:Cn}{ow:List Nat}
end
end DL
namespace L2
open PySem PySem.Spec PySem.W PyProof.Rows
structure RoomE(k:Nat)(A:Around):Prop where
 dp:A.depth+3*k+5<recursionLimit
 un:A.units+16*k+200<cLine
structure FnOkE(P:Program)(w:World)(K:PySem.W.Frag)(mg:Str->Option Value)(base:Heap)(k:Nat)(f:Addr)(fd:FuncData)(ps:List Str)(sp:List V->Hp->VK->Prop):Prop where
 len:∀vs H Q,sp vs H Q->vs.length=ps.length
 run:∀(A:Around)(outer:List PySem.Env)(s:Shared)(H:Hp)(args:Args)(us:List Value)(vs:List V)(Q:VK),RoomE k A->Env0 P w K mg base A outer s H->BindsTo s fd args (ps.zip us)->Vals vs us->sp vs H Q ->
  codeAny (model P w) A (.call (.ref f) args) (CR CX0 outer P w H s Q E0) s
def Zh4(K:PySem.W.Frag):List V->Hp->VK->Prop:=λxs H Q=>∃e C tp vs cvs b,xs=[.ref e,.ref tp]/\ExCls K C/\H e=some (.ext (Xa e (.ref C)))/\SqT K H tp vs/\(∀us,Vals vs us->us=cvs)/\PySem.W.kitAny K (.ref C) cvs=some b/\Q (.bl b) H
theorem Zgl{X:Cx}{K:PySem.W.Frag}(hK:X.K=K:=by rfl):Y5 X (.builtin "isinstance") (Zh4 K):=by
 subst hK;intro pins s σ H xs us Q I rs h;obtain⟨e,C,tp,vs,cvs,b,rfl,T,he,hq,hc,hk,q⟩:=h;obtain⟨u,w',rfl,rx,rc⟩:=Je rs;cases(show u=Value.ref e from rx);cases(show w'=Value.ref tp from rc);have hx:Xa e (.ref C) s.heap:=(I.hok e _ he).1;obtain⟨its,rv,⟨o,e1,hcl,n,hd⟩,_⟩:=I.tuple hq;cases hc its rv;obtain⟨cl,dd,da,sl⟩:=o;cases hcl;cases hd;exact PySem.W.kia_tup (ZcS T) I.kIn hx e1 hk (λz=>nomatch z) λtk=>⟨.bl b,H,I.tok tk,rfl,q⟩
end L2
namespace DL
open PySem PySem.Spec L2
def tCs:List V->TA
 | []=>tNil
 |v::vs=>Xk (tC v) (tCs vs)
theorem Zgm{σ:L2.St}{H:Hp}:∀{vs:List V}(Q:List V->Hp->Prop),Q vs H->tCs vs σ H Q
 | [],Q,q=>q
 |v::vs,Q,q=>Zgm (vs:=vs) (λxs H2=>Q (v::xs) H2) q
theorem ZbR{K:PySem.W.Frag}{cA:Kn}{c:String}:∀{vs:List V}{tabs:List (List (String×Bool))}{bs:List Bool},IsiEs K cA vs tabs->Vt c tabs=some bs->∃cvs,(∀us,Vals vs us->us=cvs)/\PySem.W.kitAny K (.ref (cA.c c)) cvs=some (bs.any id)
 |_,_,bs,.nil,e=>by
  cases e;exact⟨[],λus r=>by cases r;rfl,rfl⟩
 |_,_,bs,.cons h1 h2,e=>by
  unfold Vt at e
  split at e
  · rename_i b bs' e1 e2
    cases e;obtain⟨cv,hc,hk⟩:=h1 c b e1;obtain⟨cvs,hcs,hks⟩:=ZbR h2 e2;refine⟨cv::cvs,λus r => ?_,?_⟩
    · cases r with
      |cons r1 r2=>rw [hc _ r1,hcs _ r2]
    · unfold PySem.W.kitAny
      rw [hk];cases b with
      |true=>rfl
      |false=>exact hks
  · cases e
def ZdD(K:PySem.W.Frag)(cA:Kn)(i:Nat)(mk:Addr->Addr->TE)(tab:List (String×Bool)):Prop:=∀(c:String)(b:Bool)(ea:Addr)(σ:L2.St)(H:Hp)(Q:VK),ExCls K (cA.c c)->tab.lookup c=some b->σ[i]? = some (some (.ref ea))->H ea=some (.ext (Xa ea (.ref (cA.c c))))->(∀H',Same H H'->Q (.bl b) H')->mk (cA.c c) ea σ H Q
inductive Items(K:PySem.W.Frag)(cA:Kn)(i:Nat):List (Addr->Addr->TE)->List (List (String×Bool))->Prop where
 |nil:Items K cA i [] []
 |cons {m:Addr->Addr->TE} {t:List (String×Bool)} {ms:List (Addr->Addr->TE)} {ts:List (List (String×Bool))}:ZdD K cA i m t->Items K cA i ms ts->Items K cA i (m::ms) (t::ts)
def JC:List (Addr->Addr->TE)->Addr->Addr->TA
 | [],_,_=>tNil
 |m::ms,C,ea=>Xk (m C ea) (JC ms C ea)
def Uq(K:PySem.W.Frag)(i:Nat)(v:V)(C ea:Addr):TE:=tCB (Zh0 K ea C) (Xk (UC i) (Xk (tC v) tNil))
theorem ZaJ{K:PySem.W.Frag}{cA:Kn}{i:Nat}{v:V}{tab:List (String×Bool)}(h:Qf K cA v tab):ZdD K cA i (Uq K i v) tab:=λc b ea σ H Q T e hi he q=>by
 obtain⟨cv,hc,hk⟩:=h c b e;exact⟨.ref ea,hi,⟨_,cv,b,rfl,hc,he,hk,q _ (Same.refl _)⟩⟩
theorem Zgn{c:String}{b:Bool}:∀{l:List (String×Bool)},l.lookup c=some b->(c,b)∈l
 | [],e=>by cases e
 |(x,y)::r,e=>by
  rw [List.lookup_cons]at e
  split at e
  · rename_i hx
    cases e;rw [beq_iff_eq.mp hx];exact List.mem_cons_self
  · exact List.mem_cons_of_mem _ (Zgn e)
theorem ZcV{K:PySem.W.Frag}{cA:Kn}{i:Nat}{ea:Addr}{c:String}{σ:L2.St}(T:ExCls K (cA.c c))(hi:σ[i]? = some (some (.ref ea))):∀{ms:List (Addr->Addr->TE)}{tabs:List (List (String×Bool))}{bs:List Bool},Items K cA i ms tabs->Vt c tabs=some bs ->
 ∀(H:Hp),H ea=some (.ext (Xa ea (.ref (cA.c c))))->∀Q:List V->Hp->Prop,(∀H',Same H H'->Q (bs.map V.bl) H')->JC ms (cA.c c) ea σ H Q
 |_,_,bs,.nil,e,H,he,Q,q=>by cases e;exact q H (Same.refl _)
 |_,_,bs,.cons h1 h2,e,H,he,Q,q=>by
  unfold Vt at e
  split at e
  · rename_i b bs' e1 e2
    cases e;exact h1 c b ea σ H _ T e1 hi he λH1 s1=>ZcV T hi h2 e2 H1 (s1 _ _ he) _ λH2 s2=>q H2 (s1.trans s2)
  · cases e
section
variable{cA:Kn}{G:Cn}{ow owB owC:List Nat}
theorem Zhh{E:XK}{te:TE}{χ:Env->Option String}(h:VXe G ow E te χ):VXe G ow E (ZkG te) χ:=λH0 av A σ H δ R c e k Q=>h H0 av A σ H δ R c e k _
end
end DL
namespace DL
open PySem PySem.Spec L2
def JD(K:PySem.W.Frag)(i:Nat)(vs:List V)(_ _:Addr):TE:=tCB (Zh4 K) (Xk (UC i) (Xk (ZkN (tCs vs)) tNil))
theorem ZcW{K:PySem.W.Frag}{cA:Kn}{i:Nat}{vs:List V}{tab:List (String×Bool)}{tabs:List (List (String×Bool))}(hI:IsiEs K cA vs tabs)(hv:vs.length<=1000)(h:(tab.all λp=>(Vt p.1 tabs).map (·.any id) == some p.2)=true):ZdD K cA i (JD K i vs) tab:=λc b ea σ H Q T e hi he q=>by
 have h1:=List.all_eq_true.mp h (c,b) (Zgn e);have h1:(Vt c tabs).map (·.any id)=some b:=by simpa using h1
 cases hs:Vt c tabs with
 |none=>rw [hs]at h1;cases h1
 |some bs=>
  rw [hs]at h1;cases h1;obtain⟨cvs,k1,k2⟩:=ZbR hI hs;refine⟨.ref ea,hi,Zgm _ ⟨Nat.le_trans hv (by decide),λp hp => ?_⟩⟩;have sm:Same H (upd H p (.tup vs)):=YV hp;exact⟨ea,cA.c c,p,vs,cvs,_,rfl,T,sm _ _ he,SqT.of YO,k1,k2,q _ sm⟩
end DL
namespace L2
open PySem PySem.Spec PyProof.Rows
section
variable{X:Cx}{elts:List Expr}{x1:Nat}{tpos:Pos}
end
end L2
namespace DL
open PySem PySem.Spec L2
def X2:List D->List D->List D
 |x::xs,y::ys => .tup [x,y]::X2 xs ys
 |_,_=>[]
theorem Zad:∀xs ys:List D,(X2 xs ys).length=min xs.length ys.length
 | [],_=>by simp [X2]
 |_::_,[]=>by simp [X2]
 |x::xs,y::ys=>by rw [X2,List.length_cons,List.length_cons,List.length_cons,Zad xs ys];omega
theorem ZcX:∀(xs ys:List D)(i:Nat)(x y:D),xs[i]? = some x->ys[i]? = some y->(X2 xs ys)[i]? = some (.tup [x,y])
 | [],_,i,x,y,h,_=>by simp at h
 |_::_,[],i,x,y,_,h=>by simp at h
 |x0::xs,y0::ys,0,x,y,h1,h2=>by simp at h1 h2;rw [h1,h2];rfl
 |x0::xs,y0::ys,i+1,x,y,h1,h2=>by
  rw [X2,List.getElem?_cons_succ];exact ZcX xs ys i x y (by simpa using h1) (by simpa using h2)
section
variable{cA:Kn}{G:Cn}{ow:List Nat}
end
end DL
namespace DL
open PySem PySem.Spec L2
def mat(rows:List (List D)):D := .lst (rows.map D.lst)
structure Mx(H:Hp)(a:Addr)(bs:List Addr)(rows:List (List D)):Prop where
 top:H a=some (.lst (bs.map V.ref))
 len:bs.length=rows.length
 nd:bs.Nodup
 na:a∉bs
 row:∀(k:Nat)(b:Addr)(r:List D),bs[k]? = some b->rows[k]? = some r->H b=some (.lst (r.map val))
 sc:∀r∈rows,r.all Yp=true
section
variable{H H':Hp}{a:Addr}{bs:List Addr}{rows:List (List D)}
theorem Mx.mem(M:Mx H a bs rows){b:Addr}(h:b∈bs):∃r∈rows,H b=some (.lst (r.map val)):=by
 obtain⟨k,hk,e⟩:=List.mem_iff_getElem.mp h;have hk2:k<rows.length:=by rw [<-M.len];exact hk
 exact⟨rows[k],List.getElem_mem hk2,M.row k b _ (by rw [List.getElem?_eq_getElem hk,e]) (List.getElem?_eq_getElem hk2)⟩
theorem Mx.there(M:Mx H a bs rows){x:Addr}(h:x∈a::bs):∃vs,H x=some (.lst vs):=by
 rcases List.mem_cons.mp h with rfl|h
 · exact⟨_,M.top⟩
 · obtain⟨r,_,e⟩:=M.mem h
   exact⟨_,e⟩
theorem Mx.mono(M:Mx H a bs rows)(k:Same H H'):Mx H' a bs rows:=⟨k _ _ M.top,M.len,M.nd,M.na,λn b r h1 h2=>k _ _ (M.row n b r h1 h2),M.sc⟩
theorem Mx.rep{cA:Kn}{av:Addr->Prop}(M:Mx H a bs rows)(hn:∀x∈a::bs,¬av x):Rep cA av H (mat rows) (.ref a):=by
 have go:∀(bs:List Addr)(rows:List (List D)),bs.length=rows.length->(∀x∈bs,¬av x)->(∀(k:Nat)(b:Addr)(r:List D),bs[k]? = some b->rows[k]? = some r->H b=some (.lst (r.map val)))->(∀r∈rows,r.all Yp=true)->RepL cA av H (rows.map D.lst) (bs.map V.ref):=by
  intro bs
  induction bs with
  |nil=>
   intro rows hl _ _ _;cases rows with
   |nil=>exact .nil
   |cons _ _=>simp at hl
  |cons b bs ih=>
   intro rows hl hn hr hs;cases rows with
   |nil=>simp at hl
   |cons r rows=>
    refine .cons ?_ (ih rows (by simpa using hl) (λx hx=>hn x (List.mem_cons_of_mem _ hx)) (λk b r h1 h2=>hr (k+1) b r (by simpa using h1) (by simpa using h2)) λr hr=>hs r (List.mem_cons_of_mem _ hr));unfold Rep;exact⟨b,r.map val,rfl,λz=>(hn b List.mem_cons_self z).elim,SqL.of (hr 0 b r rfl rfl),.of_vals (hs r List.mem_cons_self)⟩
 unfold mat Rep;exact⟨a,bs.map V.ref,rfl,λz=>(hn a List.mem_cons_self z).elim,SqL.of M.top,go bs rows M.len (λx hx=>hn x (List.mem_cons_of_mem _ hx)) M.row M.sc⟩
end
open Classical in
noncomputable def ovl(H0 H:Hp)(F:List Addr):Hp:=λx=>if x∈F then H x else H0 x
theorem JE{H0 H:Hp}{F:List Addr}{x:Addr}(h:x∈F):ovl H0 H F x=H x:=if_pos h
theorem QR{H0 H:Hp}{F:List Addr}{x:Addr}(h:x∉F):ovl H0 H F x=H0 x:=if_neg h
abbrev Cn.keep(G:Cn)(i:Nat)(v:V):Cn:=⟨G.1,λj=>if j=i then some (.inr v)else G.2 j⟩
abbrev avF(av:Addr->Prop)(F:List Addr):Addr->Prop:=λx=>av x\/x∈F
def PinOk(G:Cn)(i:Nat)(σ:L2.St):Prop:=∀z,G.2 i=some z->∃v,z = .inr v/\σ[i]? = some (some v)
theorem PinOk.none{G:Cn}{i:Nat}{σ:L2.St}(h:G.2 i=Option.none):PinOk G i σ:=λz e=>by rw [h]at e;cases e
theorem PinOk.set{G:Cn}{i k:Nat}{σ:L2.St}{x:Option V}(h:PinOk G i σ)(hk:k≠i):PinOk G i (σ.set k x):=λz e=>by
 obtain⟨v,h1,h2⟩:=h z e;exact⟨v,h1,by rw [List.getElem?_set_ne hk];exact h2⟩
structure MR(G:Cn)(ow:List Nat)(i:Nat)(H0:Hp)(av:Addr->Prop)(A:Nat->Option Addr)(σ:L2.St)(H:Hp)(δ:Env):Prop where
 ni:i∉ow
 nn:PinOk G i σ
 avd:∀x,av x->H0 x≠none
 ex:∃a bs rows,δ[i]? = some (some (mat rows))/\Mx H a bs rows/\(∀x∈a::bs,H0 x=none)/\ER (G.keep i (.ref a)) ow (ovl H0 H (a::bs)) (avF av (a::bs)) A σ H (δ.set i none)
section
variable{cA:Kn}{G:Cn}{ow owN owB owC ow1:List Nat}{i:Nat}{H0 H H':Hp}{av:Addr->Prop}{A:Nat->Option Addr}{σ:L2.St}{δ:Env}
theorem Zd2{j:Nat}{v:V}(h:j≠i):(G.keep i v).2 j=G.2 j:=if_neg h
theorem ZfF{a:Addr}{bs:List Addr}{rows:List (List D)}(M:Mx H a bs rows)(k:Same H H'):ovl H0 H' (a::bs)=ovl H0 H (a::bs):=by
 funext x
 by_cases h:x∈a::bs
 · rw [JE h,JE h]
   obtain⟨vs,q⟩:=M.there h;rw [q,k _ _ q]
 · rw [QR h,QR h]
theorem MR.set{k:Nat}{d:D}(R:MR G ow i H0 av A σ H δ)(hs:Yp d=true)(hk:k≠i)(hw:∀j,j∈owN ↔ j∈ow/\j≠k)(hn:G.2 k=none):MR G owN i H0 av (λj=>if j=k then none else A j) (σ.set k (some (val d))) H (δ.set k (some d)):=by
 obtain⟨a,bs,rows,hd,M,h0,E⟩:=R.ex;refine⟨λz=>R.ni ((hw i).mp z).1,R.nn.set hk,R.avd,a,bs,rows,by rw [List.getElem?_set_ne hk];exact hd,M,h0,?_⟩;rw [List.set_comm _ _ hk];exact E.set (.of_val hs) hw (by rw [Zd2 hk];exact hn)
theorem MR.turn {a:Addr} {bs:List Addr} {rows rows':List (List D)} (ni:i∉ow) (nn:PinOk G i σ) (havd:∀x,av x->H0 x≠none) (hd:δ[i]? = some (some (mat rows))) (M:Mx H a bs rows) (h0:∀x∈a::bs,H0 x=none) (E:ER (G.keep i (.ref a)) ow (ovl H0 H (a::bs)) (avF av (a::bs)) A σ H (δ.set i none))
 (M':Mx H' a bs rows') (hk:∀x,x∉a::bs->H' x=H x):MR G ow i H0 av A σ H' (δ.set i (some (mat rows'))):=by
 have hil:i<δ.length:=(List.getElem?_eq_some_iff.mp hd).1
 have nF:∀j x,A j=some x->x∉a::bs:=λj x e z=>by
  have:=E.fr j x e;rw [JE z]at this;obtain⟨vs,q⟩:=M.there z;rw [q]at this;cases this
 refine⟨ni,nn,havd,a,bs,rows',List.getElem?_set_self hil,M',h0,?_⟩;have e1:(δ.set i (some (mat rows'))).set i none=δ.set i none:=List.set_set ..;rw [e1];refine⟨λb o e => ?_,λx z => ?_,λj x e => ?_,E.inj,λj x e => ?_,E.dom,E.dom',E.len,E.pin,E.kept,λj d e => ?_⟩
 · by_cases h:b∈a::bs
   · rw [JE h]at e;exact e
   · rw [QR h]at e
     rw [hk b h];exact E.same b o (by rw [QR h];exact e)
 · by_cases h:x∈a::bs
   · rw [JE h]
     obtain⟨vs,q⟩:=M'.there h;rw [q];exact λz=>by cases z
   · rw [QR h]
     exact havd x (z.resolve_right h)
 · have:=E.fr j x e
   rw [QR (nF j x e)]at this ⊢;exact this
 · rw [hk x (nF j x e)]
   exact E.live j x e
 · have ex : ∀ b o, ¬ AV (avF av (a :: bs)) A b -> H b = some o -> H' b = some o := fun b o n e => by
    rw [hk b λz=>n (.inl (.inr z))];exact e
   obtain⟨v,h1,h2,h3⟩:=E.var j d e;refine⟨v,h1,λz=>(h2 z).ext ex,λb z => ?_⟩;obtain⟨r1,r2⟩:=h3 b z;refine⟨r1,?_⟩;cases d with
   |lst xs=>obtain⟨vs,q1,q2⟩:=r2;exact⟨vs,by rw [hk b (nF j b z)];exact q1,q2.ext ex⟩
   |obj c ks xs=>obtain⟨dx,vs,q1,q0,q2⟩:=r2;exact⟨dx,vs,by rw [hk b (nF j b z)];exact q1,q0,q2.ext ex⟩
   |dct ks xs=>obtain⟨vs,q1,q0,q2⟩:=r2;exact⟨vs,by rw [hk b (nF j b z)];exact q1,q0,q2.ext ex⟩
   |dtt ks xs=>obtain⟨vs,q1,q0,q2⟩:=r2;exact⟨vs,by rw [hk b (nF j b z)];exact q1,q0,q2.ext ex⟩
   |_=>exact r2
end
end DL
namespace DL
open PySem PySem.Spec L2
section
variable{cA:Kn}{G:Cn}{ow owN owB owC ow1:List Nat}{i:Nat}
end
end DL
namespace DL
open PySem PySem.Spec L2
section
variable{H:Hp}{a b:Addr}{bs:List Addr}{rows:List (List D)}{j:Nat}{r r':List D}
theorem Mx.at(M:Mx H a bs rows)(hr:rows[j]? = some r):∃b,bs[j]? = some b/\H b=some (.lst (r.map val)):=by
 have hjl:j<bs.length:=by rw [M.len];exact(List.getElem?_eq_some_iff.mp hr).1
 exact⟨bs[j],List.getElem?_eq_getElem hjl,M.row j _ r (List.getElem?_eq_getElem hjl) hr⟩
end
section
variable{cA:Kn}{G:Cn}{ow owN owB owC ow1:List Nat}{i:Nat}
end
end DL
namespace DL
open PySem PySem.Spec L2
def VFM(G:Cn)(ow:List Nat)(te:TE)(ε:Env->Option D):Prop:=
 ∀H0 av A σ H δ,ER G ow H0 av A σ H δ->∀d,ε δ=some d->∀Q:VK,(∀a bs rows H',Same H H'->(∀x∈a::bs,H x=none)->Mx H' a bs rows->d=mat rows->Q (.ref a) H')->te σ H Q
section
variable{cA:Kn}{G:Cn}{ow owN owB owC ow1:List Nat}{i:Nat}
theorem VFM.cl{te:TE}{ε:Env->Option D}(h:VFM G ow te ε):VE G ow te .cl ε:=λH0 av A σ H δ E d e Q k=>
 h H0 av A σ H δ E d e Q λa bs rows H' s hf M hd=>by
  subst hd;exact k _ H' s (M.rep λx hx z=>E.avl x z (hf x hx)).t
end
section
variable{P:Program}{w:World}{K:PySem.W.Frag}{mg:Str->Option Value}{base:Heap}{cA:Kn}
end
end DL
namespace DL
open PySem PySem.Spec L2
section
variable{cA:Kn}{G:Cn}{ow:List Nat}
structure RowsAt(H0 H:Hp)(bs:List Addr)(rows:List (List D)):Prop where
 len:bs.length=rows.length
 nd:bs.Nodup
 row:∀(k:Nat)(b:Addr)(r:List D),bs[k]? = some b->rows[k]? = some r->H b=some (.lst (r.map val))
 fr:∀b∈bs,H0 b=none
 sc:∀r∈rows,r.all Yp=true
theorem RowsAt.same{H0 H H':Hp}{bs:List Addr}{rows:List (List D)}(R:RowsAt H0 H bs rows)(s:Same H H'):RowsAt H0 H' bs rows:=⟨R.len,R.nd,λk b r h1 h2=>s _ _ (R.row k b r h1 h2),R.fr,R.sc⟩
end
end DL
namespace DL
open PySem PySem.Spec L2
section
variable{cA:Kn}{G:Cn}{ow owN owB owC ow1:List Nat}{i:Nat}
open Classical in
end
section
variable{P:Program}{w:World}{K:PySem.W.Frag}{mg:Str->Option Value}{base:Heap}{cA:Kn}
end
end DL
namespace L2
open PySem PySem.Spec PySem.W PyProof.Rows
end L2
namespace DL
open PySem PySem.Spec L2
section
variable{cA:Kn}{G:Cn}{ow owN owB owC ow1:List Nat}{i:Nat}
theorem MR.own{H0 H:Hp}{av:Addr->Prop}{A:Nat->Option Addr}{σ:L2.St}{δ:Env}{k:Nat}{xs:List D}{p:Addr}(R:MR G ow i H0 av A σ H δ)(hs:xs.all Yp=true)(hp:H p=none)(hk:k≠i)(hw:∀j,j∈ow1 ↔ j∈ow\/j=k)(hn:G.2 k=none):MR G ow1 i H0 av (λj=>if j=k then some p else A j) (σ.set k (some (.ref p))) (upd H p (.lst (xs.map val))) (δ.set k (some (.lst xs))):=by
 obtain⟨a,bs,rows,hd,M,h0,E⟩:=R.ex;refine⟨λz=>((hw i).mp z).elim R.ni λz=>hk z.symm,R.nn.set hk,R.avd,a,bs,rows,by rw [List.getElem?_set_ne hk];exact hd,M.mono (YV hp),h0,?_⟩;rw [List.set_comm _ _ hk,ZfF M (YV hp)];exact E.own hp (.of_vals hs) hw (by rw [Zd2 hk];exact hn)
end
end DL
namespace DL
open PySem PySem.Spec L2
section
variable{cA:Kn}{av:Addr->Prop}{H:Hp}
end
section
variable{G:Cn}{ow owN owB owC ow1:List Nat}{H0 H:Hp}{av:Addr->Prop}{A:Nat->Option Addr}{σ:L2.St}{δ:Env}
end
end DL
namespace L2
open PySem
end L2
namespace DL
open PySem PySem.Spec L2
section
variable{G:Cn}{ow owN owB owC ow1:List Nat}
end
section
variable{cA:Kn}{G:Cn}{ow owN owB owC ow1:List Nat}{i:Nat}
end
section
variable{P:Program}{w:World}{K:PySem.W.Frag}{mg:Str->Option Value}{base:Heap}{cA:Kn}
open Classical in
end
end DL
namespace L2
open PySem PySem.Spec PyProof.Rows
section
variable{X:Cx}
end
end L2
namespace DL
open PySem PySem.Spec L2
section
variable{cA:Kn}{G:Cn}{ow owN owB owC ow1:List Nat}{i:Nat}
mutual
def frz:D->Bool
 | .non=>true
 | .bl _=>true
 | .int _=>true
 | .str _=>true
 | .lst _=>false
 | .tup xs=>frzL xs
 | .obj _ _ xs=>frzL xs
 | .dct _ _=>false
 | .dtt _ _=>false
def frzL:List D->Bool
 | []=>true
 |x::xs=>frz x&&frzL xs
end
mutual
theorem Rep.frz{av av':Addr->Prop}{H:Hp}:∀{d:D}{v:V},frz d=true->(∀b,av' b->av b\/∃vs,H b=some (.lst vs))->Rep cA av H d v->Rep cA av' H d v
 | .non,_,_,_,h=>h
 | .bl _,_,_,_,h=>h
 | .int _,_,_,_,h=>h
 | .str _,_,_,_,h=>h
 | .lst xs,v,hf,k,h=>by cases hf
 | .tup xs,v,hf,k,h=>by
  unfold DL.frz at hf;unfold Rep at h ⊢;obtain⟨a,vs,e,n,r,l⟩:=h;exact⟨a,vs,e,λz=>(k a z).elim n (by rw [r];exact λ⟨_,z⟩=>by cases z),r,RepL.frz hf k l⟩
 | .obj c ks xs,v,hf,k,h=>by
  unfold DL.frz at hf;unfold Rep at h ⊢;obtain⟨a,dx,vs,e,n,r,z,l⟩:=h;exact⟨a,dx,vs,e,λz=>(k a z).elim n (by rw [r];exact λ⟨_,z⟩=>by cases z),r,z,RepL.frz hf k l⟩
 | .dct ks xs,v,hf,k,h=>by cases hf
 | .dtt ks xs,v,hf,k,h=>by cases hf
theorem RepL.frz{av av':Addr->Prop}{H:Hp}:∀{xs:List D}{vs:List V},frzL xs=true->(∀b,av' b->av b\/∃vs,H b=some (.lst vs))->RepL cA av H xs vs->RepL cA av' H xs vs
 | [],_,_,_,h=>h
 |x::xs,vs,hf,k,h=>by
  unfold DL.frzL at hf;rw [Bool.and_eq_true]at hf;unfold RepL at h ⊢;obtain⟨v,r,e,h1,h2⟩:=h;exact⟨v,r,e,Rep.frz hf.1 k h1,RepL.frz hf.2 k h2⟩
end
end
end DL
namespace PySem
open Sem (wp)
section
variable{prog:Program}{w:World}{A:Around}{E:Value->Shared->Prop}{s:Shared}
theorem Zco {j t:Addr} {i:Nat} {xs:Array Value} {x:Value} {Q:Value->Shared->Prop} (hj:s.heap.IsTupleIter j t i) (ht:s.heap.IsTuple t xs) (hx:xs[i]? = some x)
 (hQ:∀h',h'.IsTupleIter j t (i+1)->Heap.SameBut j s.heap h'->Q x { s with heap:=h' }):wpAny (model prog w) A (Builtin.SmallTypes.nextOf (.ref j)) Q E s:=by
 obtain⟨oj,gj,cj,dj⟩:=id hj;obtain⟨ot,gt,_,nt,dt⟩:=ht;unfold Builtin.SmallTypes.nextOf;refine wpAny_bind (wpAny_callSpecial?_slot (name:=Str.ofString "__next__") hj.typeIs F.slot_tuple_iterator_next (wpAny_call_entry F.slot_tuple_iterator_next hj.typeIs F.entry_tuple_iterator_next ?_ (F.args_tuple_iterator_next_1 _)));show wpAny _ _ (field (.ref j) 0 >>= _) _ _ s;refine wpAny_bind (wpAny_field gj dj (x:=.ref t) rfl ?_)
 show wpAny _ _ (if(Value.ref t == Value.none)=true then _ else _) _ _ _;rw [if_neg (show ¬(Value.ref t == Value.none)=true from λz=>Bool.false_ne_true z)];show wpAny _ _ (field (.ref j) 1 >>= _) _ _ s;refine wpAny_bind (wpAny_field gj dj (x:=.int i 0) rfl ?_);show wpAny _ _ (seqItems? (.ref t) >>= _) _ _ _;refine wpAny_bind (wpAny_seqItems gt dt ?_);simp only [Int.toNat_natCast,hx];refine wpAny_bind (wpAny_setField gj dj (by simp) (wpAny_pure ⟨x,rfl,wpAny_pure (hQ _ ?_ (Heap.SameBut.update ..))⟩))
 refine⟨_,Heap.get?_update_self _ gj (Obj.isFreed_of_fields (Obj.data_mapFields dj _)),(Obj.cls_mapFields ..).trans cj,?_⟩;rw [Obj.data_mapFields dj];simp [rawInt]
theorem Zcp {j t:Addr} {i:Nat} {xs:Array Value} {Q:Value->Shared->Prop} (hh:A.handled=none) (hj:s.heap.IsTupleIter j t i) (ht:s.heap.IsTuple t xs) (hx:xs[i]? = none)
 (hE:∀h' e,Heap.ExtBut j s.heap h'->(∃o,h'.get? e=some o/\o.cls = .type "StopIteration")->E (.ref e) { s with heap:=h' }):wpAny (model prog w) A (Builtin.SmallTypes.nextOf (.ref j)) Q E s:=by
 obtain⟨oj,gj,cj,dj⟩:=id hj;obtain⟨ot,gt,_,nt,dt⟩:=ht;unfold Builtin.SmallTypes.nextOf;refine wpAny_bind (wpAny_callSpecial?_slot (name:=Str.ofString "__next__") hj.typeIs F.slot_tuple_iterator_next (wpAny_call_entry F.slot_tuple_iterator_next hj.typeIs F.entry_tuple_iterator_next ?_ (F.args_tuple_iterator_next_1 _)));show wpAny _ _ (field (.ref j) 0 >>= _) _ _ s;refine wpAny_bind (wpAny_field gj dj (x:=.ref t) rfl ?_)
 show wpAny _ _ (if(Value.ref t == Value.none)=true then _ else _) _ _ _;rw [if_neg (show ¬(Value.ref t == Value.none)=true from λz=>Bool.false_ne_true z)];show wpAny _ _ (field (.ref j) 1 >>= _) _ _ s;refine wpAny_bind (wpAny_field gj dj (x:=.int i 0) rfl ?_);show wpAny _ _ (seqItems? (.ref t) >>= _) _ _ _;refine wpAny_bind (wpAny_seqItems gt dt ?_);simp only [Int.toNat_natCast,hx];refine wpAny_bind (wpAny_rule (wpAny_bind (wpAny_setField gj dj (by simp) ?_)))
 show wpAny _ _ (newExc (.type "StopIteration") List.nil >>= _) _ _ _;refine wpAny_bind ?_;simp only [newExc,newTuple];refine wpAny_bind (wpAny_newObj_type (wpAny_bind (m:=firstArgMember _ _) (wpAny_of_eq (a:=Value.none) (by first|rfl|(simp only [firstArgMember];rfl)) (wpAny_newObj_type ?_ (by size_fits)))) (by size_fits));simp only [raiseNew];refine wpAny_bind (wpAny_handled ?_)
 first|rw [show A.in1.handled=none from hh]|rw [hh]
 exact wpAny_bind (wpAny_pure (wpAny_throw (hE _ _ (((Heap.SameBut.update ..).extBut.push _).push _) ⟨_,Heap.get?_push_size _ rfl,rfl⟩)))
end
def IsQI(k:Bool)(h:Heap)(a l:Addr)(i:Nat):Prop:=match k with
 |true=>h.IsTupleIter a l i
 |false=>h.IsListIter a l i
def IsQ(k:Bool)(h:Heap)(l:Addr)(xs:Array Value):Prop:=match k with
 |true=>h.IsTuple l xs
 |false=>h.IsList l xs
theorem IsQI.get{k:Bool}{h:Heap}{a l:Addr}{i:Nat}(x:IsQI k h a l i):∃o,h.get? a=some o/\o.data = .fields #[.ref l,.int i 0]:=by
 cases k with
 |true=>obtain⟨o,e,_,d⟩:=x;exact⟨o,e,d⟩
 |false=>obtain⟨o,e,_,d⟩:=x;exact⟨o,e,d⟩
theorem IsQI.at{k:Bool}{h h':Heap}{a l:Addr}{i:Nat}(x:IsQI k h a l i)(f:∀o,h.get? a=some o->h'.get? a=some o):IsQI k h' a l i:=by
 cases k with
 |true=>obtain⟨o,e,r⟩:=x;exact⟨o,f o e,r⟩
 |false=>obtain⟨o,e,r⟩:=x;exact⟨o,f o e,r⟩
theorem IsQI.ext{k:Bool}{h h':Heap}{a b l:Addr}{i:Nat}(x:IsQI k h a l i)(hs:Heap.ExtBut b h h')(n:a≠b):IsQI k h' a l i:=x.at λo e=>hs a o n e
theorem IsQ.at{k:Bool}{h h':Heap}{l:Addr}{xs:Array Value}(x:IsQ k h l xs)(f:∀o,h.get? l=some o->h'.get? l=some o):IsQ k h' l xs:=by
 cases k with
 |true=>obtain⟨o,e,r⟩:=x;exact⟨o,f o e,r⟩
 |false=>obtain⟨o,e,r⟩:=x;exact⟨o,f o e,r⟩
theorem IsQ.ext{k:Bool}{h h':Heap}{b l:Addr}{xs:Array Value}(x:IsQ k h l xs)(hs:Heap.ExtBut b h h')(n:l≠b):IsQ k h' l xs:=x.at λo e=>hs l o n e
theorem IsQ.lt{k:Bool}{h:Heap}{l:Addr}{xs:Array Value}(x:IsQ k h l xs):l<h.objs.size:=by
 cases k with
 |true=>obtain⟨o,e,_⟩:=x;exact Heap.lt_size e
 |false=>obtain⟨o,e,_⟩:=x;exact Heap.lt_size e
section
variable{prog:Program}{w:World}{A:Around}{E:Value->Shared->Prop}{s:Shared}
theorem Zax {k:Bool} {j t:Addr} {i:Nat} {xs:Array Value} {x:Value} {Q:Value->Shared->Prop} (hj:IsQI k s.heap j t i) (ht:IsQ k s.heap t xs) (hx:xs[i]? = some x)
 (hQ:∀h',IsQI k h' j t (i+1)->Heap.SameBut j s.heap h'->Q x { s with heap:=h' }):wpAny (model prog w) A (Builtin.SmallTypes.nextOf (.ref j)) Q E s:=by
 cases k with
 |true=>exact Zco hj ht hx hQ
 |false=>exact wpAny_nextOf_list_item hj ht hx hQ
theorem ZbS {k:Bool} {j t:Addr} {i:Nat} {xs:Array Value} {Q:Value->Shared->Prop} (hh:A.handled=none) (hj:IsQI k s.heap j t i) (ht:IsQ k s.heap t xs) (hx:xs[i]? = none)
 (hE:∀h' e,Heap.ExtBut j s.heap h'->(∃o,h'.get? e=some o/\o.cls = .type "StopIteration")->E (.ref e) { s with heap:=h' }):wpAny (model prog w) A (Builtin.SmallTypes.nextOf (.ref j)) Q E s:=by
 cases k with
 |true=>exact Zcp hh hj ht hx hE
 |false=>exact wpAny_nextOf_list_end hh hj ht hx hE
theorem ZeL {p q:Bool} {z TI TO i1 i2 l1 l2:Addr} {k1 k2:Nat} {xs ys:Array Value} {x y a b:Value} {Q:Value->Shared->Prop} (D:ZipApart z TI TO i1 i2 l1 l2)
 (gz:IsZip s.heap z TI TO .none) (gI:IsPair s.heap TI (.ref i1) (.ref i2)) (gO:IsPair s.heap TO a b) (u1:IsQI p s.heap i1 l1 k1) (u2:IsQI q s.heap i2 l2 k2) (m1:IsQ p s.heap l1 xs) (m2:IsQ q s.heap l2 ys) (hx:xs[k1]? = some x) (hy:ys[k2]? = some y)
 (hQ:∀h',IsZip h' z TI TO (rawInt s.heap.objs.size)->IsPair h' TO x y->IsQI p h' i1 l1 (k1+1)->IsQI q h' i2 l2 (k2+1)->IsPair h' s.heap.objs.size x y->h'.objs.size=s.heap.objs.size+1->(∀c o,c≠z->c≠TO->c≠i1->c≠i2->s.heap.get? c=some o->h'.get? c=some o)->Q (.ref s.heap.objs.size) { s with heap:=h' }) :
 wpAny (model prog w) A (Builtin.«zip.__next__» ⟨[.ref z],[]⟩) (λfin s'=>∃v,fin = .done (.ret v)/\Q v s') E s:=by
 show wpAny _ _ (field (.ref z) 2 >>= λ_=>_) _ _ _;refine wpAny_bind (wpAny_field gz rfl (x:=.bool false) rfl ?_);show wpAny _ _ (field (.ref z) 3 >>= λ_=>_) _ _ _;refine wpAny_bind (wpAny_field gz rfl (x:=.ref TI) rfl (wpAny_bind (wpAny_seqItems gI rfl ?_)));show wpAny _ _ (Builtin.SmallTypes.ownedTupleIsFree (.ref z) >>= λ_=>_) _ _ _;unfold Builtin.SmallTypes.ownedTupleIsFree;refine wpAny_bind (wpAny_bind (wpAny_field gz rfl (x:=.none) rfl (wpAny_pure ?_)))
 simp only [if_true];refine wpAny_bind (wpAny_rule (wpAny_bind (wpAny_field gz rfl (x:=.ref TO) rfl (wpAny_bind (wpAny_setField_rec gz (by simp) λh₁ gz₁ s₁ => ?_)))));have gz₁:IsZip h₁ z TI TO .ellipsis:=gz₁;refine wpAny_bind ?_;simp only [List.zipIdx_cons,List.forIn_cons,List.zipIdx_nil,List.forIn_nil];refine wpAny_bind (wpAny_bind (wpAny_onRaise (wpAny_bind (m:=Builtin.SmallTypes.nextOf (.ref i1)) (Zax (u1.ext s₁.extBut D.i1z) (m1.ext s₁.extBut D.l1z) hx λh₂ u1₂ s₂=>wpAny_pure ?_))))
 have gO₂:IsPair h₂ TO a b:=s₂.extBut _ _ D.TOi1 (s₁.extBut _ _ D.TOz gO);refine wpAny_bind (wpAny_seqItems gO₂ rfl (wpAny_bind (wpAny_updateSeq_pair gO₂ λh₃ gO₃ s₃ => ?_)));have gO₃:IsPair h₃ TO x b:=gO₃;refine wpAny_bind (wpAny_letGo (wpAny_pure ?_));refine wpAny_bind (wpAny_bind (wpAny_onRaise (wpAny_bind (m:=Builtin.SmallTypes.nextOf (.ref i2)) (Zax (((u2.ext s₁.extBut D.i2z).ext s₂.extBut D.i12.symm).ext s₃.extBut D.TOi2.symm) (((m2.ext s₁.extBut D.l2z).ext s₂.extBut D.l2i1).ext s₃.extBut D.l2TO) hy λh₄ u2₄ s₄=>wpAny_pure ?_))))
 have gO₄:IsPair h₄ TO x b:=s₄.extBut _ _ D.TOi2 gO₃;refine wpAny_bind (wpAny_seqItems gO₄ rfl (wpAny_bind (wpAny_updateSeq_pair gO₄ λh₅ gO₅ s₅ => ?_)));have gO₅:IsPair h₅ TO x y:=gO₅;refine wpAny_bind (wpAny_letGo (wpAny_pure (wpAny_pure (wpAny_bind (wpAny_seqItems gO₅ rfl (wpAny_bind (wpAny_newTuple ?_)))))));have ez:h₅.objs.size=s.heap.objs.size:=by rw [s₅.1,s₄.1,s₃.1,s₂.1,s₁.1]
 have gz₅:IsZip h₅ z TI TO .ellipsis:=s₅.extBut _ _ D.TOz.symm (s₄.extBut _ _ D.i2z.symm (s₃.extBut _ _ D.TOz.symm (s₂.extBut _ _ D.i1z.symm gz₁)));have kp:∀c o,c≠z->c≠TO->c≠i1->c≠i2->s.heap.get? c=some o->h₅.get? c=some o:=λc o c1 c2 c3 c4 e=>s₅.extBut _ _ c2 (s₄.extBut _ _ c4 (s₃.extBut _ _ c2 (s₂.extBut _ _ c3 (s₁.extBut _ _ c1 e))))
 have u1₅:IsQI p h₅ i1 l1 (k1+1):=((u1₂.ext s₃.extBut D.TOi1.symm).ext s₄.extBut D.i12).ext s₅.extBut D.TOi1.symm;have u2₅:IsQI q h₅ i2 l2 (k2+1):=u2₄.ext s₅.extBut D.TOi2.symm;have lz:z<h₅.objs.size:=Heap.lt_size gz₅;show wpAny _ _ (Builtin.SmallTypes.ownedTupleHandOut (.ref z) (.ref h₅.objs.size) >>= λ_=>_) _ _ _;unfold Builtin.SmallTypes.ownedTupleHandOut;have gz₆:IsZip (h₅.push { cls := .type "tuple",data := .seq #[x,y] }) z TI TO .ellipsis:=Heap.get?_push_of_some _ gz₅
 refine wpAny_bind (wpAny_bind (wpAny_setField_rec gz₆ (by simp) λh₇ gz₇ s₇ => ?_));have gz₇:IsZip h₇ z TI TO (rawInt h₅.objs.size):=gz₇;refine wpAny_setField_rec gz₇ (by simp) λh₈ gz₈ s₈ => ?_
 have gz₈:IsZip h₈ z TI TO (rawInt h₅.objs.size):=gz₈;have up:∀c o,c≠z->h₅.get? c=some o->h₈.get? c=some o:=λc o c1 e=>s₈.extBut _ _ c1 (s₇.extBut _ _ c1 (Heap.get?_push_of_some _ e))
 have gT:IsPair h₈ h₅.objs.size x y:=s₈.extBut _ _ (Nat.ne_of_gt lz) (s₇.extBut _ _ (Nat.ne_of_gt lz) (Heap.get?_push_size _ rfl));have e8:h₈.objs.size=h₅.objs.size+1:=by rw [s₈.1,s₇.1,Heap.size_push]
 rw [ez]at gz₈ gT e8;refine wpAny_pure ⟨_,rfl,?_⟩;rw [ez];exact hQ h₈ gz₈ (up _ _ D.TOz gO₅) (u1₅.at λo e=>up _ o D.i1z e) (u2₅.at λo e=>up _ o D.i2z e) gT e8 λc o c1 c2 c3 c4 e=>up c o c1 (kp c o c1 c2 c3 c4 e)
theorem ZfG {p q:Bool} {z TI TO i1 i2 l1 l2:Addr} {k1 k2:Nat} {xs ys:Array Value} {a b:Value} {Q:Fin->Shared->Prop} (hh:A.handled=none) (D:ZipApart z TI TO i1 i2 l1 l2)
 (gz:IsZip s.heap z TI TO .none) (gI:IsPair s.heap TI (.ref i1) (.ref i2)) (gO:IsPair s.heap TO a b) (u1:IsQI p s.heap i1 l1 k1) (u2:IsQI q s.heap i2 l2 k2) (m1:IsQ p s.heap l1 xs) (m2:IsQ q s.heap l2 ys) (hend:xs[k1]? = none\/ys[k2]? = none)
 (hE:∀h' e,(∀c o,c≠z->c≠TO->c≠i1->c≠i2->s.heap.get? c=some o->h'.get? c=some o)->(∃o,h'.get? e=some o/\o.cls = .type "StopIteration")->E (.ref e) { s with heap:=h' }) :
 wpAny (model prog w) A (Builtin.«zip.__next__» ⟨[.ref z],[]⟩) Q E s:=by
 show wpAny _ _ (field (.ref z) 2 >>= λ_=>_) _ _ _;refine wpAny_bind (wpAny_field gz rfl (x:=.bool false) rfl ?_);show wpAny _ _ (field (.ref z) 3 >>= λ_=>_) _ _ _;refine wpAny_bind (wpAny_field gz rfl (x:=.ref TI) rfl (wpAny_bind (wpAny_seqItems gI rfl ?_)));show wpAny _ _ (Builtin.SmallTypes.ownedTupleIsFree (.ref z) >>= λ_=>_) _ _ _;unfold Builtin.SmallTypes.ownedTupleIsFree;refine wpAny_bind (wpAny_bind (wpAny_field gz rfl (x:=.none) rfl (wpAny_pure ?_)))
 simp only [if_true];refine wpAny_bind (wpAny_rule (wpAny_bind (wpAny_field gz rfl (x:=.ref TO) rfl (wpAny_bind (wpAny_setField_rec gz (by simp) λh₁ gz₁ s₁ => ?_)))));have gz₁:IsZip h₁ z TI TO .ellipsis:=gz₁;refine wpAny_bind ?_;simp only [List.zipIdx_cons,List.forIn_cons,List.zipIdx_nil,List.forIn_nil];cases hx:xs[k1]? with
 |none=>
  refine wpAny_bind (wpAny_bind (wpAny_onRaise (wpAny_bind (m:=Builtin.SmallTypes.nextOf (.ref i1)) (ZbS hh (u1.ext s₁.extBut D.i1z) (m1.ext s₁.extBut D.l1z) hx λh₂ e s₂ he => ?_))));obtain⟨oe,ge,ce⟩:=he;have gz₂:IsZip h₂ z TI TO .ellipsis:=s₂ _ _ D.i1z.symm gz₁;have nez:e≠z:=λv=>by rw [v,gz₂]at ge;cases ge;simp at ce
  exact wpAny_setField_rec gz₂ (by simp) λh₃ _ s₃=>hE h₃ e (λc o c1 _ c3 _ v=>s₃.extBut _ _ c1 (s₂ _ _ c3 (s₁.extBut _ _ c1 v))) ⟨oe,s₃.extBut _ _ nez ge,ce⟩
 |some x=>
  have hy:ys[k2]? = none:=hend.resolve_left (by rw [hx];exact λv=>by cases v);refine wpAny_bind (wpAny_bind (wpAny_onRaise (wpAny_bind (m:=Builtin.SmallTypes.nextOf (.ref i1)) (Zax (u1.ext s₁.extBut D.i1z) (m1.ext s₁.extBut D.l1z) hx λh₂ u1₂ s₂=>wpAny_pure ?_))));have gO₂:IsPair h₂ TO a b:=s₂.extBut _ _ D.TOi1 (s₁.extBut _ _ D.TOz gO);refine wpAny_bind (wpAny_seqItems gO₂ rfl (wpAny_bind (wpAny_updateSeq_pair gO₂ λh₃ gO₃ s₃=>wpAny_bind (wpAny_letGo (wpAny_pure ?_)))))
  refine wpAny_bind (wpAny_bind (wpAny_onRaise (wpAny_bind (m:=Builtin.SmallTypes.nextOf (.ref i2)) (ZbS hh (((u2.ext s₁.extBut D.i2z).ext s₂.extBut D.i12.symm).ext s₃.extBut D.TOi2.symm) (((m2.ext s₁.extBut D.l2z).ext s₂.extBut D.l2i1).ext s₃.extBut D.l2TO) hy λh₄ e s₄ he => ?_))));obtain⟨oe,ge,ce⟩:=he;have gz₄:IsZip h₄ z TI TO .ellipsis:=s₄ _ _ D.i2z.symm (s₃.extBut _ _ D.TOz.symm (s₂.extBut _ _ D.i1z.symm gz₁))
  have nez:e≠z:=λv=>by rw [v,gz₄]at ge;cases ge;simp at ce
  exact wpAny_setField_rec gz₄ (by simp) λh₅ _ s₅=>hE h₅ e (λc o c1 c2 c3 c4 v=>s₅.extBut _ _ c1 (s₄ _ _ c4 (s₃.extBut _ _ c2 (s₂.extBut _ _ c3 (s₁.extBut _ _ c1 v))))) ⟨oe,s₅.extBut _ _ nez ge,ce⟩
theorem Zb6 {p q:Bool} {z TI TO i1 i2 l1 l2:Addr} {k1 k2:Nat} {xs ys:Array Value} {x y a b:Value} {Q:Option Value->Shared->Prop} (D:ZipApart z TI TO i1 i2 l1 l2)
 (gz:IsZip s.heap z TI TO .none) (gI:IsPair s.heap TI (.ref i1) (.ref i2)) (gO:IsPair s.heap TO a b) (u1:IsQI p s.heap i1 l1 k1) (u2:IsQI q s.heap i2 l2 k2) (m1:IsQ p s.heap l1 xs) (m2:IsQ q s.heap l2 ys) (hx:xs[k1]? = some x) (hy:ys[k2]? = some y)
 (hQ:∀h',IsZip h' z TI TO (rawInt s.heap.objs.size)->IsPair h' TO x y->IsQI p h' i1 l1 (k1+1)->IsQI q h' i2 l2 (k2+1)->IsPair h' s.heap.objs.size x y->h'.objs.size=s.heap.objs.size+1->(∀c o,c≠z->c≠TO->c≠i1->c≠i2->s.heap.get? c=some o->h'.get? c=some o)->Q (some (.ref s.heap.objs.size)) { s with heap:=h' }) :
 wpAny (model prog w) A (pyNext (.ref z)) Q E s:=by
 have tz:s.TypeIs (.ref z) "zip" := ⟨_,gz,rfl⟩
 unfold pyNext;exact wpAny_bind (wpAny_attempt (wpAny_callSpecial?_slot (name:=Str.ofString "__next__") tz F.slot_zip_next (wpAny_call_entry F.slot_zip_next tz F.entry_zip_next (ZeL D gz gI gO u1 u2 m1 m2 hx hy λh' a1 a2 a3 a4 a5 a6 a7=>wpAny_pure (hQ h' a1 a2 a3 a4 a5 a6 a7)) (F.args_zip_next_1 _))))
theorem Zcq {p q:Bool} {z TI TO i1 i2 l1 l2:Addr} {k1 k2:Nat} {xs ys:Array Value} {a b:Value} {Q:Option Value->Shared->Prop} (hh:A.handled=none) (D:ZipApart z TI TO i1 i2 l1 l2)
 (gz:IsZip s.heap z TI TO .none) (gI:IsPair s.heap TI (.ref i1) (.ref i2)) (gO:IsPair s.heap TO a b) (u1:IsQI p s.heap i1 l1 k1) (u2:IsQI q s.heap i2 l2 k2) (m1:IsQ p s.heap l1 xs) (m2:IsQ q s.heap l2 ys) (hend:xs[k1]? = none\/ys[k2]? = none)
 (hQ:∀h',(∀c o,c≠z->c≠TO->c≠i1->c≠i2->s.heap.get? c=some o->h'.get? c=some o)->Q none { s with heap:=h' }):wpAny (model prog w) A (pyNext (.ref z)) Q E s:=by
 have tz:s.TypeIs (.ref z) "zip" := ⟨_,gz,rfl⟩
 unfold pyNext;refine wpAny_bind (wpAny_attempt (wpAny_callSpecial?_slot (name:=Str.ofString "__next__") tz F.slot_zip_next (wpAny_call_entry F.slot_zip_next tz F.entry_zip_next (ZfG hh D gz gI gO u1 u2 m1 m2 hend λh' e hk he => ?_) (F.args_zip_next_1 _))));obtain⟨o,go,co⟩:=he;exact wpAny_bind (wpAny_isInstance (T:="StopIteration") (b:=true) ⟨o,go,co⟩ isSubtype_stop (wpAny_pure (hQ _ hk)))
end
abbrev itO(k:Bool)(l:Addr):Obj:={ cls := .type (if k then "tuple_iterator" else "list_iterator"),data := .fields #[.ref l,.int 0 0] }
abbrev zq2(p q:Bool)(h:Heap)(l1 l2:Addr):Heap:=(h.push (itO p l1)).push (itO q l2)
abbrev zq3(p q:Bool)(h:Heap)(l1 l2:Addr):Heap:=(zq2 p q h l1 l2).push { cls := .type "tuple",data := .seq #[.ref h.objs.size,.ref (h.push (itO p l1)).objs.size] }
abbrev zq4(p q:Bool)(h:Heap)(l1 l2:Addr):Heap:=(zq3 p q h l1 l2).push { cls := .type "tuple",data := .seq #[.none,.none] }
abbrev zq5(p q:Bool)(h:Heap)(l1 l2:Addr):Heap:=(zq4 p q h l1 l2).push { cls := .type "zip",data := .fields #[.none,.bool false,.bool false,.ref (zq2 p q h l1 l2).objs.size,.ref (zq3 p q h l1 l2).objs.size] }
theorem Zdn(p q:Bool)(l1 l2:Addr)(xs ys:Array Value):Meets (Builtin.«zip.__new__» ⟨[.type "zip",.ref l1,.ref l2],[]⟩) (λ_ R s=>IsQ p s.heap l1 xs/\IsQ q s.heap l2 ys/\R (.ok (.ret (.ref (zq4 p q s.heap l1 l2).objs.size))) { s with heap:=zq5 p q s.heap l1 l2 }):=
 .of_wp λprog w A R s h=>by
  obtain⟨hp,g,d,tk,os⟩:=s;obtain⟨m1,m2,h⟩:=h;have hsub:=sub_zip;cases p<;>cases q
  · have e1:Heap.IsList (Shared.heap ⟨hp,g,d,tk,os⟩) l1 xs:=m1
    have e2:Heap.IsList (Shared.heap ⟨hp.push { cls := .type "list_iterator",data := .fields #[.ref l1,.int 0 0] },g,d,tk,os⟩) l2 ys:=Heap.IsList.push m2 _
    wp_walk using wpAny_pyIter_list e1,wpAny_pyIter_list e2
    exact⟨_,rfl,h⟩
  · have e1:Heap.IsList (Shared.heap ⟨hp,g,d,tk,os⟩) l1 xs:=m1
    have e2:Heap.IsTuple (Shared.heap ⟨hp.push { cls := .type "list_iterator",data := .fields #[.ref l1,.int 0 0] },g,d,tk,os⟩) l2 ys:=Heap.IsTuple.push m2 _
    wp_walk using wpAny_pyIter_list e1,wpAny_pyIter_tuple e2
    exact⟨_,rfl,h⟩
  · have e1:Heap.IsTuple (Shared.heap ⟨hp,g,d,tk,os⟩) l1 xs:=m1
    have e2:Heap.IsList (Shared.heap ⟨hp.push { cls := .type "tuple_iterator",data := .fields #[.ref l1,.int 0 0] },g,d,tk,os⟩) l2 ys:=Heap.IsList.push m2 _
    wp_walk using wpAny_pyIter_tuple e1,wpAny_pyIter_list e2
    exact⟨_,rfl,h⟩
  · have e1:Heap.IsTuple (Shared.heap ⟨hp,g,d,tk,os⟩) l1 xs:=m1
    have e2:Heap.IsTuple (Shared.heap ⟨hp.push { cls := .type "tuple_iterator",data := .fields #[.ref l1,.int 0 0] },g,d,tk,os⟩) l2 ys:=Heap.IsTuple.push m2 _
    wp_walk using wpAny_pyIter_tuple e1,wpAny_pyIter_tuple e2
    exact⟨_,rfl,h⟩
theorem Zgo(k:Bool){h:Heap}{a l:Addr}(e:h.get? a=some (itO k l)):IsQI k h a l 0:=by
 cases k with
 |true=>exact⟨_,e,rfl,rfl⟩
 |false=>exact⟨_,e,rfl,rfl⟩
section
variable{prog:Program}{w:World}{A:Around}{E:Value->Shared->Prop}{s:Shared}
theorem ZeM {p q:Bool} {l1 l2:Addr} {xs ys:Array Value} {Q:Value->Shared->Prop} (m1:IsQ p s.heap l1 xs) (m2:IsQ q s.heap l2 ys)
 (h:∀h',IsZip h' (s.heap.objs.size+4) (s.heap.objs.size+2) (s.heap.objs.size+3) .none->IsPair h' (s.heap.objs.size+2) (.ref s.heap.objs.size) (.ref (s.heap.objs.size+1))->IsPair h' (s.heap.objs.size+3) .none .none->IsQI p h' s.heap.objs.size l1 0->IsQI q h' (s.heap.objs.size+1) l2 0->(∀c o,s.heap.get? c=some o->h'.get? c=some o)->Q (.ref (s.heap.objs.size+4)) { s with heap:=h' }) :
 wpAny (model prog w) A (call (.type "zip") [.ref l1,.ref l2]) Q E s:=by
 refine callType_new F.called_zip (by decide) (F.typeCall_zip_2 _ _) (F.newCall_zip_2 _ _) (λobj=>F.args_object_init_3 obj _ _) F.entry_zip_new (Zdn p q l1 l2 xs ys) ⟨m1,m2,?_⟩;have z1:(s.heap.push (itO p l1)).objs.size=s.heap.objs.size+1:=Heap.size_push ..;have z2:(zq2 p q s.heap l1 l2).objs.size=s.heap.objs.size+2:=by rw [Heap.size_push,z1]
 have z3:(zq3 p q s.heap l1 l2).objs.size=s.heap.objs.size+3:=by rw [Heap.size_push,z2]
 have z4:(zq4 p q s.heap l1 l2).objs.size=s.heap.objs.size+4:=by rw [Heap.size_push,z3]
 have up:=λ(h:Heap) (o o':Obj) (a:Addr) (e:h.get? a=some o')=>Heap.get?_push_of_some (h:=h) o e
 have g5:(zq5 p q s.heap l1 l2).get? (zq4 p q s.heap l1 l2).objs.size=some _:=Heap.get?_push_size _ rfl;have g4:(zq5 p q s.heap l1 l2).get? (zq3 p q s.heap l1 l2).objs.size=some _:=up _ _ _ _ (Heap.get?_push_size _ rfl);have g3:(zq5 p q s.heap l1 l2).get? (zq2 p q s.heap l1 l2).objs.size=some _:=up _ _ _ _ (up _ _ _ _ (Heap.get?_push_size _ rfl));have g2:(zq5 p q s.heap l1 l2).get? (s.heap.push (itO p l1)).objs.size=some (itO q l2):=up _ _ _ _ (up _ _ _ _ (up _ _ _ _ (Heap.get?_push_size _ (by cases q<;>rfl))))
 have g1:(zq5 p q s.heap l1 l2).get? s.heap.objs.size=some (itO p l1):=up _ _ _ _ (up _ _ _ _ (up _ _ _ _ (up _ _ _ _ (Heap.get?_push_size _ (by cases p<;>rfl)))));show _/\_;rw [z2,z3,z4]at g5;rw [z1,z2]at g3;rw [z3]at g4;rw [z1]at g2;rw [z4];exact⟨⟨_,g5,rfl⟩,h _ g5 g3 g4 (Zgo p g1) (Zgo q g2) λc o e=>up _ _ _ _ (up _ _ _ _ (up _ _ _ _ (up _ _ _ _ (up _ _ _ _ e))))⟩
end
end PySem
namespace L2
open PySem PySem.Spec PyProof.Rows
def SqQ(k:Bool)(K:PySem.W.Frag)(H:Hp)(a:Addr)(xs:List V):Prop:=match k with
 |true=>SqT K H a xs
 |false=>SqL K H a xs
theorem Inv.seqQ{X:Cx}{pins:List (Addr×Obj)}{σ:St}{H:Hp}{s:Shared}{k:Bool}{a:Addr}{xs:List V}(I:Inv X pins σ H s)(h:SqQ k X.K H a xs):∃its:List Value,Vals xs its/\IsQ k s.heap a its.toArray/\xs.length<=sizeLine:=by
 cases k with
 |true=>exact I.tuple h
 |false=>
  obtain⟨its,r,p,z⟩:=I.list h;exact⟨its,r,p.isList,z⟩
theorem Inv.seqQ_inj{X:Cx}{pins:List (Addr×Obj)}{σ:St}{H:Hp}{s:Shared}{k:Bool}{a:Addr}{xs ys:List V}(I:Inv X pins σ H s)(h:SqQ k X.K H a xs)(h':SqQ k X.K H a ys):xs=ys:=by
 cases k with
 |true=>exact I.tuple_inj h h'
 |false=>exact Inv.list_inj I h h'
def ZkW(kp kq:Bool)(K:PySem.W.Frag)(l1 l2:Addr):It:=
 ⟨λi H=>∃xs ys x y,SqQ kp K H l1 xs/\SqQ kq K H l2 ys/\xs[i]? = some x/\ys[i]? = some y,
  λi H v H'=>∃x y p,(∀xs,SqQ kp K H l1 xs->xs[i]? = some x)/\(∀ys,SqQ kq K H l2 ys->ys[i]? = some y)/\H p=none/\v = .ref p/\H'=upd H p (.tup [x,y]),
  λi H=>∃xs ys,SqQ kp K H l1 xs/\SqQ kq K H l2 ys/\(xs.length<=i\/ys.length<=i)⟩
theorem ZeN{p q:Bool}{P:Program}{w:World}{K:PySem.W.Frag}{elts:List Expr}{x1:Nat}{tpos:Pos}(n l1 l2:Nat)(hl1:l1<n)(hl2:l2<n) :
 Turn P w K (.Tuple elts x1 tpos) (ZkW p q K l1 l2) [n+4,n+2,n+3,n,n+1] (n+4) (λi h=>IsZip h (n+4) (n+2) (n+3) .none/\IsPair h (n+2) (.ref n) (.ref (n+1))/\(∃a b,IsPair h (n+3) a b)/\IsQI p h n l1 i/\IsQI q h (n+1) l2 i) where
 mem:=by simp
 obj:=λi h st b hb=>by
  obtain⟨hz,hTI,⟨a,b',hTO⟩,h1,h2⟩:=st;obtain⟨o1,ho1,hd1⟩:=h1.get;obtain⟨o2,ho2,hd2⟩:=h2.get;simp at hb;rcases hb with rfl|rfl|rfl|rfl|rfl
  · exact ⟨_, hz, fun v z => by
     have z':Data.fields _=Data.cell v:=z;cases z'⟩
  · exact ⟨_, hTI, fun v z => by
     have z':Data.seq _ _=Data.cell v:=z;cases z'⟩
  · exact ⟨_, hTO, fun v z => by
     have z':Data.seq _ _=Data.cell v:=z;cases z'⟩
  · exact⟨o1,ho1,λv z=>by rw [hd1]at z;cases z⟩
  · exact⟨o2,ho2,λv z=>by rw [hd2]at z;cases z⟩
 keep:=λi h h' st k=>by
  obtain⟨hz,hTI,⟨a,b',hTO⟩,h1,h2⟩:=st;exact⟨k _ (by simp) _ hz,k _ (by simp) _ hTI,⟨a,b',k _ (by simp) _ hTO⟩,h1.at λo q=>k n (by simp) o q,h2.at λo q=>k (n+1) (by simp) o q⟩
 item:=by
  intro X hP hw hK hc i pins s σ H E I hf st hg;subst hP hw hK;obtain⟨hz,hTI,⟨a,b',hTO⟩,h1,h2⟩:=st;obtain⟨xs,ys,x,y,hq1,hq2,hx,hy⟩:=hg;obtain⟨its1,rv1,p1,_⟩:=I.seqQ hq1;obtain⟨its2,rv2,p2,_⟩:=I.seqQ hq2;obtain⟨u,hu,ru⟩:=rv1.get hx;obtain⟨v,hv,rv⟩:=rv2.get hy;have D:ZipApart (n+4) (n+2) (n+3) n (n+1) l1 l2:=zipApart_new hl1 hl2;refine Zb6 D hz hTI hTO h1 h2 p1 p2 (x:=u) (y:=v) (by simpa using hu) (by simpa using hv) λh' a1 a2 a3 a4 a5 a6 hk => ?_
  refine⟨_,rfl,wpAny_letOwnedTupleGo_zip a1 λh2' hz2 hs2 => ?_⟩;have hs2:Heap.SameBut (n+4) h' h2':=hs2;have hzl:n+4<s.heap.objs.size:=Heap.lt_size hz;have hT2:h2'.get? s.heap.objs.size=some { cls := .type "tuple",data := .seq #[u,v] }:=(hs2.2 _ (Nat.ne_of_gt hzl)).trans a5;have k2:∀b o,b≠n+4->b≠n+3->b≠n->b≠n+1->s.heap.get? b=some o->h2'.get? b=some o:=λb o b1 b2 b3 b4 q=>(hs2.2 b b1).trans (hk b o b1 b2 b3 b4 q)
  have hTn:H s.heap.objs.size=none:=I.hok.fresh (Nat.le_refl _);have neT:∀b o,s.heap.get? b=some o->b≠s.heap.objs.size:=λb o q=>Nat.ne_of_lt (Heap.lt_size q)
  have hF:∀b,b=n+4\/b=n+3\/b=n\/b=n+1->XO X pins H b:=λb hb=>hf b (by rcases hb with rfl|rfl|rfl|rfl<;>simp)
  have I2:Inv X pins σ (upd H s.heap.objs.size (.tup [x,y])) { s with heap:=h2' }:=by
   refine I.step (g':=s.gens) (d':=s.drawn) (t':=s.toks) (ch:=[n+4,n+3,n,n+1]) (λb hb => ?_) (λb o _ _ hcb q _ => ?_) (λb o _ _ hcb q _ => ?_) (λb o hcb q m => ?_) (λb o hcb q => ?_) (λb xs q => ?_) (λb o v q => ?_) (λb ps q => ?_) (λm hm => ?_) (λb o q => ?_) I.bare
   · obtain⟨e0,e1,e2,e3,e4,e5⟩:=hF b (by simpa using hb)
     exact⟨e3,e1,e4,e5⟩
   · simp at hcb
     exact k2 b o hcb.1 hcb.2.1 hcb.2.2.1 hcb.2.2.2 q
   · simp at hcb
     exact⟨o.slots,k2 b o hcb.1 hcb.2.1 hcb.2.2.1 hcb.2.2.2 q⟩
   · rw [Ye (neT b o q)]
     exact m
   · simp at hcb
     exact⟨o,k2 b o hcb.1 hcb.2.1 hcb.2.2.1 hcb.2.2.2 q⟩
   · rw [Ye (Y7 q hTn)]
     exact q
   · rw [Ye (Y7 q hTn)]
     exact q
   · exact⟨#[],by rw [Ye (Y7 q hTn),q];simp⟩
   · obtain⟨o,es,ep,q,r⟩:=hm
     exact⟨o,es,ep,k2 _ o (Ne.symm (hF _ (.inl rfl)).2.1) (Ne.symm (hF _ (.inr (.inl rfl))).2.1) (Ne.symm (hF _ (.inr (.inr (.inl rfl)))).2.1) (Ne.symm (hF _ (.inr (.inr (.inr rfl)))).2.1) q,r⟩
   · by_cases hb:b=s.heap.objs.size
     · subst hb
       rw [YO]at q;cases q;refine⟨by show 2<=sizeLine;decide,[u,v],.cons ru (.cons rv .nil),?_⟩;exact⟨_,hT2,rfl,⟨_,rfl⟩,rfl⟩
     · rw [Ye hb]at q
       have nn:∀(b:Addr)(o:HO),H b=some o->b≠n+4/\b≠n+3/\b≠n/\b≠n+1:=λb o q=>by
        refine⟨λz => ?_,λz => ?_,λz => ?_,λz => ?_⟩
        · rw [z,(hF _ (.inl rfl)).1]at q;cases q
        · rw [z,(hF _ (.inr (.inl rfl))).1]at q;cases q
        · rw [z,(hF _ (.inr (.inr (.inl rfl)))).1]at q;cases q
        · rw [z,(hF _ (.inr (.inr (.inr rfl)))).1]at q;cases q
       refine(I.hok b o q).stay (λd v hd q' => ?_) (λd q'=>by rw [Ye (Y7 q' hTn)];exact q') λd xs q'=>by rw [Ye (Y7 q' hTn)];exact q'
       rcases hd with rfl|hd
       · exact k2 d v (nn d o q).1 (nn d o q).2.1 (nn d o q).2.2.1 (nn d o q).2.2.2 q'
       · exact k2 d v (nn d _ hd).1 (nn d _ hd).2.1 (nn d _ hd).2.2.1 (nn d _ hd).2.2.2 q'
  refine⟨.ref s.heap.objs.size,_,I2,rfl,⟨x,y,s.heap.objs.size,λzs hz=>by rw [I.seqQ_inj hz hq1];exact hx,λzs hz=>by rw [I.seqQ_inj hz hq2];exact hy,hTn,rfl,rfl⟩,⟨hz2,?_,⟨u,v,?_⟩,?_,?_⟩,λb hb => ?_⟩
  · exact hs2.extBut _ _ D.TIz (hk _ _ D.TIz D.TITO D.TIi1 D.TIi2 hTI)
  · exact hs2.extBut _ _ D.TOz a2
  · exact a3.ext hs2.extBut D.i1z
  · exact a4.ext hs2.extBut D.i2z
  · have hb0:H b=none:=(hf b hb).1
    have hbl:b<s.heap.objs.size:=by
     simp at hb;have hzl':n+4<s.heap.objs.size:=hzl;rcases hb with rfl|rfl|rfl|rfl|rfl
     · exact hzl'
     · exact Nat.lt_of_le_of_lt (Nat.add_le_add_left (by decide) n) hzl'
     · exact Nat.lt_of_le_of_lt (Nat.add_le_add_left (by decide) n) hzl'
     · exact Nat.lt_of_le_of_lt (Nat.le_add_right b 4) hzl'
     · exact Nat.lt_of_le_of_lt (Nat.add_le_add_left (by decide) n) hzl'
    rw [Ye (Nat.ne_of_lt hbl)];exact hb0
 done:=by
  intro X hP hw hK hc i pins s σ H E I hf st hg;subst hP hw hK;obtain⟨hz,hTI,⟨a,b',hTO⟩,h1,h2⟩:=st;obtain⟨xs,ys,hq1,hq2,hx⟩:=hg;obtain⟨its1,rv1,p1,_⟩:=I.seqQ hq1;obtain⟨its2,rv2,p2,_⟩:=I.seqQ hq2;have e1:=rv1.length;have e2:=rv2.length;have D:ZipApart (n+4) (n+2) (n+3) n (n+1) l1 l2:=zipApart_new hl1 hl2;have hF:∀b,b=n+4\/b=n+3\/b=n\/b=n+1->XO X pins H b:=λb hb=>hf b (by rcases hb with rfl|rfl|rfl|rfl<;>simp)
  refine Zcq (I.ok.hd hc) D hz hTI hTO h1 h2 p1 p2 (by
   rcases hx with hx|hx
   · exact .inl (by simp;omega)
   · exact .inr (by simp;omega)) λh' k2=>⟨rfl,?_⟩
  have nn:∀(b:Addr)(o:HO),H b=some o->b≠n+4/\b≠n+3/\b≠n/\b≠n+1:=λb o q=>by
   refine⟨λz => ?_,λz => ?_,λz => ?_,λz => ?_⟩
   · rw [z,(hF _ (.inl rfl)).1]at q;cases q
   · rw [z,(hF _ (.inr (.inl rfl))).1]at q;cases q
   · rw [z,(hF _ (.inr (.inr (.inl rfl)))).1]at q;cases q
   · rw [z,(hF _ (.inr (.inr (.inr rfl)))).1]at q;cases q
  refine I.step (g':=s.gens) (d':=s.drawn) (t':=s.toks) (ch:=[n+4,n+3,n,n+1]) (λb hb => ?_) (λb o _ _ hcb q _ => ?_) (λb o _ _ hcb q _ => ?_) (λ_ _ _ _ m=>m) (λb o hcb q => ?_) (λ_ _ e=>e) (λ_ _ _ e=>e) (λb ps e=>⟨#[],by rw [e];simp⟩) (λm hm => ?_) (λb o q => ?_) I.bare
  · obtain⟨e0,e1,e2,e3,e4,e5⟩:=hF b (by simpa using hb)
    exact⟨e3,e1,e4,e5⟩
  · simp at hcb
    exact k2 b o hcb.1 hcb.2.1 hcb.2.2.1 hcb.2.2.2 q
  · simp at hcb
    exact⟨o.slots,k2 b o hcb.1 hcb.2.1 hcb.2.2.1 hcb.2.2.2 q⟩
  · simp at hcb
    exact⟨o,k2 b o hcb.1 hcb.2.1 hcb.2.2.1 hcb.2.2.2 q⟩
  · obtain⟨o,es,ep,q,r⟩:=hm
    exact⟨o,es,ep,k2 _ o (Ne.symm (hF _ (.inl rfl)).2.1) (Ne.symm (hF _ (.inr (.inl rfl))).2.1) (Ne.symm (hF _ (.inr (.inr (.inl rfl)))).2.1) (Ne.symm (hF _ (.inr (.inr (.inr rfl)))).2.1) q,r⟩
  · refine(I.hok b o q).stay (λd v hd q' => ?_) (λ_ q=>q) λ_ _ q=>q
    rcases hd with rfl|hd
    · exact k2 d v (nn d o q).1 (nn d o q).2.1 (nn d o q).2.2.1 (nn d o q).2.2.2 q'
    · exact k2 d v (nn d _ hd).1 (nn d _ hd).2.1 (nn d _ hd).2.2.1 (nn d _ hd).2.2.2 q'
 self:=λ_ _ _ _ _ st h=>wpAny_pyIter_zip st.1 h
section
variable{X:Cx}{elts:List Expr}{x1:Nat}{tpos:Pos}
def Zh5(K:PySem.W.Frag)(ta:TA):TI:=λσ H R=>ta σ H λvs H1=>∃p q l1 l2 xs ys,vs=[.ref l1,.ref l2]/\SqQ p K H1 l1 xs/\SqQ q K H1 l2 ys/\R (ZkW p q K l1 l2) H1
theorem Zhi {K:PySem.W.Frag} {a b:Expr} {ta tb:TE} {po pos:Pos} (hg:Gl X "zip") (hm:X.mg "zip" = none) (ha:PE X a ta) (hb:PE X b tb) (hs:starEach [a,b] X.env=(false,eval a X.env)::starEach [b] X.env:=by rfl) (hs2:starEach [b] X.env=[(false,eval b X.env)]:=by rfl) (hK:X.K=K:=by rfl) :
 PI X (.Tuple elts x1 tpos) (.Call (.Name "zip" po) [a,b] [] pos) (Zh5 K (Xk ta (Xk tb tNil))):=by
 subst hK;intro pins s σ H R I h;refine Call_ (Qv I hg hm boot_zip (PyProof.Rows.callWith_type1 (thn ((Zd ha (Zd hb Zj hs2) hs) pos pins s σ H _ I h) λus s1 ⟨vs,H1,I1,r1,q1⟩ => ?_) (by rw [hs,hs2]) (by rw [hs2];rfl)));obtain⟨p,q0,l1,l2,xs,ys,e,hq1,hq2,q⟩:=q1;subst e;cases r1 with
 |cons r rr=>
  cases rr with
  |cons r' rr'=>
   cases rr';cases r;cases r';obtain⟨its1,rv1,p1,_⟩:=I1.seqQ hq1;obtain⟨its2,rv2,p2,_⟩:=I1.seqQ hq2;have lt1:l1<s1.heap.objs.size:=p1.lt;have lt2:l2<s1.heap.objs.size:=p2.lt;refine ZeM p1 p2 λh' hz hTI hTO h1 h2 k => ?_
   refine wpAny_pyIter_zip hz ?_;have I2:Inv X pins σ H1 { s1 with heap:=h' }:=I1.kept (t':=s1.toks) k;refine⟨s1.heap.objs.size+4,[s1.heap.objs.size+4,s1.heap.objs.size+2,s1.heap.objs.size+3,s1.heap.objs.size,s1.heap.objs.size+1],_,_,H1,rfl,I2,ZeN s1.heap.objs.size l1 l2 lt1 lt2,⟨hz,hTI,⟨_,_,hTO⟩,h1,h2⟩,λb hb => ?_,q⟩
   have hb':s1.heap.objs.size<=b:=by
    simp at hb;rcases hb with rfl|rfl|rfl|rfl|rfl
    · exact Nat.le_add_right _ _
    · exact Nat.le_add_right _ _
    · exact Nat.le_add_right _ _
    · exact Nat.le_refl _
    · exact Nat.le_add_right _ _
   exact I1.fpOk hb' (I1.hok.fresh hb')
end
end L2
namespace DL
open PySem PySem.Spec L2
section
variable{cA:Kn}{G:Cn}{ow:List Nat}
theorem ZcY{k:Bool}{K:PySem.W.Frag}{H H':Hp}{a:Addr}{xs:List V}(e:Same H H')(h:SqQ k K H a xs):SqQ k K H' a xs:=by
 cases k with
 |false=>exact Same.seq e h
 |true=>
  rcases h with(h|⟨o,h⟩)|h
  · exact .inl (.inl (e _ _ h))
  · exact .inl (.inr ⟨o,e _ _ h⟩)
  · exact .inr h
theorem Zdo{p0 q0:Bool}{iv:Addr->Prop}{H0:Hp}{a b:Addr}{vs ws:List V}{xs ys:List D}(rd:SqQ p0 cA.K H0 a vs)(l:RepL cA iv H0 xs vs)(rd2:SqQ q0 cA.K H0 b ws)(l2:RepL cA iv H0 ys ws):Qb cA iv (ZkW p0 q0 cA.K a b) (X2 xs ys) H0:=λH s=>by
 have rd':SqQ p0 cA.K H a vs:=ZcY s rd;have rd2':SqQ q0 cA.K H b ws:=ZcY s rd2;refine⟨λi hi => ?_,λi x v H' hx y => ?_,λi hi=>⟨vs,ws,rd',rd2',?_⟩⟩
 · rw [Zad]at hi
   obtain⟨v,hv,_⟩:=l.get (List.getElem?_eq_getElem (show i<xs.length by omega));obtain⟨u,hu,_⟩:=l2.get (List.getElem?_eq_getElem (show i<ys.length by omega));exact⟨vs,ws,v,u,rd',rd2',hv,hu⟩
 · obtain⟨z1,z2,p,hz1,hz2,hp,rfl,rfl⟩:=y
   have hi:i<(X2 xs ys).length:=(List.getElem?_eq_some_iff.mp hx).1;rw [Zad]at hi;have e1:=List.getElem?_eq_getElem (show i<xs.length by omega);have e2:=List.getElem?_eq_getElem (show i<ys.length by omega);rw [ZcX xs ys i _ _ e1 e2]at hx;cases hx;obtain⟨v1,hv1,r1⟩:=l.get e1;obtain⟨v2,hv2,r2⟩:=l2.get e2;rw [hz1 vs rd']at hv1;rw [hz2 ws rd2']at hv2;cases hv1;cases hv2;refine⟨YV hp,λav' h1 h2 => ?_⟩
   unfold Rep;exact⟨p,_,rfl,λz=>h1 p z hp,YO,.cons (((r1.av h2).same s).same (YV hp)) (.cons (((r2.av h2).same s).same (YV hp)) .nil)⟩
 · rw [Zad]at hi
   rw [<-l.length,<-l2.length];omega
def JF:D->Option (List D)
 | .lst xs=>some xs
 | .tup xs=>some xs
 |_=>none
def JG(ε1 ε2:Env->Option D)(δ:Env):Option (List D):=match ε1 δ,ε2 δ with
 |some x,some y=>match JF x,JF y with
  |some xs,some ys=>some (X2 xs ys)
  |_,_=>none
 |_,_=>none
theorem ZbT{av:Addr->Prop}{A:Nat->Option Addr}{H:Hp}{d:D}{xs:List D}{v:V}(h:JF d=some xs)(r:Rep cA (AV av A) H d v):∃k a vs,v = .ref a/\SqQ k cA.K H a vs/\SqQ k cA.K (cut A H) a vs/\RepL cA (AV av A) H xs vs:=by
 cases d<;>first|(cases h;done)|skip
 · cases h
   obtain⟨a,vs,rfl,na,rd,l⟩:=r;exact⟨false,a,vs,rfl,rd,ZdA na rd λb o n e=>by rw [UJ λ⟨i,z⟩=>n (.inr ⟨i,z⟩)];exact e,l⟩
 · cases h
   obtain⟨a,vs,rfl,na,rd,l⟩:=r;exact⟨true,a,vs,rfl,SqT.of rd,SqT.of (by rw [UJ λ⟨i,z⟩=>na (.inr ⟨i,z⟩)];exact rd),l⟩
theorem Zhj{ta tb:TE}{ε1 ε2:Env->Option D}(h1:VE G ow ta .cl ε1)(h2:VE G ow tb .cl ε2):VI G ow (Zh5 G.1.K (Xk ta (Xk tb tNil))) (JG ε1 ε2):=λH0 av A σ H δ E xs e R k=>by
 unfold JG at e;cases he1:ε1 δ with
 |none=>rw [he1]at e;cases e
 |some d1=>
  cases he2:ε2 δ with
  |none=>rw [he1,he2]at e;cases e
  |some d2=>
   rw [he1,he2]at e;dsimp only at e;cases hs1:JF d1 with
   |none=>rw [hs1]at e;cases e
   |some x1=>
    cases hs2:JF d2 with
    |none=>rw [hs1,hs2]at e;cases e
    |some x2=>
     rw [hs1,hs2]at e;cases e;refine h1 H0 av A σ H δ E _ he1 _ λv H1 s1 r1 => ?_
     refine h2 H0 av A σ H1 δ (E.mono s1) _ he2 _ λv2 H2 s2 r2 => ?_
     obtain⟨p,a,vs,rfl,rd,rdc,l⟩:=ZbT hs1 (RepT.r (r1.same s2));obtain⟨q,b,ws,rfl,rd2,rdc2,l2⟩:=ZbT hs2 (RepT.r r2);exact⟨p,q,a,b,vs,ws,rfl,rd,rd2,k _ H2 (s1.trans s2) (Zdo rdc l.cut rdc2 l2.cut)⟩
end
end DL
namespace DL
open PySem PySem.Spec PyProof.Rows L2
section
variable{X:Cx}{K:PySem.W.Frag}{cA:Kn}
variable{G:Cn}{ow:List Nat}
open Classical in
end
end DL
namespace DL
open PySem PySem.Spec L2
section
variable{cA:Kn}{av:Addr->Prop}{H:Hp}
end
section
variable{G:Cn}{ow owN owB owC ow1:List Nat}{H0 H:Hp}{av:Addr->Prop}{A:Nat->Option Addr}{σ:L2.St}{δ:Env}
end
end DL
namespace L2
open PySem PySem.Spec PyProof.Rows
section
variable{X:Cx}
end
end L2
namespace DL
open PySem PySem.Spec L2
section
variable{G:Cn}{ow owN owB owC ow1:List Nat}
open Classical in
end
end DL
namespace L2
open PySem PySem.Spec PyProof.Rows
section
variable{X:Cx}
end
end L2
namespace DL
open PySem PySem.Spec L2
section
variable{G:Cn}{ow owN owB owC ow1:List Nat}
def QS(γ:D->Env->Option Env)(ε:Env->Option D)(δ:Env):Option Out:=match ε δ with
 |some d=>match γ d δ with
  |some δ'=>some (.nx δ')
  |none=>none
 |none=>none
theorem Zhk{te:TE}{g:TG}{γ:D->Env->Option Env}{ε:Env->Option D}(h:VE G ow te .cl ε)(hg:VG G ow ow g γ):VS G ow ow owB owC (VC te g) (QS γ ε):=λH0 av A σ H δ E o e De k=>by
 unfold QS at e;cases he:ε δ with
 |none=>rw [he]at e;cases e
 |some d=>
  rw [he]at e;dsimp only at e;cases hγ:γ d δ with
  |none=>rw [hγ]at e;cases e
  |some δ'=>
   rw [hγ]at e;cases e;refine h H0 av A σ H δ E d he _ λv H1 s1 r1 => ?_
   exact hg H0 av A σ H1 δ (E.mono s1) d v (RepT.r r1) δ' hγ _ λA' σ' H' s' E'=>k A' σ' H' E'
end
end DL
namespace DL
open PySem PySem.Spec L2
section
variable{cA:Kn}{G:Cn}{ow owN owB owC:List Nat}
end
end DL
namespace DL
open PySem PySem.Spec L2
section
variable{X:Cx}{cA:Kn}
open Classical in
end
end DL
namespace DL
open PySem PySem.Spec L2
section
variable{cA:Kn}{G:Cn}{ow owN owB owC ow1:List Nat}{i:Nat}{H0 H H':Hp}{av:Addr->Prop}{A:Nat->Option Addr}{σ:L2.St}{δ:Env}
open Classical in
end
end DL
namespace DL
open PySem PySem.Spec L2
section
variable{cA:Kn}{G:Cn}{ow owN owB owC ow1:List Nat}{i:Nat}{H0 H H':Hp}{av:Addr->Prop}{A A':Nat->Option Addr}{σ σ':L2.St}{δ δ1:Env}
end
end DL
namespace DL
open PySem PySem.Spec L2
section
variable{cA:Kn}{G:Cn}{ow owN owB owC ow1:List Nat}{i:Nat}
open Classical in
end
end DL
namespace DL
open PySem PySem.Spec L2
section
variable{G:Cn}{ow ow1:List Nat}
end
end DL
namespace L2
open PySem PySem.Spec PyProof.Rows
theorem JH{x:Str}{c:Addr}:∀(names:List (Str×NameKind))(n:Nat)(acc:List (Str×Addr)),(cellsFrom n names acc).lookup x=some c->(n<=c/\(x,NameKind.cell)∈names)\/acc.lookup x=some c
 | [],n,acc,h => .inr h
 |(y,k)::r,n,acc,h=>by
  unfold cellsFrom at h
  by_cases hk:(k == .cell)=true
  · rw [if_pos hk]at h
    have hk':k = .cell:=by simpa using hk
    subst hk';rcases JH r (n+1) _ h with⟨h1,h2⟩|h1
    · exact .inl ⟨by omega,List.mem_cons_of_mem _ h2⟩
    · rw [List.lookup_cons]at h1
      cases hx:x == y with
      |true=>
       rw [hx]at h1;have e:n=c:=Option.some.inj h1;have e2:x=y:=eq_of_beq hx;subst e2;exact .inl ⟨by omega,List.mem_cons_self⟩
      |false=>rw [hx]at h1;exact .inr h1
  · rw [if_neg hk]at h
    rcases JH r n acc h with⟨h1,h2⟩|h1
    · exact .inl ⟨h1,List.mem_cons_of_mem _ h2⟩
    · exact .inr h1
theorem Zaf{x:Str}{c:Addr}:∀(names:List (Str×NameKind))(n:Nat)(acc:List (Str×Addr)),(x,NameKind.cell)∈names->(cellsFrom n names acc).lookup x=some c->n<=c
 |(y,k)::r,n,acc,hm,h=>by
  unfold cellsFrom at h
  by_cases hk:(k == .cell)=true
  · rw [if_pos hk]at h
    rcases List.mem_cons.mp hm with e|e
    · cases e
      rcases JH r (n+1) _ h with⟨h1,_⟩|h1
      · omega
      · rw [List.lookup_cons]at h1
        simp at h1;exact Nat.le_of_eq h1
    · have:=Zaf r (n+1) _ e h
      omega
  · rw [if_neg hk]at h
    rcases List.mem_cons.mp hm with e|e
    · cases e
      exact absurd rfl hk
    · exact Zaf r n acc e h
theorem cellsFrom_some{x:Str}:∀(names:List (Str×NameKind))(n:Nat)(acc:List (Str×Addr)),((x,NameKind.cell)∈names\/∃c,acc.lookup x=some c)->∃c,(cellsFrom n names acc).lookup x=some c
 | [],n,acc,h=>h.elim (λz=>nomatch z) id
 |(y,k)::r,n,acc,h=>by
  unfold cellsFrom
  by_cases hk:(k == .cell)=true
  · rw [if_pos hk]
    refine cellsFrom_some r (n+1) _ ?_;cases hx:x == y with
    |true=>exact .inr ⟨n,by rw [List.lookup_cons,hx]⟩
    |false=>
     rcases h with h|⟨c,h⟩
     · rcases List.mem_cons.mp h with e|e
       · cases e
         simp at hx
       · exact .inl e
     · exact .inr ⟨c,by rw [List.lookup_cons,hx];exact h⟩
  · rw [if_neg hk]
    refine cellsFrom_some r n acc ?_;rcases h with h|h
    · rcases List.mem_cons.mp h with e|e
      · cases e
        exact absurd rfl hk
      · exact .inl e
    · exact .inr h
theorem Zab{x:Str}:∀(names:List (Str×NameKind))(n:Nat)(acc:List (Str×Addr)),(x,NameKind.cell)∉names->(cellsFrom n names acc).lookup x=acc.lookup x
 | [],_,_,_=>rfl
 |(y,k)::r,n,acc,h=>by
  unfold cellsFrom;have hr:(x,NameKind.cell)∉r:=λz=>h (List.mem_cons_of_mem _ z)
  by_cases hk:(k == .cell)=true
  · rw [if_pos hk,Zab r (n+1) _ hr,List.lookup_cons]
    have hk':k = .cell:=by simpa using hk
    cases hx:x == y with
    |true=>
     have e2:x=y:=eq_of_beq hx;exact absurd (by rw [e2,hk'];exact List.mem_cons_self) h
    |false=>rfl
  · rw [if_neg hk]
    exact Zab r n acc hr
theorem Zag{x y:Str}{c:Nat}:∀(names:List (Str×NameKind))(n:Nat)(acc:List (Str×Addr)),(∀(z:Str)(d:Nat),acc.lookup z=some d->d<n)->n<=c->(cellsFrom n names acc).lookup x=some c->(cellsFrom n names acc).lookup y=some c->x=y
 | [],n,acc,ha,hn,h1,h2=>by
  have:=ha x c h1;omega
 |(z,k)::r,n,acc,ha,hn,h1,h2=>by
  unfold cellsFrom at h1 h2
  by_cases hk:(k == .cell)=true
  · rw [if_pos hk]at h1 h2
    by_cases hc:c=n
    · subst hc
      have one:∀{w:Str},(cellsFrom (c+1) r ((z,c)::acc)).lookup w=some c->w=z:=λ{w} hw=>by
       rcases JH r (c+1) _ hw with⟨q,_⟩|q
       · omega
       · rw [List.lookup_cons]at q
         cases hx:w == z with
         |true=>exact eq_of_beq hx
         |false=>
          rw [hx]at q;have:=ha w c q;omega
      rw [one h1,one h2]
    · refine Zag r (n+1) _ (λw d hw => ?_) (by omega) h1 h2
      rw [List.lookup_cons]at hw;cases hx:w == z with
      |true=>rw [hx]at hw;have e:n=d:=Option.some.inj hw;exact Nat.lt_succ_of_le (Nat.le_of_eq e.symm)
      |false=>rw [hx]at hw;exact Nat.lt_succ_of_lt (ha w d hw)
  · rw [if_neg hk]at h1 h2
    exact Zag r n acc ha hn h1 h2
theorem Zac{lo:Nat}:∀(names:List (Str×NameKind))(h:Heap)(acc:List (Str×Addr)),(∀z d,acc.lookup z=some d->lo<=d->h.IsCell d none)->∀{x:Str}{c:Addr},(cellsFrom h.objs.size names acc).lookup x=some c->lo<=c->(pushCells h names).IsCell c none
 | [],h,acc,ha,x,c,h1,h2=>ha x c h1 h2
 |(z,k)::r,h,acc,ha,x,c,h1,h2=>by
  unfold cellsFrom at h1;unfold pushCells
  by_cases hk:(k == .cell)=true
  · rw [if_pos hk]at h1 ⊢
    have e:h.objs.size+1=(h.push { cls := .type "cell",data := .cell none }).objs.size:=(Heap.size_push ..).symm;rw [e]at h1;refine Zac r _ _ (λw d hw hd => ?_) h1 h2;rw [List.lookup_cons]at hw;cases hx:w == z with
    |true=>
     rw [hx]at hw;have q:h.objs.size=d:=Option.some.inj hw;rw [<-q];exact⟨_,Heap.get?_push_size _ rfl,rfl⟩
    |false=>
     rw [hx]at hw;exact(ha w d hw hd).keeps λb o e=>Heap.get?_push_of_some _ e
  · rw [if_neg hk]at h1 ⊢
    exact Zac r h acc ha h1 h2
theorem ZaD {M:Model} {A:Around} {E:Value->Shared->Prop} {s:Shared} {scope:Scope} {globals:Addr} {closure:List (Str×Addr)} {qual:Str} {func:Option Addr} {code:Value} {outer:Env} {builtins:Addr} {Q:Env->Shared->Prop}
 (hQ:Q (newEnv scope s.heap.objs.size globals (cellsFrom (s.heap.objs.size+1) scope.names closure) qual func code (some outer) builtins) { s with heap:=pushCells (s.heap.push { cls := .type "dict",data := .dict #[] }) scope.names }) :
 wpAny M A (newFunctionEnv scope globals closure [] qual func code (some outer) builtins) Q E s:=by
 simp only [newFunctionEnv,Option.isSome_some,if_true];refine wpAny_bind (wpAny_alloc ?_);refine wpAny_bind (wpAny_layCells _ (λname kind cells=>by cases hkc:kind == NameKind.cell<;>simp [hkc]) _ _ _ _ ?_);rw [show({ s with heap:=s.heap.push { cls := .type "dict",data := .dict #[] } }:Shared).heap.objs.size=s.heap.objs.size+1 from Heap.size_push ..];simp only [List.forIn_nil];exact wpAny_bind (wpAny_pure (wpAny_pure hQ))
structure CompSd(X:Cx)(scope:Scope)(tn cn:List Str)(js:List Nat):Prop where
 kind:scope.kind = .function
 own:∀y∈scope.names,y.2 = .cell->scope.names.lookup y.1=some .cell
 names:∀y∈scope.names,y.2 = .local->scope.names.lookup y.1=some .local
 free:∀y∈scope.names,y.2 = .free->X.env.kindOf y.1=some .cell\/X.env.kindOf y.1=some .free
 cap:∀(k:Nat)(x:Str),cn[k]? = some x->∃j,js[k]? = some j/\X.N[j]? = some x/\(X.env.kindOf x=some .cell\/X.env.kindOf x=some .free)/\scope.names.lookup x=some .free
 len:cn.length=js.length
def Zcg(onames:List (Str×NameKind))(oN:List Str)(names:List (Str×NameKind))(cn:List Str)(js:List Nat):Bool:=
 names.all (λy => !(y.2 == .cell)||(names.lookup y.1 == some .cell))&&names.all (λy => !(y.2 == .local)||(names.lookup y.1 == some .local)) &&
 names.all (λy => !(y.2 == .free)||(onames.lookup y.1 == some .cell||onames.lookup y.1 == some .free)) &&
 ((cn.zip js).all λp=>oN[p.2]? == some p.1&&(onames.lookup p.1 == some .cell||onames.lookup p.1 == some .free)&&names.lookup p.1 == some .free)&&(cn.length == js.length)
def Qh(X:Cx)(scope:Scope)(C:Addr):List (Str×Addr):=cellsFrom (C+1) scope.names (XQ X.env.cells scope.names [])
def QT(X:Cx)(scope:Scope)(N':List Str)(C:Addr)(s₂:Shared)(H₂:Hp)(fp:List Addr)(xe:Value->Shared->Prop):Cx:=
 { X with N:=N',s₀:=s₂,H₀:=H₂,env:=compEnvC scope (Qh X scope C) C X.env,outer:=X.stack,ex:=fp,fn:=λx=>scope.names.lookup x == some .cell,pn:=[],xe:=xe }
section
variable{X:Cx}{pins:List (Addr×Obj)}{σ:St}{H₂:Hp}{s₂:Shared}{scope:Scope}{tn cn:List Str}{js:List Nat}
theorem CompSd.clos(S:CompSd X scope tn cn js)(ok:X.Ok):∀y∈scope.names,y.2 = .free->∃c,X.env.cells.lookup y.1=some c:=λy hy e=>ok.has y.1 (S.free y hy e)
theorem Qi{C:Addr}(S:CompSd X scope tn cn js)(ok:X.Ok){x:Str}{c:Addr}(h:(Qh X scope C).lookup x=some c):(C+1<=c/\(x,NameKind.cell)∈scope.names)\/X.env.cells.lookup x=some c:=by
 rcases JH _ _ _ h with q|q
 · exact .inl q
 · exact .inr (Jj _ [] (S.clos ok) (λ_ z=>by cases z) q)
theorem Zan{env:Env}:∀{names:List (Str×NameKind)}{x:Str}{k:NameKind},(names.map λ(n,k)=>if(k == NameKind.free&&env.scope.kind == .function&&env.kindOf n == some .cell)then(n,NameKind.cell)else(n,k)).lookup x=some k ->
 (k = .cell\/k = .free)->(x,NameKind.free)∈names\/(x,NameKind.cell)∈names
 | [],_,_,h,_=>by simp at h
 |(n,k0)::r,x,k,h,hk=>by
  have ih := @Zan env r x k;have more:((x,NameKind.free)∈r\/(x,NameKind.cell)∈r)->(x,NameKind.free)∈(n,k0)::r\/(x,NameKind.cell)∈(n,k0)::r:=λz=>z.elim (λz => .inl (List.mem_cons_of_mem _ z)) λz => .inr (List.mem_cons_of_mem _ z)
  have h:List.lookup x ((if(k0 == NameKind.free&&env.scope.kind == .function&&env.kindOf n == some .cell)=true then(n,NameKind.cell)else(n,k0))::_)=_:=h
  by_cases hb:(k0 == NameKind.free&&env.scope.kind == .function&&env.kindOf n == some .cell)=true
  · rw [if_pos hb,List.lookup_cons]at h
    have e0:k0 = .free:=by
     simp only [Bool.and_eq_true]at hb;simpa using hb.1.1
    cases hx:x == n with
    |true=>
     have e:x=n:=eq_of_beq hx;subst e;subst e0;exact .inl List.mem_cons_self
    |false=>
     rw [hx]at h;exact more (ih h hk)
  · rw [if_neg hb,List.lookup_cons]at h
    cases hx:x == n with
    |true=>
     rw [hx]at h;have e:x=n:=eq_of_beq hx;have e0:k0=k:=Option.some.inj h;subst e;subst e0;rcases hk with hk|hk
     · subst hk;exact .inr List.mem_cons_self
     · subst hk;exact .inl List.mem_cons_self
    |false=>
     rw [hx]at h;exact more (ih h hk)
theorem ZfH{C:Addr}{fp:List Addr}{xe:Value->Shared->Prop}(S:CompSd X scope tn cn js)(I:Inv X pins σ H₂ s₂)(hC:s₂.heap.objs.size<=C)(hf:∀b∈fp,XO X pins H₂ b)(ho:∀b∈fp,∃o,s₂.heap.get? b=some o/\∀v,o.data ≠ .cell v) :
 (QT X scope (tn++cn) C s₂ H₂ fp xe).Ok where
 mod:=I.ok.mod
 kind:=S.kind
 glob:=I.ok.glob
 blt:=I.ok.blt
 above:=hC
 inj:=λx y c h1 h2=>by
  have old:∀{x:Str}{c:Nat},X.env.cells.lookup x=some c->Nat.lt c C:=λ{x c} h=>by
   obtain⟨v,o,q,_⟩:=I.cell x c h;exact Nat.lt_of_lt_of_le (Heap.lt_size q) hC
  rcases Qi S I.ok h1 with⟨q1,_⟩|q1
  · exact Zag scope.names (C+1) _ (λz d hz=>Nat.lt_succ_of_lt (old (Jj _ [] (S.clos I.ok) (λ_ z=>by cases z) hz))) q1 h1 h2
  · rcases Qi S I.ok h2 with⟨q2,_⟩|q2
    · exact absurd (Nat.lt_of_lt_of_le (Nat.lt_succ_of_lt (old q1)) q2) (Nat.lt_irrefl _)
    · exact I.ok.inj x y c q1 q2
 has:=λx hx=>by
  have hm:(x,NameKind.free)∈scope.names\/(x,NameKind.cell)∈scope.names:=by
   rcases hx with hx|hx
   · exact Zan (env:=X.env) (k:=.cell) hx (Or.inl (Eq.refl NameKind.cell))
   · exact Zan (env:=X.env) (k:=.free) hx (Or.inr (Eq.refl NameKind.free))
  refine cellsFrom_some _ _ _ ?_;rcases hm with hm|hm
  · exact .inr (ZaM _ _ (.inl hm))
  · exact .inl hm
 cab:=λx c h1 h2=>by
  have e:scope.names.lookup x=some .cell:=by
   have q:(scope.names.lookup x == some .cell)=true:=h1;simpa using q
  exact Nat.le_trans hC (Nat.le_of_succ_le (Zaf _ _ _ (PySem.mem_of_lookup e) h2))
 hd:=I.ok.hd
 frames:=I.ok.frames
 stk := .inl rfl
 exf:=λb hb=>by
  obtain⟨o,e,_⟩:=ho b hb;obtain⟨_,_,_,_,f4,_⟩:=hf b hb;have hbC:b<C:=Nat.lt_of_lt_of_le (Heap.lt_size e) hC;refine⟨Nat.ne_of_lt hbC,λx c h => ?_⟩;rcases Qi S I.ok h with⟨q,_⟩|q
  · exact Nat.ne_of_gt (Nat.lt_of_lt_of_le hbC (Nat.le_of_succ_le q))
  · exact f4 x c q
 bs:=I.bs
 bsz:=Nat.le_trans I.ok.bsz I.sz
 noex:=λb o e hb=>by
  obtain⟨_,_,_,f3,_,_⟩:=hf b hb;rcases f3 with z|z
  · exact I.ok.noex b o e z
  · exact absurd (Nat.lt_of_lt_of_le (Heap.lt_size (I.ok.bs b o e).1) z) (Nat.lt_irrefl _)
 exfs:=λb hb z=>by
  obtain⟨_,f1,f2,_,_,_⟩:=hf b hb;exact(List.mem_cons.mp (I.stkSub b z)).elim f1 f2
 funs:=I.stack
 frf:=I.stkFree
theorem Za5 {C:Addr} {fp:List Addr} {s:Shared} {H:Hp} {m:Str->Option Value} (S:CompSd X scope tn cn js) (I:Inv X pins σ H₂ s₂) (hf:∀b∈fp,XO X pins H₂ b)
 (u:Un (frs X.stack) fp H₂ H s₂.heap s.heap) :
 ∀(i:Nat)(x:Str)(v:V),(tn++cn)[i]? = some x->(blk tn.length σ js)[i]? = some (some v)->∃z,RelV v z/\ZmK (compEnvC scope (Qh X scope C) C X.env) s.heap m x z:=by
 intro i x v e1 e2;unfold blk at e2
 by_cases hi:i<tn.length
 · rw [List.getElem?_append_left (by simpa using hi),List.getElem?_replicate,if_pos hi]at e2
   cases e2
 · have hi':tn.length<=i:=by omega
   rw [List.getElem?_append_right hi']at e1;rw [List.getElem?_append_right (by simpa using hi'),List.length_replicate]at e2;obtain⟨j,hj,hN,hk,hm⟩:=S.cap _ _ e1;unfold Jk at e2;rw [List.getElem?_map,hj]at e2;have e3:(σ[j]?).getD none=some v:=Option.some.inj e2
   have e4:σ[j]? = some (some v):=by
    cases q:σ[j]? with
    |none=>rw [q]at e3;cases e3
    |some z=>rw [q]at e3;exact congrArg some e3
   obtain⟨m0,_,hl⟩:=I.loc
   have hv:Vis X.env.scope x:=by
    rcases hk with hk|hk
    · exact .inr (.inl hk)
    · exact .inr (.inr hk)
   obtain⟨z,rz,l⟩:=hl j x v hN e4 hv;refine⟨z,rz,?_⟩
   obtain⟨c,hc,ob,ho,hd⟩:∃c,X.env.cells.lookup x=some c/\s₂.heap.IsCell c (some z):=by
    rcases l with⟨k,_⟩|⟨_,c,hc,q⟩
    · rcases hk with hk|hk
      · rw [hk]at k;cases k
      · rw [hk]at k;cases k
    · exact⟨c,hc,q⟩
   have hnc:(x,NameKind.cell)∉scope.names:=λz=>by
    have q:=S.own _ z rfl;have q:scope.names.lookup x=some .cell:=q;rw [hm]at q;cases q
   obtain⟨c',hc'⟩:=ZaM (cells:=X.env.cells) (x:=x) scope.names [] (.inl (PySem.mem_of_lookup hm));have hcY:(Qh X scope C).lookup x=some c':=(Zab _ _ _ hnc).trans hc'
   have ec:c'=c:=by
    have:=Jj _ [] (S.clos I.ok) (λ_ z=>by cases z) hc';rw [hc]at this;exact(Option.some.inj this).symm
   subst ec;have nf:c'∉fp:=λhb=>(hf c' hb).2.2.2.2.1 x c' hc rfl
   obtain⟨sl,q⟩:=u.any ho (I.freeC x c' hc) nf;exact .inr ⟨Zay hm,c',hcY,⟨_,q,hd⟩⟩
theorem ZcZ(S:CompSd X scope tn cn js):(blk tn.length σ js).length=(tn++cn).length:=by
 unfold blk Jk;rw [List.length_append,List.length_append,List.length_replicate,List.length_map,S.len]
theorem Zcr {C:Addr} {fp:List Addr} {xe:Value->Shared->Prop} {s:Shared} {H:Hp} {σ':St} {pins':List (Addr×Obj)} (S:CompSd X scope tn cn js) (I:Inv X pins σ H₂ s₂) (hf:∀b∈fp,XO X pins H₂ b)
 (I':Inv (QT X scope (tn++cn) C s₂ H₂ fp xe) pins' σ' H s):Inv (QT X scope (tn++cn) C s₂ H₂ fp xe) pins' (blk tn.length σ js) H s:=by
 obtain⟨m,hn,_⟩:=id I'.loc;exact⟨I'.ok,I'.os,I'.bare,I'.base,⟨m,hn,λi x v e1 e2 _=>Za5 S I hf I'.base i x v e1 e2⟩,I'.cell,I'.free,I'.freeC,I'.pin,I'.hok,ZcZ S⟩
theorem Zcs {C D:Addr} {fp:List Addr} {xe:Value->Shared->Prop} {h:Heap} {tk:Nat} {ob:Obj} {m:Str->Option Value} (S:CompSd X scope tn cn js) (I:Inv X pins σ H₂ s₂) (hC:s₂.heap.objs.size<=C) (hD:s₂.heap.objs.size<=D) (hDC:D≠C)
 (hf:∀b∈fp,XO X pins H₂ b) (ho:∀b∈fp,∃o,s₂.heap.get? b=some o/\∀v,o.data ≠ .cell v) (k:∀b o,s₂.heap.get? b=some o->h.get? b=some o) (hn:h.Ns C m) (hob:h.get? D=some ob) (hcell:∀v,ob.data ≠ .cell v) (hcs:∀x c,(Qh X scope C).lookup x=some c->C+1<=c->h.IsCell c none) :
 Inv (QT X scope (tn++cn) C s₂ H₂ fp xe) [(D,ob)] (blk tn.length σ js) H₂ { s₂ with heap:=h,toks:=tk }:=by
 have ok:=ZfH (xe:=xe) S I hC hf ho;have u:Un (frs X.stack) fp H₂ H₂ s₂.heap h:=Un.kept k;refine⟨ok,rfl,I.bare,u,⟨m,hn,λi x v e1 e2 _=>Za5 (s:={ s₂ with heap:=h,toks:=tk }) S I hf u i x v e1 e2⟩,λx c e => ?_,I.hok.fresh hC,λx c e => ?_,λp hp => ?_,I.hok.kept k,ZcZ S⟩
 · rcases Qi S I.ok e with⟨z,_⟩|z
   · exact⟨none,hcs x c e z⟩
   · obtain⟨v,o,q,d⟩:=I.cell x c z
     exact⟨v,o,k c o q,d⟩
 · rcases Qi S I.ok e with⟨z,_⟩|z
   · exact I.hok.fresh (Nat.le_trans hC (Nat.le_of_succ_le z))
   · exact I.freeC x c z
 · have e : p = (D, ob) := by
    have:p∈([]:List (Addr×Obj))++[(D,ob)]:=hp;simpa using this
   subst e;refine⟨hob,I.hok.fresh hD,hDC,λz => ?_,hcell⟩;have z:D∈frs X.stack:=z;rcases List.mem_cons.mp (I.stkSub D z)with e|e
   · exact absurd (Nat.lt_of_lt_of_le I.lt (by rw [<-e];exact hD)) (Nat.lt_irrefl _)
   · exact I.nofs hD e
theorem ZbU {C D:Addr} {fp:List Addr} {xe:Value->Shared->Prop} {s:Shared} {H:Hp} {σ':St} {ys:List V} {its:List Value} {n:Nat} {h':Heap} (S:CompSd X scope tn cn js) (I:Inv X pins σ H₂ s₂) (hC:s₂.heap.objs.size<=C) (hD:s₂.heap.objs.size<=D) (hDC:D≠C)
 (hf:∀b∈fp,XO X pins H₂ b) (I':Inv (QT X scope (tn++cn) C s₂ H₂ fp xe) [(D,{ cls := .type "list",data := .seq its.toArray n })] σ' H s) (hv:Vals ys its) (hz:ys.length<=sizeLine) (hs:Heap.SameBut C s.heap h') :
 Inv X pins σ (upd H D (.lst ys)) { s with heap:=h' }:=by
 have pd:=I'.pin (D,{ cls := .type "list",data := .seq its.toArray n }) (List.mem_append_right _ List.mem_cons_self);have pd1:s.heap.get? D=some { cls := .type "list",data := .seq its.toArray n }:=pd.1;have pd2:H D=none:=pd.2.1;have hD':h'.get? D=some { cls := .type "list",data := .seq its.toArray n }:=(hs.2 D hDC).trans pd1;have hCf:H C=none:=I'.free;have old:∀b o,s₂.heap.get? b=some o->b≠C/\b≠D:=λb o e=>⟨Nat.ne_of_lt (Nat.lt_of_lt_of_le (Heap.lt_size e) hC),Nat.ne_of_lt (Nat.lt_of_lt_of_le (Heap.lt_size e) hD)⟩
 have u:=I'.base;have u:Un (frs X.stack) fp H₂ H s₂.heap s.heap:=u;refine I.call' (s':={ s with heap:=h' }) (ch:=fp) (H':=upd H D (.lst ys)) I'.os ⟨λb o e n hb hx => ?_,λb o e n hb hx => ?_,λb o e n hx => ?_,λb o e hx => ?_,λb xs e => ?_,λb o xs e => ?_,λb ps e => ?_⟩ (λb o e => ?_) I'.bare (λb hb => ?_)
 · exact(hs.2 b (old b o e).1).trans (u.keep b o e n hb hx)
 · obtain⟨sl,q⟩:=u.slot b o e n hb hx
   exact⟨sl,(hs.2 b (old b o e).1).trans q⟩
 · rw [Ye (old b o e).2]
   exact u.free b o e n hx
 · obtain⟨o',q⟩:=u.there b o e hx
   exact⟨o',(hs.2 b (old b o e).1).trans q⟩
 · have q:=u.tups b xs e
   rw [Ye (Y7 q pd2)];exact q
 · have q:=u.frzs b o xs e
   rw [Ye (Y7 q pd2)];exact q
 · obtain⟨more,q⟩:=u.tbls b ps e
   exact⟨more,by rw [Ye (Y7 q pd2)];exact q⟩
 · by_cases hb:b=D
   · subst hb
     rw [YO]at e;cases e;exact⟨hz,its,n,hv,hD'⟩
   · rw [Ye hb]at e
     refine(I'.hok b o e).stay (λc v hc q=>(hs.2 c ?_).trans q) (λc q=>by rw [Ye (Y7 q pd2)];exact q) λc xs q=>by rw [Ye (Y7 q pd2)];exact q
     rintro rfl
     rcases hc with rfl|hc
     · rw [hCf]at e;cases e
     · rw [hCf]at hc;cases hc
 · obtain⟨f0,f1,f2,f3,f4,f5⟩:=hf b hb
   exact⟨f3,f1,f4,f5⟩
end
section
variable{X:Cx}{tg iter elt:Expr}{ifs:List Expr}{scope:Scope}{pos:Pos}{wi:TI}{g:TG}{tt:TT}{te:TE}{tn cn:List Str}{js:List Nat}
abbrev Vv(X:Cx)(scope:Scope)(N':List Str)(C:Addr)(s₂:Shared)(H₂:Hp)(fp:List Addr):Cx:=QT X scope N' C s₂ H₂ fp λ_ _=>False
theorem ZaW {pins:List (Addr×Obj)} {σ:St} {H₂:Hp} {s₂:Shared} {it:Addr} {fp:List Addr} {tnx:Nat->Heap->Prop} {J:It} {E:Value->Shared->Prop} {RR:Value->Addr->Result->Shared->Prop} {W:Nat->Nat->List V->Hp->Prop} {m0:Nat}
 (hc:X.calm=true) (S:CompSd X scope tn cn js)
 (hg:∀C s₂ H₂ fp,PG (Vv X scope (tn++cn) C s₂ H₂ fp) tg g) (ht:∀C s₂ H₂ fp,PTs (Vv X scope (tn++cn) C s₂ H₂ fp) ifs tt) (he:∀C s₂ H₂ fp,PE (Vv X scope (tn++cn) C s₂ H₂ fp) elt te)
 (I2:Inv X pins σ H₂ s₂) (T:Turn X.prog X.w X.K tg J fp it tnx) (st2:tnx 0 s₂.heap) (f2:∀b∈fp,XO X pins H₂ b) (w0:W 0 m0 [] H₂)
 (turn:∀i m ys H,W i m ys H->(J.stop i H/\∀C D s its n σ',s₂.heap.objs.size<=C->s₂.heap.objs.size<=D->D≠C->Vals ys its->ys.length<=sizeLine ->
   Inv (Vv X scope (tn++cn) C s₂ H₂ fp) [(D,{ cls := .type "list",data := .seq its.toArray n })] σ' H s->RR (.ref D) C (.ok .next) s) \/
   (J.go i H/\∀x H',J.yld i H x H'->g x (blk tn.length σ js) H' λσ2 H2=>tt σ2 H2 λb H3=>
     if b=true then te σ2 H3 λy H4=>ys.length<sizeLine/\∃m',m'<m/\W (i+1) m' (ys++[y]) H4 else ∃m',m'<m/\W (i+1) m' ys H3)) :
 wpAny (model X.prog X.w) X.A (newList []) (λacc s₃=>wpAny (model X.prog X.w) X.A (newFunctionEnv scope X.env.globals (XQ X.env.cells scope.names []) [] X.env.qual none .none (some X.env)) (λcenv s₄=>
  codeAny (model X.prog X.w) X.A (.compStart (.ListComp elt [⟨tg,iter,ifs,0⟩] scope pos) 0 (.ref it) acc { cenv with scope:=relabel scope X.env }) (RR acc cenv.locals) s₄) E s₃) E s₂:=by
 refine wpAny_newObj_type (ZaD ?_);dsimp only;generalize hH2:s₂.heap.push { cls := .type "list",dict:=none,data := .seq ([]:List Value).toArray }=HH;have hCs:HH.objs.size=s₂.heap.objs.size+1:=by rw [<-hH2,Heap.size_push]
 have hDC:s₂.heap.objs.size≠HH.objs.size:=by rw [hCs];exact Nat.ne_of_lt (Nat.lt_succ_self _)
 have hC:s₂.heap.objs.size<=HH.objs.size:=by rw [hCs];exact Nat.le_succ _
 have hD:s₂.heap.objs.size<=s₂.heap.objs.size:=Nat.le_refl _;have hHe:HH.objs.size+1=(HH.push { cls := .type "dict",data := .dict #[] }).objs.size:=(Heap.size_push ..).symm
 have hcs:∀x c,(Qh X scope HH.objs.size).lookup x=some c->HH.objs.size+1<=c->(pushCells (HH.push { cls := .type "dict",data := .dict #[] }) scope.names).IsCell c none:=λx c hx hc=>by
  unfold Qh at hx;rw [hHe]at hx;refine Zac (lo:=HH.objs.size+1) _ _ _ (λz d hz hd => ?_) hx hc;obtain⟨v,o,q,_⟩:=I2.cell z d (Jj _ [] (S.clos I2.ok) (λ_ z=>by cases z) hz);exact absurd (Nat.lt_of_lt_of_le (Nat.lt_of_lt_of_le (Heap.lt_size q) hC) (Nat.le_of_succ_le hd)) (Nat.lt_irrefl _)
 have hns₁:(pushCells (HH.push { cls := .type "dict",data := .dict #[] }) scope.names).Ns HH.objs.size (λ_=>none):=(Heap.Ns.new HH (.type "dict")).keeps (pushCells_keeps _ _);generalize hh1:pushCells (HH.push { cls := .type "dict",data := .dict #[] }) scope.names=h₁ at hcs hns₁ ⊢
 have old:∀b o,s₂.heap.get? b=some o->h₁.get? b=some o:=λb o e=>by
  rw [<-hh1];exact pushCells_keeps _ _ b o (Heap.get?_push_of_some _ (hH2▸Heap.get?_push_of_some _ e))
 have hacc:h₁.get? s₂.heap.objs.size=some { cls := .type "list",dict:=none,data := .seq ([]:List Value).toArray }:=by
  rw [<-hh1];exact pushCells_keeps _ _ _ _ (Heap.get?_push_of_some _ (hH2▸Heap.get?_push_size _ rfl))
 have hob:=T.obj _ _ st2
 have I3:Inv (Vv X scope (tn++cn) HH.objs.size s₂ H₂ fp) [(s₂.heap.objs.size,{ cls := .type "list",dict:=none,data := .seq ([]:List Value).toArray })] (blk tn.length σ js) H₂ { s₂ with heap:=h₁ }:=
  Zcs (tk:=s₂.toks) S I2 hC hD hDC f2 hob old hns₁ hacc (λv z=>by cases z) hcs
 have st3:tnx 0 h₁:=T.keep _ _ _ st2 λb hb o e=>old b o e
 generalize hX':Vv X scope (tn++cn) HH.objs.size s₂ H₂ fp=X' at I3;generalize hs3:({ s₂ with heap:=h₁ }:Shared)=s3 at I3 ⊢;have st3':tnx 0 s3.heap:=by rw [<-hs3];exact st3
 have stat:∀{pins':List (Addr×Obj)}{H':Hp},(∀b∈fp,H' b=none)->(∀p∈pins',p.1=s₂.heap.objs.size)->∀b∈fp,XO X' pins' H' b:=λ{pins' H'} hn hp b hb=>by
  subst hX';obtain⟨o,e,_⟩:=hob b hb;obtain⟨f0,f1,f2',f3,f4,f5⟩:=f2 b hb;refine⟨hn b hb,Nat.ne_of_lt (Nat.lt_of_lt_of_le (Heap.lt_size e) hC),λz=>(List.mem_cons.mp (I2.stkSub b z)).elim f1 f2',.inl hb,λx c h => ?_,λp hpp => ?_⟩
  · rcases Qi S I2.ok h with⟨q,_⟩|q
    · exact Nat.ne_of_gt (Nat.lt_of_lt_of_le (Nat.lt_of_lt_of_le (Heap.lt_size e) hC) (Nat.le_of_succ_le q))
    · exact f4 x c q
  have:p∈pins':=by
   have q:p∈([]:List (Addr×Obj))++pins':=hpp;simpa using q
  rw [hp p this];exact Nat.ne_of_gt (Heap.lt_size e)
 have Qu:codeAny (model X.prog X.w) X.A (.compLoop (.ListComp elt [⟨tg,iter,ifs,0⟩] scope pos) 0 (.ref it) (.ref s₂.heap.objs.size) X'.env) (RR (.ref s₂.heap.objs.size) HH.objs.size) s3:=by
  refine Zb4 (λk s'=>∃i ys its n H',Inv X' [(s₂.heap.objs.size,{ cls := .type "list",data := .seq its n })] (blk tn.length σ js) H' s'/\Vals ys its.toList/\ys.length<=sizeLine/\tnx i s'.heap/\(∀b∈fp,H' b=none)/\W i k ys H') ?_ m0
   ⟨0,[],#[],0,H₂,I3,.nil,Nat.zero_le _,st3',λb hb=>(f2 b hb).1,w0⟩
  rintro k s4 ⟨i,ys,its,n,H4,I4,hv4,hz4,st4,fr4,w4⟩
  have eP:X'.prog=X.prog:=by rw [<-hX'];rfl
  have eW:X'.w=X.w:=by rw [<-hX'];rfl
  have eK:X'.K=X.K:=by rw [<-hX'];rfl
  have eA:X'.A=X.A:=by rw [<-hX'];rfl
  have eC:X'.calm=true:=by rw [<-hX'];exact hc
  have eE:X'.xe=λ_ _=>False:=by rw [<-hX'];rfl
  rcases turn i k ys H4 w4 with⟨stop,qn⟩|⟨go,step⟩
  · have z:=T.done X' eP eW eK eC i _ s4 (blk tn.length σ js) H4 (λ_ _=>False) I4 (stat fr4 (λp hp=>by simp at hp;rw [hp])) st4 stop
    rw [eA]at z;refine QE (thn z λr s5 ⟨hr,I5⟩ => ?_);subst hr;subst hX';exact qn _ _ s5 its.toList n _ hC hD hDC hv4 hz4 (by simpa using I5)
  · have z:=T.item X' eP eW eK eC i _ s4 (blk tn.length σ js) H4 (λ_ _=>False) I4 (stat fr4 (λp hp=>by simp at hp;rw [hp])) st4 go
    rw [eA]at z;refine QE (thn z λr s5 ⟨u,hr,h5⟩ => ?_);subst hr;refine QE (thn h5 λ_ s6 ⟨x,H6,I6,r6,y6,st6,fr6⟩ => ?_);have I6':=I6.pinned (stat fr6 (λp hp=>by simp at hp;rw [hp])) (T.obj _ _ st6);have hg':PG X' tg g:=by rw [<-hX'];exact hg _ _ _ _
    have ht':PTs X' ifs tt:=by rw [<-hX'];exact ht _ _ _ _
    have he':PE X' elt te:=by rw [<-hX'];exact he _ _ _ _
    have z7:=hg' _ s6 _ H6 x u _ I6' r6 (step x H6 y6);rw [eP,eW,eA,eE]at z7;refine QE (thn z7 λ_ s7 ⟨σ7,H7,I7,q7⟩ => ?_);have z8:=ht' _ s7 σ7 H7 _ I7 q7;rw [eP,eW,eA,eE]at z8;refine QE (thn z8 λok s8 ⟨H8,I8,q8⟩ => ?_)
    have key:∀{σ9:St}{H9:Hp}{s9:Shared}{its':Array Value}{n':Nat},Inv X' ([(s₂.heap.objs.size,{ cls := .type "list",data := .seq its' n' })]++VZ fp s6.heap) σ9 H9 s9 ->
     Inv X' [(s₂.heap.objs.size,{ cls := .type "list",data := .seq its' n' })] (blk tn.length σ js) H9 s9/\tnx (i+1) s9.heap/\∀b∈fp,H9 b=none:=λ{σ9 H9 s9 its' n'} I9=>by
     refine⟨?_,T.keep _ _ _ st6 λb hb o e=>(I9.pin (b,o) (List.mem_append_right _ (List.mem_append_right _ (Zai hb e)))).1,λb hb => ?_⟩
     · have I9':=I9.unpinned
       subst hX';exact Zcr S I2 f2 I9'
     · obtain⟨o,e,d⟩:=T.obj _ _ st6 b hb
       exact(I9.pin (b,o) (List.mem_append_right _ (List.mem_append_right _ (Zai hb e)))).2.1
    cases ok with
    |false=>
     rw [if_neg Bool.false_ne_true]at q8 ⊢;obtain⟨m',hm,w8⟩:=q8;obtain⟨I9,st9,fr9⟩:=key I8;exact⟨m',hm,i+1,ys,its,n,H8,I9,hv4,hz4,st9,fr9,w8⟩
    |true=>
     rw [if_pos rfl]at q8 ⊢;have z9:=he' _ s8 σ7 H8 _ I8 q8;rw [eP,eW,eA,eE]at z9;refine QE (thn z9 λv s9 ⟨y,H9,I9,r9,hl9,m',hm,w9⟩ => ?_);have pd:=I9.pin (s₂.heap.objs.size,{ cls := .type "list",data := .seq its n }) (List.mem_append_right _ (List.mem_append_left _ List.mem_cons_self));have hpl:s9.heap.PlainList s₂.heap.objs.size its:=⟨n,pd.1⟩
     have hlen:its.size=ys.length:=by rw [hv4.length];simp
     refine wpAny_list_append_plain (hsz:=by omega) hpl λh10 hl10 hs10 => ?_
     obtain⟨n10,e10⟩:=hl10;have I10:Inv X' (VZ fp s6.heap) σ7 H9 s9:=I9.pins_of λp hp=>I9.pin p (List.mem_append_right _ (List.mem_append_right _ hp))
     have nD:∀b∈fp,b≠s₂.heap.objs.size:=λb hb=>by
      obtain⟨o,e,_⟩:=hob b hb;exact Nat.ne_of_lt (Heap.lt_size e)
     have I11:Inv X' (VZ fp s6.heap) σ7 H9 { s9 with heap:=h10 }:=by
      refine I10.turned (t':=s9.toks) (it:=s₂.heap.objs.size) (λb o hb e=>(hs10.2 b hb).trans e) pd.2.1 pd.2.2.1 ?_ ?_ ?_
      · subst hX';exact .inr (Nat.le_refl _)
      · subst hX'
        intro x c h;rcases Qi S I2.ok h with⟨z,_⟩|z
        · exact Nat.ne_of_gt (Nat.lt_of_lt_of_le (Nat.lt_of_lt_of_le (Nat.lt_succ_self _) (Nat.le_of_eq hCs.symm)) (Nat.le_of_succ_le z))
        · obtain⟨v',o',q,_⟩:=I2.cell x c z
          exact Nat.ne_of_lt (Heap.lt_size q)
      · intro p hp
        have hp':p∈VZ fp s6.heap:=by
         subst hX';have q:p∈([]:List (Addr×Obj))++VZ fp s6.heap:=hp;simpa using q
        exact nD _ (ZbF hp').1
     have I12:Inv X' ([(s₂.heap.objs.size,{ cls := .type "list",data := .seq (its.push v) n10 })]++VZ fp s6.heap) σ7 H9 { s9 with heap:=h10 }:=I11.pins_of λp hp=>by
      rcases List.mem_append.mp hp with q|q
      · have e:p=(s₂.heap.objs.size,{ cls := .type "list",data := .seq (its.push v) n10 }):=by simpa using q
        subst e;exact⟨e10,pd.2.1,pd.2.2.1,pd.2.2.2.1,λv z=>by cases z⟩
      · exact I11.pin p (List.mem_append_right _ q)
     obtain⟨J1,J2,J3⟩:=key I12;refine⟨m',hm,i+1,ys++[y],its.push v,n10,H9,J1,?_,?_,J2,J3,w9⟩
     · have:(its.push v).toList=its.toList++[v]:=by simp
       rw [this];exact hv4.append (.cons r9 .nil)
     · rw [List.length_append,List.length_singleton]
       omega
 have eEnv:({ newEnv scope HH.objs.size X.env.globals (cellsFrom (HH.objs.size+1) scope.names (XQ X.env.cells scope.names [])) X.env.qual none .none (some X.env) builtinsNs with scope:=relabel scope X.env }:Env)=X'.env:=by rw [<-hX'];rfl
 have loop2:=Qu;rw [<-eEnv]at Qu loop2;exact codeAny_compStart_list Qu (T.self X.A 0 s3 _ _ st3' loop2)
theorem Uc (hc:X.calm=true) (S:CompSd X scope tn cn js) (hi:PI X tg iter wi)
 (hg:∀C s₂ H₂ fp,PG (Vv X scope (tn++cn) C s₂ H₂ fp) tg g) (ht:∀C s₂ H₂ fp,PTs (Vv X scope (tn++cn) C s₂ H₂ fp) ifs tt) (he:∀C s₂ H₂ fp,PE (Vv X scope (tn++cn) C s₂ H₂ fp) elt te)
 (hs:∀x,foldedSetIterable iter X.env x=pure x:=by intro _;rfl) :
 PE X (.ListComp elt [⟨tg,iter,ifs,0⟩] scope pos) (ZgD wi g tt te tn.length js):=by
 intro pins s σ H Q I h;rw [eval_ListComp];refine wpAny_comprehension_free (use:=none) (cl:=XQ X.env.cells scope.names []) rfl hs (Zaw (S.clos I.ok)) S.kind S.names (thn (hi pins s σ H _ I h) λv s1 h1=>thn h1 λitv s2 h2 => ?_);obtain⟨it,fp,tnx,J,H2,e,I2,T,st2,f2,W,⟨m0,w0⟩,turn⟩:=h2;subst e;refine ZaW (RR:=λacc C=>compPost (model X.prog X.w) X.A X.xe none (EP X pins σ Q) acc C) (W:=W) (m0:=m0) hc S hg ht he I2 T st2 f2 w0 λi m ys H w => ?_
 rcases turn i m ys H w with⟨stop,qn⟩|r
 · refine .inl ⟨stop,λC D s its n σ' hC hD hDC hv hz I' => ?_⟩
   obtain⟨m',hn,_⟩:=id I'.loc;refine⟨m',hn,λh' hs' => ?_⟩;have pd:=I'.pin (D,{ cls := .type "list",data := .seq its.toArray n }) (List.mem_append_right _ List.mem_cons_self);exact⟨.ref D,_,ZbU S I2 hC hD hDC f2 I' hv hz hs',rfl,qn D pd.2.1⟩
 · exact .inr r
end
end L2
namespace L2
open PySem PySem.Spec PyProof.Rows
section
variable{X:Cx}{scope:Scope}{tn cn:List Str}{js:List Nat}{tg iter elt:Expr}{ifs:List Expr}{pos spos pos':Pos}{wi:TI}{g:TG}{tt:TT}{te:TE}
theorem Zch {i:Nat} {x:Str} (hN:X.N.Nodup) (hi:X.N[i]? = some x) (hx:X.env.scope.names.lookup x=some .local) (hc:X.calm=true) (S:CompSd X scope tn cn js) (hI:PI X tg iter wi)
 (hg:∀C s₂ H₂ fp,PG (Vv X scope (tn++cn) C s₂ H₂ fp) tg g) (ht:∀C s₂ H₂ fp,PTs (Vv X scope (tn++cn) C s₂ H₂ fp) ifs tt) (he:∀C s₂ H₂ fp,PE (Vv X scope (tn++cn) C s₂ H₂ fp) elt te)
 (hsw:swapsWith (.ListComp elt [⟨tg,iter,ifs,0⟩] scope pos) (some (.Name x pos')) spos.line X.env=pure true:=by rfl)
 (hs:∀x,foldedSetIterable iter X.env x=pure x:=by intro _;rfl) :
 PS X (.Assign [.Name x pos'] (.ListComp elt [⟨tg,iter,ifs,0⟩] scope pos) spos) (VC (ZgD wi g tt te tn.length js) (VB i)):=by
 intro pins s σ H D I h;rw [exec_Assign_Name_used _ _ _ _ hsw];refine wpAny_bind (wpAny_standAt (wpAny_bind ?_));show wpAny _ X.A (do let _ <-comprehension (.ListComp elt [⟨tg,iter,ifs,0⟩] scope pos) scope X.env _ (newList []) false (eval iter X.env) (some (assign (.Name x pos') X.env))) _ _ s
 refine wpAny_bind (wpAny_mono (wpAny_comprehension_free (use:=some (assign (.Name x pos') X.env)) (Q:=λ_ s'=>SP X pins D .next s') (cl:=XQ X.env.cells scope.names []) rfl hs (Zaw (S.clos I.ok)) S.kind S.names
  (thn (hI pins s σ H _ I h) λv s1 h1=>thn h1 λitv s2 h2 => ?_)) (λ_ s' hq=>wpAny_pure (wpAny_pure hq)) λ_ _ e=>e)
 obtain⟨it,fp,tnx,J,H2,e,I2,T,st2,f2,W,⟨m0,w0⟩,turn⟩:=h2;subst e;refine ZaW (RR:=λacc C=>compPost (model X.prog X.w) X.A X.xe (some (assign (.Name x pos') X.env)) (λ_ s'=>SP X pins D .next s') acc C) (W:=W) (m0:=m0) hc S hg ht he I2 T st2 f2 w0 λi' m ys H w => ?_
 rcases turn i' m ys H w with⟨stop,qn⟩|r
 · refine .inl ⟨stop,λC D' s its n σ' hC hD hDC hv hz I' => ?_⟩
   obtain⟨m',hn,_⟩:=id I'.loc;have pd:=I'.pin (D',{ cls := .type "list",data := .seq its.toArray n }) (List.mem_append_right _ List.mem_cons_self);have hCf:H C=none:=I'.free;have I1:Inv X pins σ (upd H D' (.lst ys)) { s with heap:=s.heap }:=ZbU S I2 hC hD hDC f2 I' hv hz (Heap.SameBut.refl _ _);show wpAny _ X.A (assign (.Name x pos') X.env (.ref D')) _ _ _;have hlC:X.env.locals≠C:=λz=>absurd (z▸I2.lt) (Nat.not_lt.mpr hC)
   have hcC:∀y c,X.env.cells.lookup y=some c->c≠C:=λy c e z=>by
    obtain⟨v',o',q,_⟩:=I2.cell y c e;exact absurd (Heap.lt_size q) (Nat.not_lt.mpr (z▸hC))
   refine wpAny_assign_Name (ZbE I1 hN hi (.inl hx) (v:=.ref D') rfl (λs3 I3 ⟨a,hsb,ha⟩ => ?_) (.inr hx))
   have hCa:C≠a:=by
    rcases ha with rfl|ha
    · exact Ne.symm hlC
    · exact Ne.symm (hcC _ _ ha)
   refine⟨m',hn.sameBut hsb hCa,λh' hs' => ?_⟩;have hCn:upd H D' (.lst ys) C=none:=by rw [Ye (Ne.symm hDC)];exact hCf
   have I4:Inv X pins (σ.set i (some (.ref D'))) (upd H D' (.lst ys)) { s3 with heap:=h',toks:=s3.toks }:=I3.turned (it:=C) (λb o hb e=>(hs'.2 b hb).trans e) hCn (Ne.symm hlC) (.inr (Nat.le_trans (Nat.le_trans I2.ok.above (Nat.le_of_lt I2.lt)) hC)) (λy c e=>hcC y c e) λp hp z=>by
    have:=(I2.pin p hp).1;exact absurd (Heap.lt_size this) (Nat.not_lt.mpr (z▸hC))
   exact⟨_,_,I4,qn D' pd.2.1⟩
 · exact .inr r
theorem CompSd.mkG{on:List (Str×NameKind)}(hk:scope.kind = .function)(ho:∀y,on.lookup y=some .cell\/on.lookup y=some .free->X.env.kindOf y=some .cell\/X.env.kindOf y=some .free)(h:Zcg on X.N scope.names cn js=true):CompSd X scope tn cn js:=by
 unfold Zcg at h;simp only [Bool.and_eq_true,List.all_eq_true]at h;obtain⟨⟨⟨⟨h1,h2⟩,h3⟩,h4⟩,h5⟩:=h;have hlen:cn.length=js.length:=by simpa using h5
 refine⟨hk,λy hy e=>by simpa [e]using h1 y hy,λy hy e=>by simpa [e]using h2 y hy,λy hy e=>ho _ (by simpa [e]using h3 y hy),λk x e => ?_,hlen⟩;have hkj:k<js.length:=hlen▸(List.getElem?_eq_some_iff.mp e).1;have:=h4 (x,js[k]) (List.mem_of_getElem? (i:=k) (List.getElem?_zip_eq_some.mpr ⟨e,by simp [hkj]⟩));simp only [Bool.and_eq_true,Bool.or_eq_true,beq_iff_eq]at this
 exact⟨js[k],by simp [hkj],this.1.1,ho _ this.1.2,this.2⟩
theorem CompSd.mk1{osc:Scope}{oN:List Str}(hk:scope.kind = .function)(ho:X.env.scope=osc)(hN:X.N=oN)(h:Zcg osc.names oN scope.names cn js=true):CompSd X scope tn cn js:=CompSd.mkG (on:=osc.names) hk (λy e=>by unfold Env.kindOf;rw [ho];exact e) (hN▸h)
end
end L2
namespace L2
open PySem PySem.Spec
theorem fsm {N P:List Str} {sc:Scope} (a:sc.kind = .function:=by rfl) (b:sc.isCoroutine=false:=by rfl) (c:sc.isGenerator=false:=by rfl) (d:N.Nodup:=by decide +kernel) (e:N.take P.length=P:=by rfl)
 (f:∀x∈P,sc.names.lookup x=some .local\/sc.names.lookup x=some .cell:=by decide +kernel) (g:∀y∈sc.names,y.2 ≠ .free:=by decide +kernel):FnScope N P sc:=⟨a,b,c,d,e,f,g⟩
structure Df(K:PySem.W.Frag)(x q:Str)(st:Stmt)(a:Addr)(fd:FuncData)(ps:List Str):Prop where
 f:FunX K x q st a fd
 b:Binds K fd ps []
 k:keepIn K (.ref a)=true
structure Dg(K:PySem.W.Frag)(mg:Str->Option Value)(x:Str)(st:Stmt)(a:Addr)(fd:FuncData)(ps:List Str):Prop extends Df K x x st a fd ps where
 g:mg x=some (.ref a)
structure Fg(K:PySem.W.Frag)(x:Str)(st:Stmt)(f:Addr)(fd:FuncData):Prop where
 a:nsIn K mainGlobals x=some (some (.ref f))
 l:Fun K x x st f fd
variable{K:PySem.W.Frag}{h:Heap}{mg:Str->Option Value}{x q:Str}{st:Stmt}{f:Addr}{fd:FuncData}{ps:List Str}
theorem Fun.df (F:Fun K x q st f fd) (b:∀(kV doc pm:Value)(an:Option Addr)(cdv ct:Value)(us:List Value),us.length=ps.length->bindArgs (fnOf x q (defArgs st) (defBody st) (defScope st) .none kV doc pm an cdv ct) ⟨us,[]⟩=pure (ps.zip us):=by
 intro _ _ _ _ _ _ us hl;rcases us with _|⟨_,_|⟨_,_|⟨_,_|⟨_,_|⟨_,_|⟨_,_|⟨_,_⟩⟩⟩⟩⟩⟩⟩<;>first|(exfalso;simp at hl;done)|rfl):Df K x q st f fd ps:=⟨F.x,F.binds b,F.kp⟩
theorem Fg.dg(F:Fg K x st f fd)(X:K.In h)(G:h.Ns mainGlobals mg)(D:Df K x x st f fd ps):Dg K mg x st f fd ps:=⟨D,mg_of X G F.a⟩
theorem Fg.of {oc:Value} {od an:Option Addr} {osl:Array (Option Value)} {kV doc pm cdv ct:Value} (a:nsIn K mainGlobals x=some (some (.ref f))) (l:K.lookup f=some ⟨oc,od,.func (fnOf x x (defArgs st) (defBody st) (defScope st) .none kV doc pm an cdv ct),osl⟩)
 (c:codeIn K cdv x=true) (k:keepIn K (.ref f)=true):Fg K x st f (fnOf x x (defArgs st) (defBody st) (defScope st) .none kV doc pm an cdv ct):=⟨a,fun_mk l c k⟩
end L2
namespace PySem
abbrev ZiQ(h:Heap)(z TI TO:Addr)(f0 f1:Value):Prop:=
 h.get? z=some { cls := .type "zip",dict:=none,data := .fields #[f0,f1,.bool false,.ref TI,.ref TO],slots := #[] }
section
variable{prog:Program}{w:World}{A:Around}{E:Value->Shared->Prop}{s:Shared}
structure ZipSt(h:Heap)(z TI TO i1 i2 l1 l2:Addr)(i:Nat):Prop where
 zip:∃f0 b,ZiQ h z TI TO f0 (.bool b)/\((f0 = .none/\b=false)\/∃T o,f0=rawInt (T:Nat)/\h.get? T=some o)
 TI:IsPair h TI (.ref i1) (.ref i2)
 TO:∃a b,IsPair h TO a b
 it1:h.IsListIter i1 l1 i
 it2:h.IsListIter i2 l2 i
end
end PySem
namespace L2
open PySem PySem.Spec PyProof.Rows
end L2
namespace L2
open PySem PySem.Spec PyProof.Rows
section
variable{X:Cx}
open Classical in
end
end L2
namespace DL
open PySem PySem.Spec L2
section
variable{cA:Kn}{G:Cn}{ow:List Nat}
end
end DL
namespace L2
open PySem PySem.Spec PyProof.Rows
end L2
namespace DL
open PySem PySem.Spec L2
end DL
namespace DL
open PySem PySem.Spec L2
section
variable{cA:Kn}{G:Cn}{ow owN owB owC:List Nat}{H0 H H':Hp}{av:Addr->Prop}{A:Nat->Option Addr}{σ:L2.St}{δ:Env}
end
end DL
namespace DL
open PySem PySem.Spec PyProof.Rows L2
section
variable{prog:Program}{w:World}{A:Around}{E:Value->Shared->Prop}{s:Shared}{l:Addr}{xs:Array (Int×Tok)}
end
section
variable{X:Cx}{K:PySem.W.Frag}{cA:Kn}
end
end DL
namespace DL
open PySem PySem.Spec L2
section
variable{cA:Kn}{G:Cn}{ow:List Nat}
def NewL(H0 H:Hp)(vs:List V):Prop:=∀v∈vs,∃b ws,v = .ref b/\H b=some (.lst ws)/\H0 b=none
theorem NewL.same{H0 H H':Hp}{vs:List V}(h:NewL H0 H vs)(s:Same H H'):NewL H0 H' vs:=λv hv=>let⟨b,ws,e,r,f⟩:=h v hv;⟨b,ws,e,s _ _ r,f⟩
mutual
theorem Rep.kind{av:Addr->Prop}{H H':Hp}:∀{d:D}{v:V},frz d=true->(∀b o,H b=some o->(∀vs,o ≠ .lst vs)->H' b=some o)->Rep cA av H d v->Rep cA av H' d v
 | .non,_,_,_,h=>h
 | .bl _,_,_,_,h=>h
 | .int _,_,_,_,h=>h
 | .str _,_,_,_,h=>h
 | .lst xs,v,hf,k,h=>by cases hf
 | .tup xs,v,hf,k,h=>by
  unfold DL.frz at hf;unfold Rep at h ⊢;obtain⟨a,vs,e,n,r,l⟩:=h;exact⟨a,vs,e,n,k _ _ r (λ_ z=>by cases z),RepL.kind hf k l⟩
 | .obj c ks xs,v,hf,k,h=>by
  unfold DL.frz at hf;unfold Rep at h ⊢;obtain⟨a,dx,vs,e,n,r,z,l⟩:=h;exact⟨a,dx,vs,e,n,k _ _ r (λ_ z=>by cases z),z,RepL.kind hf k l⟩
 | .dct ks xs,v,hf,k,h=>by cases hf
 | .dtt ks xs,v,hf,k,h=>by cases hf
theorem RepL.kind{av:Addr->Prop}{H H':Hp}:∀{xs:List D}{vs:List V},frzL xs=true->(∀b o,H b=some o->(∀vs,o ≠ .lst vs)->H' b=some o)->RepL cA av H xs vs->RepL cA av H' xs vs
 | [],_,_,_,h=>h
 |x::xs,vs,hf,k,h=>by
  unfold DL.frzL at hf;rw [Bool.and_eq_true]at hf;unfold RepL at h ⊢;obtain⟨v,r,e,h1,h2⟩:=h;exact⟨v,r,e,Rep.kind hf.1 k h1,RepL.kind hf.2 k h2⟩
end
structure Turned(H0 H H':Hp)(S:Addr->Prop):Prop where
 else_:∀b,¬S b->H' b=H b
 lst:∀b,S b->∃ws,H' b=some (.lst ws)
 old:∀b,S b->∃ws,H b=some (.lst ws)
 new:∀b,S b->H0 b=none
theorem Turned.kind{H0 H H':Hp}{S:Addr->Prop}(T:Turned H0 H H' S):∀b o,H b=some o->(∀vs,o ≠ .lst vs)->H' b=some o:=λb o e n=>by
 have hs:¬S b:=λz=>by
  obtain⟨ws,w⟩:=T.old b z;rw [w]at e;cases e;exact n ws rfl
 rw [T.else_ b hs];exact e
theorem Turned.same{H0 H H':Hp}{S:Addr->Prop}(T:Turned H0 H H' S)(s:Same H0 H):Same H0 H':=λb o e=>by
 have hs:¬S b:=λz=>by rw [T.new b z]at e;cases e
 rw [T.else_ b hs];exact s b o e
end
end DL
namespace DL
open PySem PySem.Spec L2
section
variable{cA:Kn}{G:Cn}{owN owB owC:List Nat}
theorem Turned.more{H0 H H':Hp}{S S':Addr->Prop}(T:Turned H0 H H' S)(hs:∀b,S b->S' b)(h1:∀b,S' b->∃ws,H b=some (.lst ws))(h2:∀b,S' b->H0 b=none):Turned H0 H H' S':=
 ⟨λb hb=>T.else_ b λz=>hb (hs b z),λb hb=>by
   by_cases z:S b
   · exact T.lst b z
   · rw [T.else_ b z];exact h1 b hb,h1,h2⟩
end
end DL
namespace PySem
open Sem (wp)
open AutoSeq1 (wpAny_loadPart')
section
variable{prog:Program}{w:World}{A:Around}{E:Value->Shared->Prop}{s:Shared}
end
end PySem
namespace L2
open PySem PySem.Spec PyProof.Rows
section
variable{X:Cx}{elts:List Expr}{x1:Nat}{tpos:Pos}
end
end L2
namespace DL
open PySem PySem.Spec L2
section
variable{cA:Kn}{G:Cn}{ow:List Nat}
end
end DL
namespace DL
open PySem PySem.Spec L2
section
variable{cA:Kn}{G:Cn}{ow owB owC:List Nat}
def JI:D->D->Option D
 | .lst a,.lst b=>Zjs (.lst a) (.lst b)
 |_,_=>none
theorem ZiR{ta tb:TE}{a b:Env->Option D}(ha:VE G ow ta .cl a)(hb:VE G ow tb .cl b):VF G ow (tOp (ZgM G.1.K) ta tb) (eOp JI a b):=λH0 av A σ H δ E d e Q k=>by
 obtain⟨x,y,ex,ey,ed⟩:=ZaF e;unfold JI at ed
 split at ed
 · rename_i xs ys
   dsimp only [Zjs]at ed
   by_cases hz:xs.length+ys.length<=sizeLine
   · rw [if_pos hz]at ed
     cases ed;refine ha H0 av A σ H δ E _ ex _ λv H1 s1 r1=>hb H0 av A σ H1 δ (E.mono s1) _ ey _ λw H2 s2 r2 => ?_
     obtain⟨a1,vs1,rfl,na,rd,l1⟩:=r1;obtain⟨a2,vs2,rfl,nb,rd2,l2⟩:=r2;refine .inr (.inr ⟨a1,a2,vs1,vs2,rfl,rfl,s2.seq rd,rd2,by rw [<-l1.length,<-l2.length];exact hz,λp hp=>k p _ _ H2 (s1.trans s2) hp ((l1.same s2).append l2) rfl⟩)
   · rw [if_neg hz]at ed;cases ed
 · cases ed
end
end DL
namespace DL
open PySem PySem.Spec L2 PyProof.Rows
section
variable{X:Cx}{cA:Kn}
open Classical in
end
section
variable{prog:Program}{w:World}{A:Around}{E:Value->Shared->Prop}{s:Shared}{l:Addr}{xs:Array (Int×Tok)}
end
section
variable{X:Cx}{K:PySem.W.Frag}{cA:Kn}
end
end DL
namespace L2
open PySem PySem.Spec PyProof.Rows Builtin Builtin.Str
section
variable{X:Cx}
end
end L2
namespace DL
open PySem PySem.Spec L2
variable{cA:Kn}
end DL
namespace DL
open PySem PySem.Spec L2
section
variable{cA:Kn}{G:Cn}{ow owN owB owC:List Nat}
theorem ER.nOwn{H0 H:Hp}{av:Addr->Prop}{A:Nat->Option Addr}{σ:L2.St}{δ:Env}(E:ER G ow H0 av A σ H δ){i:Nat}(hi:(ow.contains i)=false):A i=Option.none:=by
 cases h:A i with
 |none=>rfl
 |some a=>
  have:=E.dom i (by rw [h];exact λz=>by cases z);simp at hi;exact absurd this hi
inductive NewD(H0 H:Hp):List D->List V->Prop
 |nil:NewD H0 H [] []
 |cons {xs ds:List D} {vs ws:List V} {b:Addr} (h:H b=some (.lst ws)) (h0:H0 b=none) (hl:ws.length=ds.length) (r:NewD H0 H xs vs):NewD H0 H (.lst ds::xs) (.ref b::vs)
theorem NewD.same{H0 H H':Hp}(s:Same H H'):∀{xs:List D}{vs:List V},NewD H0 H xs vs->NewD H0 H' xs vs
 |_,_,.nil => .nil
 |_,_,.cons h h0 hl r => .cons (s _ _ h) h0 hl (NewD.same s r)
structure Hd(H HE H':Hp)(p0 p1 b0:Addr)(r1:List V):Prop where
 same:Same H H'
 kind:∀b o,HE b=some o->(∀vs,o ≠ .lst vs)->H' b=some o
 l0:∃v ws,H' p0=some (.lst (v::ws))
 l1:∃v ws,H' b0=some (.lst (v::ws))
 lp:H' p1=some (.lst (.ref b0::r1))
theorem Hd.turn{H HE H':Hp}{p0 p1 b0 c:Addr}{r1:List V}(h:Hd H HE H' p0 p1 b0 r1)(hc:c=p0\/c=b0)(h0:H c=none)(hE:∃ws,HE c=some (.lst ws))(hp:c≠p1)(v:V)(ws:List V):Hd H HE (upd H' c (.lst (v::ws))) p0 p1 b0 r1:=by
 refine⟨λb o e => ?_,λb o e n => ?_,?_,?_,?_⟩
 · have:b≠c:=λz=>by rw [z,h0]at e;cases e
   rw [Ye this];exact h.same b o e
 · have : b ≠ c := fun z => by
    obtain⟨ws,w⟩:=hE;rw [z,w]at e;cases e;exact n ws rfl
   rw [Ye this];exact h.kind b o e n
 · by_cases e:p0=c
   · subst e;exact⟨v,ws,YO⟩
   · rw [Ye e];exact h.l0
 · by_cases e:b0=c
   · subst e;exact⟨v,ws,YO⟩
   · rw [Ye e];exact h.l1
 · rw [Ye (Ne.symm hp)];exact h.lp
end
end DL
namespace L2
open PySem PySem.Spec PyProof.Rows
section
variable{prog:Program}{w:World}{A:Around}{E:Value->Shared->Prop}{s:Shared}{d it:Addr}{es:Array DictEntry}{ep i:Nat}{o:Obj}
end
section
variable{X:Cx}{tg:Expr}
end
end L2
namespace DL
open PySem PySem.Spec L2
section
variable{G:Cn}{ow ow1 owB owC:List Nat}{i:Nat}{H0 H H':Hp}{av:Addr->Prop}{A A':Nat->Option Addr}{σ σ':L2.St}{δ δ':Env}{a:Addr}
end
end DL
namespace DL
open PySem PySem.Spec L2
section
variable{G:Cn}{ow owB owC ow1:List Nat}
end
end DL
namespace L2
open PySem PySem.Spec PySem.W PyProof.Rows
def Zh6(K:PySem.W.Frag)(G:Addr)(tb:XK->TS)(ts:TS):TS:=λD σ H=>∃E:XK,tb E D σ H/\∀cls H',E cls none H'->∃C,cls = .ref C/\ExCls K C/\exmOne K (.ref C) (.ref G)=some true /\
 ∀ea,H' ea=none->ts D σ (upd H' ea (.ext (Xa ea (.ref C))))
section
variable{X:Cx}{G:Addr}{g:Str}{body suite:List Stmt}{b₀:Stmt}{gp hpos pos:Pos}{tb:XK->TS}{ts:TS}
theorem Zhl (hstk:X.stack=X.env::X.outer/\X.env.frame=some X.env.locals) (hg:Gl X g) (hm:X.mg g=some (.ref G))
 (hb:∀E,PSx X E body (tb E)) (hs:∀ea,PSs (X.suite ea) (b₀::suite) ts) (hdb:(g == ("__debug__" : Str))=false:=by decide) :
 PS X (.Try body [.ExceptHandler (some (.Name g gp)) none (b₀::suite) hpos] [] [] pos) (Zh6 X.K G tb ts):=by
 intro pins s σ H D I ⟨E,h⟩;refine wpAny_Try_except ?_;refine thn (hb E pins s σ H D _ I h.1 ?_) λfl s1 q => ?_
 · intro H2 s2 ev s' I2 ⟨ea,cls,a0,B,H',e,hos,hbare,hfl,hKB,hok,hsame,hfree,hup,hE⟩
   subst e;obtain⟨C,rfl,T,hx,hts⟩:=h.2 cls H' hE;have hfr:X.A.frames=some (X.env::X.outer):=by rw [<-hstk.1];exact I.ok.frames
   have hfl':Heap.FlyingW B (X.env::X.outer) ea (.ref C) a0 s'.heap:=hstk.1▸hfl;have hea:B.get? ea=none:=hfl.2.1
   have hnf:ea∉frs X.stack:=λz=>by
    obtain⟨_,o,h1,h2⟩:=hfl.2.2.1.mem z;obtain⟨oe,vs,h3,_,h4,_⟩:=hfl.first;rw [h1]at h3;cases h3;exact h2 vs h4
   have frnf:∀b o,s2.heap.get? b=some o->b∈frs X.stack->∀vs,o.data ≠ .fields vs:=λb o q z=>by
    obtain⟨_,o',h1,h2⟩:=I2.stack.mem z;have:o'=o:=Option.some.inj (h1.symm.trans q);exact this▸h2
   have at_:∀{hp:Heap}{g':Array GenState}{d':Drawn}{t':Nat},Heap.FlyingW B (X.env::X.outer) ea (.ref C) a0 hp->s'.heap.UpToSlots hp->AllBare g'->Inv X pins σ (upd H' ea (.ext (Xa ea (.ref C)))) ⟨hp,g',d',t',s'.os⟩/\H' ea=none:=λ{hp g' d' t'} f u hg'=>by
    refine Za3 (s':=⟨hp,g',d',t',s'.os⟩) I2 hos hg' f.1 hea hKB hok hsame hfree (λb o q z => ?_) f.there hnf;obtain⟨sl,q1⟩:=hup b o q z;obtain⟨sl2,q2⟩:=u b _ q1 (show ∀vs,({ o with slots:=sl }:Obj).data ≠ .fields vs from frnf b o q z);exact⟨sl2,q2⟩
   refine wpAny_looks_onW hfr hstk.2 hfl' λh4 hh4 u4 => ?_
   refine wpAny_landsW hh4 λh5 hf5 u5 => ?_
   obtain⟨I5,hn⟩:=at_ (hp:=h5) (g':=s'.gens) (d':=s'.drawn) (t':=s'.toks) hf5 (u4.trans u5) hbare;refine wpAny_handleBy_cons (codeAny_handlers_test (U6 (I5.suite ea) hg hm ?_ hdb)) (by intro q;cases q);refine(exm_one (M:=model X.prog X.w) (K:=X.K) I5.kIn (Qe (hf5.there)) hx).here ?_;show codeAny (model X.prog X.w) (X.A.mark (some (.ref ea))) _ _ _;refine codeAny_handlers_suite (lands_againW hf5 λh6 hf6 u6 => ?_)
   obtain⟨I6,_⟩:=at_ (hp:=h6) (g':=s'.gens) (d':=s'.drawn) (t':=s'.toks) hf6 ((u4.trans u5).trans u6) hbare;refine wpAny_mono (hs ea pins _ _ _ D (I6.suite ea) (hts ea hn)) (λfl s8 q8 => ?_) λ_ _ z=>z.elim
   cases fl with
   |next=>
    obtain⟨σ',H8,I8,q⟩:=q8;exact⟨_,H8,I8.unsuite I.ok,q⟩
   |brk=>
    obtain⟨σ',H8,I8,q⟩:=q8;exact⟨_,H8,I8.unsuite I.ok,q⟩
   |cont=>
    obtain⟨σ',H8,I8,q⟩:=q8;exact⟨_,H8,I8.unsuite I.ok,q⟩
   |ret u=>
    obtain⟨v,σ',H8,I8,r,q⟩:=q8;exact⟨v,_,H8,I8.unsuite I.ok,r,q⟩
 · cases fl with
   |next=>exact wpAny_execs_nil q
   |ret v=>exact q
   |brk=>exact q
   |cont=>exact q
end
def X3(cs:List Nat):List Nat:=(Txt.sliceBy (tx cs) none none (-1,0)).cps.toList
def ZmW(te:TE)(tst:TO):TE:=λσ H Q=>te σ H λx H1=>tst σ H1 λk H2=>∃cs,x=S cs/\k=some (-1)/\cs.length<=sizeLine/\Q (S (X3 cs)) H2
theorem ZiS{X:Cx}{e st:Expr}{te:TE}{tst:TO}{pos p2:Pos}(he:PE X e te)(hst:PO X (some st) tst):PE X (.Subscript e (.Slice none none (some st) p2) pos) (ZmW te tst):=by
 intro pins s σ H Q I h;refine Subscript_ (thn (he pins s σ H _ I h) λv s1 ⟨x,H1,I1,r1,q1⟩ => ?_);refine wpAny_Slice ?_;rw [evalPart_none];refine wpAny_pure ?_;refine wpAny_pure ?_;refine thn (hst pins s1 σ H1 _ I1 q1) λvk s3 ⟨k,H3,I3,pk,q3⟩ => ?_
 obtain⟨cs,rfl,rfl,hz,q⟩:=q3;obtain⟨t,rfl⟩:=r1;cases pk with
 |int i uk=>
 have I4:Inv X pins σ H3 { s3 with heap:=s3.heap.push { cls := .type "slice",data := .fields #[.none,.none,.int (-1) uk] } }:=I3.kept (t':=s3.toks) λb ob q=>Heap.get?_push_of_some _ q
 have e0:Txt.sliceBy (tx cs) none none (-1,uk)=tx (X3 cs):=by
  unfold X3;rw [Zfg];rfl
 show wpAny (model X.prog X.w) X.A (subscriptTail e (.Slice none none (some st) p2) (.str (tx cs) t) (.ref s3.heap.objs.size)) (EP X pins σ Q) X.xe { s3 with heap:=s3.heap.push { cls := .type "slice",data := .fields #[.none,.none,.int (-1) uk] } };refine tail_any (ops:=[.ref s3.heap.objs.size,.str (tx cs) t]) (T:="str") (typeIs_str _ _ _) F.slot_str_getitem.lookup ?_ (by with_unfolding_all rfl)
 refine wpAny_getItem_str_slice (l:=none) (u:=none) (st:=some (-1,uk)) ⟨_,Heap.get?_push_size _ rfl,rfl,rfl⟩ rfl (post_val_or_str ⟨?_,λt' c => ?_⟩)
 · exact Nat.le_trans (Txt.sliceBy_le (tx cs) none none (-1,uk) (show(-1:Int)≠0 by decide)) (by rw [Xl];exact hz)
 · exact⟨S (X3 cs),H3,I4.tok _,⟨t',by rw [<-e0];rfl⟩,q⟩
end L2
namespace DL
open PySem PySem.Spec L2
section
variable{cA:Kn}{G:Cn}{ow owB owC:List Nat}
def Qj(a:Env->Option D)(δ:Env):Option D:=match a δ with
 |some (.str cs)=>if cs.length<=sizeLine then some (.str (X3 cs))else none
 |_=>none
theorem ZiT{te:TE}{tst:TO}{q:Ql}{a:Env->Option D}(ha:VE G ow te q a)(hs:∀σ H(Q:Option Int->Hp->Prop),Q (some (-1)) H->tst σ H Q):VE G ow (ZmW te tst) .cl (Qj a):=λH0 av A σ H δ E d e Q k=>by
 unfold Qj at e
 split at e<;>try (cases e;done)
 rename_i cs he
 by_cases hz:cs.length<=sizeLine
 · rw [if_pos hz]at e
   cases e;refine ha H0 av A σ H δ E _ he _ λv H1 s1 r1=>hs _ _ _ ?_
   exact⟨cs,r1.any,rfl,hz,k _ H1 s1 rfl⟩
 · rw [if_neg hz]at e;cases e
def UP(φb:Env->Option Out)(χb:Env->Option String)(cl:List String)(i r:Nat)(tabs:List (List (String×Bool)))(ψ:Env->Option Out)(δ:Env):Option Out:=match χb δ with
 |some c=>if cl.contains c=true/\i<δ.length/\r<δ.length/\i≠r then(match Vt c tabs with
  |some bs=>if bs.length<=1000 then(match ψ ((δ.set r (some (.lst (bs.map D.bl)))).set i none)with
   |some (.nx δ')=>some (.nx (δ'.set i none))
   |_=>none)else none
  |none=>none)else none
 |none=>φb δ
theorem Zd3 {K:PySem.W.Frag} {Gd:Addr} {tb:XK->TS} {tr:TS} {φb ψ:Env->Option Out} {χb:Env->Option String} {ms:List (Addr->Addr->TE)} {tabs:List (List (String×Bool))} (cl:List String) (i r:Nat)
 (hi:ow.contains i=false) (hr:ow.contains r=false) (hni:G.2 i=none) (hnr:G.2 r=none) (hT:∀c∈cl,ExCls K (G.1.c c)/\PySem.W.exmOne K (.ref (G.1.c c)) (.ref Gd)=some true) (hI:Items K G.1 i ms tabs)
 (hb:∀E,VS G ow ow owB owC (tb E) φb) (hx:∀E,VXs G ow E (tb E) χb) (hv:VS G ow ow [] [] tr ψ):VS G ow ow owB owC (ZmV K Gd i tb (λC ea=>Qy (VC (Jf (JC ms C ea)) (VB r)) tr)) (UP φb χb cl i r tabs ψ):=λH0 av A σ H δ R o e De k=>by
 unfold UP at e;cases hc:χb δ with
 |none=>
  rw [hc]at e;exact⟨λ_ _ _=>False,hb _ H0 av A σ H δ R o e De k,λ_ _ z=>z.elim⟩
 |some c=>
  rw [hc]at e;dsimp only at e
  by_cases hz:cl.contains c=true/\i<δ.length/\r<δ.length/\i≠r
  · rw [if_pos hz]at e
    cases hs:Vt c tabs with
    |none=>rw [hs]at e;cases e
    |some bs=>
     rw [hs]at e;dsimp only at e
     by_cases hl:bs.length<=1000
     · rw [if_pos hl]at e
       cases hψ:ψ ((δ.set r (some (.lst (bs.map D.bl)))).set i none)with
       |none=>rw [hψ]at e;cases e
       |some o1=>
       rw [hψ]at e;cases o1 with
       |rt d=>cases e
       |bk d=>cases e
       |ct d=>cases e
       |nx δ'=>
       cases e;obtain⟨hT1,hT2⟩:=hT c (by simpa using hz.1);refine⟨λcls d H'=>cls = .ref (G.1.c c)/\Same H H',hx _ H0 av A σ H δ R c hc (λH' s=>⟨rfl,s⟩) De,λcls H' ⟨e1,s1⟩=>⟨G.1.c c,e1,hT1,hT2,λea hea => ?_⟩⟩;have hlen:i<σ.length:=by rw [R.len];exact hz.2.1
       have R1:=R.mono s1;have s2:Same H' (upd H' ea (.ext (Xa ea (.ref (G.1.c c))))):=YV hea;refine ZcV hT1 (List.getElem?_set_self hlen) hI hs _ YO _ λH3 s3=>⟨by rw [List.length_map];exact Nat.le_trans hl (by decide),λp hp => ?_⟩
       have R2:=(R1.mono s2).mono s3;have R3:=R2.mono (YV (o:=.lst (bs.map V.bl)) hp);have hnA:A r=none:=R.nOwn hr
       have rp:Rep G.1 (AV av A) (upd H3 p (.lst (bs.map V.bl))) (.lst (bs.map D.bl)) (.ref p):=by
        unfold Rep;refine⟨p,bs.map V.bl,rfl,λz=>((R2.avl p z) hp).elim,SqL.of YO,?_⟩;have:=RepL.of_vals (cA:=G.1) (av:=AV av A) (H:=upd H3 p (.lst (bs.map V.bl))) (xs:=bs.map D.bl) (by rw [List.all_map];exact List.all_eq_true.mpr λ_ _=>rfl);rw [List.map_map]at this;exact this
       have R4:=R3.none (i:=i) (x:=some (.ref ea)) hi hni
       have R5:ER G ow H0 av A ((σ.set i (some (.ref ea))).set r (some (.ref p))) (upd H3 p (.lst (bs.map V.bl))) ((δ.set r (some (.lst (bs.map D.bl)))).set i none):=by
        rw [List.set_comm _ _ (Ne.symm hz.2.2.2)];have R6:=R4.set (i:=r) (ow1:=ow) rp (λj=>⟨λh=>⟨h,λz=>(by rw [z]at h;simp at hr;exact hr h)⟩,λh=>h.1⟩) hnr
        have eA:(λj=>if j=r then none else A j)=A:=by
         funext j
         by_cases q:j=r
         · rw [if_pos q,q,hnA]
         · rw [if_neg q]
        rw [eA]at R6;exact R6
       refine hv H0 av A _ _ _ R5 (.nx δ') hψ _ λA' σ' H' E' => ?_
       exact k A' _ H' (E'.none (i:=i) (x:=none) hi hni)
     · rw [if_neg hl]at e;cases e
  · rw [if_neg hz]at e;cases e
def Qk(φb:Env->Option Out)(χb:Env->Option String)(cl:List String)(ψ:Env->Option Out)(δ:Env):Option Out:=match χb δ with
 |some c=>if cl.contains c=true then ψ δ else none
 |none=>φb δ
theorem Zhm {K:PySem.W.Frag} {Gd:Addr} {tb:XK->TS} {tr:TS} {φb ψ:Env->Option Out} {χb:Env->Option String} (cl:List String)
 (hT:∀c∈cl,ExCls K (G.1.c c)/\PySem.W.exmOne K (.ref (G.1.c c)) (.ref Gd)=some true)
 (hb:∀E,VS G ow ow owB owC (tb E) φb) (hx:∀E,VXs G ow E (tb E) χb) (hv:VS G ow ow owB owC tr ψ):VS G ow ow owB owC (Zh6 K Gd tb tr) (Qk φb χb cl ψ):=λH0 av A σ H δ R o e De k=>by
 unfold Qk at e;cases hc:χb δ with
 |none=>
  rw [hc]at e;exact⟨λ_ _ _=>False,hb _ H0 av A σ H δ R o e De k,λ_ _ z=>z.elim⟩
 |some c=>
  rw [hc]at e;dsimp only at e
  by_cases hz:cl.contains c=true
  · rw [if_pos hz]at e
    obtain⟨hT1,hT2⟩:=hT c (by simpa using hz);refine⟨λcls d H'=>cls = .ref (G.1.c c)/\Same H H',hx _ H0 av A σ H δ R c hc (λH' s=>⟨rfl,s⟩) De,λcls H' ⟨e1,s1⟩=>⟨G.1.c c,e1,hT1,hT2,λea hea => ?_⟩⟩;exact hv H0 av A σ _ δ ((R.mono s1).mono (YV hea)) o e De k
  · rw [if_neg hz]at e;cases e
end
end DL
namespace DL
open PySem PySem.Spec L2
theorem ZS(i j:Int):eqD (.int i) (.int j)=some (.bl (decide (i=j))):=by
 show(if(Yp (.int i)&&Yp (.int j)&&Vk (V.int i) (V.int j))=true then some (D.bl (decide (V.int i=V.int j)))else _)=_;rw [if_pos (by rfl)];simp
theorem ZU(a b:List Nat):eqD (.str a) (.str b)=some (.bl (decide (a=b))):=by
 show(if(Yp (.str a)&&Yp (.str b)&&Vk (S a) (S b))=true then some (D.bl (decide (S a=S b)))else _)=_;rw [if_pos (by rfl)];simp only [Zln]
theorem Z3(a b:Bool):eqD (.bl a) (.bl b)=some (.bl (decide (a=b))):=by
 show(if(Yp (.bl a)&&Yp (.bl b)&&Vk (V.bl a) (V.bl b))=true then some (D.bl (decide (V.bl a=V.bl b)))else _)=_;rw [if_pos (by rfl)];simp
theorem ZW:eqD .non .non=some (.bl true):=rfl
theorem ZX(i:Int):eqD .non (.int i)=some (.bl false):=by
 show(if(Yp .non&&Yp (.int i)&&Vk V.non (V.int i))=true then some (D.bl (decide (V.non=V.int i)))else _)=_;rw [if_pos (by rfl)];simp
theorem ZY(i:Int):eqD (.int i) .non=some (.bl false):=by
 show(if(Yp (.int i)&&Yp .non&&Vk (V.int i) V.non)=true then some (D.bl (decide (V.int i=V.non)))else _)=_;rw [if_pos (by rfl)];simp
theorem Z4(i j:Int):neD (.int i) (.int j)=some (.bl (!decide (i=j))):=by unfold neD;rw [ZS]
theorem ZZ(i j:List Nat):neD (.str i) (.str j)=some (.bl (!decide (i=j))):=by unfold neD;rw [ZU]
theorem Z5:neD .non .non=some (.bl false):=by unfold neD;rw [ZW];rfl
theorem Z6(i:Int):neD .non (.int i)=some (.bl true):=by unfold neD;rw [ZX];rfl
theorem Z7(i:Int):neD (.int i) .non=some (.bl true):=by unfold neD;rw [ZY];rfl
theorem Zgp{α:Type}{xs:List α}{i:Int}(h0:0<=i)(h1:i<xs.length):∃x,atI xs i=some x/\xs[i.toNat]? = some x:=by
 have hj:i.toNat<xs.length:=by omega
 refine⟨xs[i.toNat],?_,by simp [hj]⟩;have:=Zbb (xs:=xs) (j:=i.toNat) (v:=xs[i.toNat]) (by simp [hj])
 rwa [Int.toNat_of_nonneg h0]at this
theorem Zbs{γ:D->Env->Option Env}{φ:Env->Option Out}(I:Nat->Env->Prop):∀(xs:List D)(k:Nat)(δ:Env),I k δ ->
 (∀(j:Nat)x δ,xs[j]? = some x->I (k+j) δ->∃δ1,γ x δ=some δ1/\∃δ2,φ δ1=some (.nx δ2)/\I (k+j+1) δ2)->∃δ',YK γ φ xs δ=some (.nx δ')/\I (k+xs.length) δ'
 | [],k,δ,h,_=>⟨δ,rfl,h⟩
 |x::xs,k,δ,h,step=>by
  obtain⟨δ1,h1,δ2,h2,h3⟩:=step 0 x δ rfl h
  obtain⟨δ',h4,h5⟩:=Zbs I xs (k+1) δ2 h3 λj y δ hy hI=>by
   have:=step (j+1) y δ (by simpa using hy) (by rwa [show k+(j+1)=k+1+j by omega])
   rwa [show k+(j+1)+1=k+1+j+1 by omega]at this
  refine⟨δ',?_,by rwa [List.length_cons,show k+(xs.length+1)=k+1+xs.length by omega]⟩;unfold YK;rw [h1];dsimp only;rw [h2];exact h4
theorem Vc{γ:D->Env->Option Env}{ε:Env->Option D}{δ0:Env}(f:D->D):∀(xs:List D),(∀x∈xs,∃δ1,γ x δ0=some δ1/\ε δ1=some (f x))->Xh γ (λ_=>some true) ε δ0 xs=some (xs.map f)
 | [],_=>rfl
 |x::xs,h=>by
  obtain⟨δ1,h1,h2⟩:=h x List.mem_cons_self;have ih:=Vc f xs λy hy=>h y (List.mem_cons_of_mem _ hy)
  unfold Xh;rw [h1];dsimp only;rw [h2,ih];rfl
theorem ZaB{γ:D->Env->Option Env}{τ:Env->Option Bool}{ε:Env->Option D}{δ0:Env}(p:D->Bool)(f:D->D):∀(xs:List D),(∀x∈xs,∃δ1,γ x δ0=some δ1/\τ δ1=some (p x)/\(p x=true->ε δ1=some (f x)))->Xh γ τ ε δ0 xs=some ((xs.filter p).map f)
 | [],_=>rfl
 |x::xs,h=>by
  obtain⟨δ1,h1,h2,h3⟩:=h x List.mem_cons_self;have ih:=ZaB p f xs λy hy=>h y (List.mem_cons_of_mem _ hy)
  unfold Xh;rw [h1];dsimp only;rw [h2];cases hp:p x with
  |false=>rw [List.filter_cons_of_neg (by simp [hp])];exact ih
  |true=>
   rw [List.filter_cons_of_pos hp];dsimp only;rw [h3 hp,ih];rfl
theorem ZfI{lo c:Int}{n i:Nat}{x:D}(h:(YA lo c n)[i]? = some x):i<n/\x = .int (lo+(i:Nat)*c):=by
 have hi:i<n:=by have:=(List.getElem?_eq_some_iff.mp h).1;simpa [YA]using this
 unfold YA at h;rw [List.getElem?_map,List.getElem?_range hi]at h;exact⟨hi,(Option.some.inj h).symm⟩
theorem Zbt{lo c:Int}{n:Nat}{x:D}(h:x∈YA lo c n):∃i:Nat,i<n/\x = .int (lo+(i:Nat)*c):=by
 obtain⟨i,hi⟩:=List.getElem?_of_mem h;exact⟨i,ZfI hi⟩
end DL
namespace DL
open PySem PySem.Spec L2
theorem ZbV{α:Type}(g:α->Nat):∀xs:List α,strs? (xs.map λx=>D.str [g x])=some (xs.map λx=>[g x])
 | []=>rfl
 |x::xs=>by rw [List.map_cons,strs?,ZbV g xs,List.map_cons]
theorem ZbW{α:Type}(g:α->Nat)(xs:List α)(h:xs.length<=sizeLine):joinD [] [.lst (xs.map λx=>D.str [g x])]=some (.str (xs.map g)):=by
 unfold joinD;dsimp only;rw [ZbV];dsimp only
 have e1:((xs.map λx=>[g x]).map List.length).sum=xs.length:=by
  clear h
  induction xs with
  |nil=>rfl
  |cons x xs ih=>
   rw [List.map_cons,List.map_cons,List.sum_cons,ih];simp;omega
 rw [if_pos (by rw [e1];simpa using h),ZbN]
 congr 2
 clear h e1
 induction xs with
 |nil=>rfl
 |cons x xs ih=>rw [List.map_cons,List.flatten_cons,ih];rfl
theorem ZfJ{α:Type}(r:List α)(c:α):cutL (r++[c]) none (some (-1))=r:=by
 unfold cutL YQ;have e:(-1+((r++[c]).length:Int)).toNat=r.length:=by rw [List.length_append,List.length_singleton];omega
 simp only [show(-1:Int)<0 by decide,if_true,e,List.drop_zero,Nat.sub_zero];exact List.take_left
end DL
namespace DL
open PySem PySem.Spec L2
theorem Zc0{i j:Int}(h:CMul i j):mulD (.int i) (.int j)=some (.int (i*j)):=if_pos h
theorem Vd{i j:Int}(h:0<j):modD (.int i) (.int j)=some (.int (i % j)):=if_pos h
theorem UQ{i j:Int}(h:ZK i j):fdivD (.int i) (.int j)=some (.int (i / j)):=if_pos h
theorem JJ{cs:List Nat}{i:Int}{c:Nat}(h:cs.length<=sizeLine)(hz:atI cs i=some c):ixD (.str cs) (.int i)=some (.str [c]):=by
 show(if cs.length<=sizeLine then(atI cs i).map λc=>D.str [c]else none)=_;rw [if_pos h,hz];rfl
theorem Za6{i j:Int}(h1:0<=i)(h2:i<1000):CMul i j := .inl ⟨by omega,by omega⟩
end DL
namespace DL
open PySem PySem.Spec L2
theorem Zt{a b:Env->Option Out}{δ δ':Env}(h:a δ=some (.nx δ')):Zf a b δ=b δ':=by
 unfold Zf;rw [h]
theorem Ve{a b:Env->Option Out}{δ:Env}{d:D}(h:a δ=some (.rt d)):Zf a b δ=some (.rt d):=by
 unfold Zf;rw [h]
theorem Yi{i:Nat}{e:Env->Option D}{δ:Env}{d:D}(h:e δ=some d):Zi i e δ=some (.nx (δ.set i (some d))):=by
 unfold Zi;rw [h]
theorem YY{e:Env->Option D}{δ:Env}{d:D}(h:e δ=some d):Zn e δ=some (.rt d):=by
 unfold Zn;rw [h]
theorem Vf{t:Env->Option Bool}{a b:Env->Option Out}{δ:Env}(h:t δ=some true):sIf t a b δ=a δ:=by
 unfold sIf;rw [h]
theorem YE{t:Env->Option Bool}{a b:Env->Option Out}{δ:Env}(h:t δ=some false):sIf t a b δ=b δ:=by
 unfold sIf;rw [h]
theorem Yj{e:Env->Option D}{δ:Env}{b:Bool}(h:e δ=some (.bl b)):xB e δ=some b:=by
 unfold xB;rw [h];rfl
theorem VN{t:Env->Option Bool}{δ:Env}{b:Bool}(h:t δ=some b):Zu t δ=some (!b):=by
 unfold Zu;rw [h]
theorem ZiU{a b:Env->Option Bool}{δ:Env}{x:Bool}(h1:a δ=some false)(h2:b δ=some x):xOr a b δ=some x:=by
 unfold xOr;rw [h1];exact h2
theorem Ud{a b:Env->Option Bool}{δ:Env}{x:Bool}(h1:a δ=some true)(h2:b δ=some x):ZC a b δ=some x:=by
 unfold ZC;rw [h1];exact h2
theorem JK{a b:Env->Option Bool}{δ:Env}(h1:a δ=some false):ZC a b δ=some false:=by
 unfold ZC;rw [h1]
theorem Ys{n:Nat}{m:List D->Option D}{α:Env->Option (List D)}{δ:Env}{ds:List D}(h:α δ=some ds)(hn:ds.length=n):Zk n m [] α δ=m ds:=by
 unfold Zk;rw [h];dsimp only;rw [List.append_nil,if_pos hn]
theorem Zl{a:Env->Option D}{b:Env->Option (List D)}{δ:Env}{x:D}{xs:List D}(h1:a δ=some x)(h2:b δ=some xs):Zb a b δ=some (x::xs):=by
 unfold Zb;rw [h1,h2]
theorem Z0{f:D->D->Option D}{a b:Env->Option D}{δ:Env}{x y:D}(h1:a δ=some x)(h2:b δ=some y):eOp f a b δ=f x y:=by
 unfold eOp;rw [h1,h2]
theorem Zbd{a b:Env->Option D}{δ:Env}{x:D}(h1:a δ=some (.bl true))(h2:b δ=some x):ZH a b δ=some x:=by
 unfold ZH;rw [h1];exact h2
theorem Zgq{α:Env->Option (List D)}{δ:Env}{ds:List D}(h:α δ=some ds)(hl:ds.length<=1000):ZF α δ=(some (.tup ds):Option D):=by
 unfold ZF;rw [h];exact if_pos (Nat.le_trans hl (by decide))
theorem UR{α:Env->Option (List D)}{δ:Env}{ds:List D}(h:α δ=some ds)(hl:ds.length<=1000):Zx α δ=(some (.lst ds):Option D):=by
 unfold Zx;rw [h];exact if_pos (Nat.le_trans hl (by decide))
theorem Zas{γ:D->Env->Option Env}{φ:Env->Option Out}(I:Env->Prop):∀(xs:List D)(δ:Env),I δ ->
 (∀x∈xs,∀δ,I δ->∃δ1,γ x δ=some δ1/\∃δ2,φ δ1=some (.nx δ2)/\I δ2)->∃δ',YK γ φ xs δ=some (.nx δ')/\I δ'
 | [],δ,h,_=>⟨δ,rfl,h⟩
 |x::xs,δ,h,step=>by
  obtain⟨δ1,h1,δ2,h2,h3⟩:=step x List.mem_cons_self δ h;obtain⟨δ',h4,h5⟩:=Zas I xs δ2 h3 λy hy=>step y (List.mem_cons_of_mem _ hy)
  refine⟨δ',?_,h5⟩;unfold YK;rw [h1];dsimp only;rw [h2];exact h4
end DL
namespace DL
open PySem PySem.Spec L2
theorem JL{α:Env->Option (List D)}{δ:Env}{j:Int}(h:α δ=some [.int j])(h1 : -1000000<=j)(h2:j<=1000000):Xg α δ=some (YA 0 1 j.toNat):=by
 unfold Xg;rw [h];dsimp only;rw [if_pos ⟨by omega,by omega⟩]
theorem Zgr{i:Nat}{ε:Env->Option D}{δ:Env}{xs:List D}{d:D}(h1:Za i δ=some (.lst xs))(h2:ε δ=some d)(hl:xs.length<=1000000):UK i ε δ=some (.nx (δ.set i (some (.lst (xs++[d]))))):=by
 unfold UK;rw [h1];dsimp only;rw [h2];dsimp only;rw [if_pos (by rw [PySem.sizeLine_eq];omega)]
theorem Zd4{n j:Nat}{x:D}(h:(YA 0 1 n)[j]? = some x):j<n/\x = .int (j:Nat):=by
 have hj:j<n:=by have:=(List.getElem?_eq_some_iff.mp h).1;simpa [YA]using this
 refine⟨hj,?_⟩;unfold YA at h;rw [List.getElem?_map,List.getElem?_range hj]at h;have:=Option.some.inj h;rw [<-this];show D.int (0+(j:Int)*1)=_;rw [show(0+(j:Int)*1)=j by omega]
theorem Zhn(lo c:Int)(n:Nat):(YA lo c n).length=n:=by simp [YA]
theorem Xx{ι:Env->Option (List D)}{γ:D->Env->Option Env}{φ:Env->Option Out}{δ:Env}{xs:List D}{o:Out}(h1:ι δ=some xs)(h2:YK γ φ xs δ=some o):YN ι γ φ δ=some o:=by
 unfold YN;rw [h1];exact h2
theorem Ur{ι:Env->Option (List D)}{γ:D->Env->Option Env}{τ:Env->Option Bool}{ε:Env->Option D}{n:Nat}{js:List Nat}{δ δ0:Env}{xs ys:List D}(h1:ι δ=some xs)(hb:X1 n δ js=δ0)(h2:Xh γ τ ε δ0 xs=some ys)(hl:ys.length<=1000000):YJ ι γ τ ε n js δ=some (.lst ys):=by
 unfold YJ;rw [h1];dsimp only;rw [hb,h2];dsimp only;rw [if_pos (by rw [PySem.sizeLine_eq];omega)]
theorem Zls{f:List Nat->List D->Option D}{a:Env->Option D}{α:Env->Option (List D)}{δ:Env}{s:List Nat}{ds:List D}(h1:a δ=some (.str s))(h2:α δ=some ds):eBM f a α δ=f s ds:=by
 unfold eBM;rw [h1,h2]
theorem Xy{f:List D->Option D}{α:Env->Option (List D)}{δ:Env}{ds:List D}(h:α δ=some ds):eCB f α δ=f ds:=by
 unfold eCB;rw [h]
theorem YB{n:Nat}{f:Env->Option Out}{vs:List D}{δ:Env}{d:D}(h1:(vs.map some++List.replicate (n-vs.length) none)=δ)(h2:f δ=some (.rt d)):DL.run n f vs=some d:=by
 unfold DL.run;rw [h1,h2]
theorem nil_of{δ:Env}:eNil δ=some []:=rfl
theorem ZiV{t:List (String×Bool)}{a:Env->Option D}{δ:Env}{d:D}{b:Bool}(h1:a δ=some d)(h2:ZQ t d=some b):ZL t a δ=some (.bl b):=by
 unfold ZL;rw [h1];dsimp only;rw [h2]
end DL
namespace DL
open PySem PySem.Spec L2
theorem Zc1{x:D}(hs:Yp x=false)(h:SeqAt.shaped (toP x)=true):eqD x x=some (.bl true):=by
 unfold eqD;rw [if_neg (by simp [hs]),h,if_pos (by rfl)];rw [SeqAt.eqv_refl _ (SeqAt.canLay_of_shaped h)]
theorem ZfK{x:D}(hs:Yp x=false)(h:SeqAt.shaped (toP x)=true):neD x x=some (.bl false):=by
 unfold neD;rw [Zc1 hs h];rfl
end DL
namespace DL
open PySem PySem.Spec L2
theorem Zho{a b:List D}(h:a.length+b.length<=100000):Zjs (.lst a) (.lst b)=some (.lst (a++b)):=by
 show(if a.length+b.length<=PySem.sizeLine then some (D.lst (a++b))else none)=_;rw [if_pos (by rw [PySem.sizeLine_eq];omega)]
theorem US{xs:List D}{a:Nat}{x:D}(h:xs[a]? = some x):ixD (.lst xs) (.int (a:Int))=some x:=Zbb h
theorem ZcB{i:Int}(h:0<=i):∃a:Nat,i=(a:Int):=⟨i.toNat,(Int.toNat_of_nonneg h).symm⟩
theorem Zd5(i:Int){m:Nat}(h:0<m):∃a:Nat,i % (m:Int)=(a:Int)/\a<m:=by
 obtain⟨a,ha⟩:=ZcB (Int.emod_nonneg i (show(m:Int)≠0 by omega));exact⟨a,ha,by have:=Int.emod_lt_of_pos i (b:=(m:Int)) (by omega);omega⟩
theorem len_str{cs:List Nat}(h:cs.length<=100000):lenD [.str cs]=some (.int (cs.length:Int)):=if_pos (by rw [PySem.sizeLine_eq];omega)
theorem Zd6{xs:List D}:lenD [.lst xs]=some (.int (xs.length:Int)):=rfl
theorem Zat{c:Nat}{ms:List Nat}(h:c∈ms):∃i:Nat,YM c ms=(i:Int)/\ms[i]? = some c/\i<ms.length:=by
 unfold YM;cases e:ms.findIdx? (· == c)with
 |none=>
  have:=List.findIdx?_eq_none_iff.mp e c h;simp at this
 |some i=>
  obtain⟨h1,h2,_⟩:=List.findIdx?_eq_some_iff_getElem.mp e;refine⟨i,rfl,?_,h1⟩;rw [List.getElem?_eq_getElem h1]
  congr 1
  simpa using h2
theorem Zd7{c:String}{n:Nat}{m:List D->Option D}{α:Env->Option (List D)}{δ:Env}{ds:List D}(h:α δ=some ds)(hn:ds.length+1=n):ZE c n m [] α δ=m (.obj c [] []::ds):=by
 unfold ZE;rw [h];dsimp only;rw [List.append_nil,if_pos (by rw [List.length_cons];exact hn)]
end DL
namespace K06
open PySem PySem.Spec L2 DL
def cs_MARK_SIGNS:List Nat:=[97,98,99,100,101,102,103,104,105,106,107,108,109,110,111,112,113,114,115,116,117,118,119,120,121,122,48,49,50,51,52,53,54,55,56,57]
def UT:List String:=["Turn"]
def UU:List String:=["Turn"]
def UV:List String:=["Sum"]
def Vw:List String:=["Gap"]
def UW:List String:=["Sum"]
def XU:List String:=["Gap", "Turn"]
def fc_marks:List String:=["Rule", "Gap", "Never", "Sum", "Turn", "Alike", "All"]
def Xz:List String:=["Gap", "Alike"]
def UX:List String:=["All"]
def Vg:List String:=["Never"]
def UY:List String:=["Sum"]
def it_All:List (String×Bool):=[("NoneType",false),("bool",false),("int",false),("str",false),("list",false),("tuple",false),("Rule",false),("Gap",false),("Never",false),("Sum",false),("Turn",false),("Alike",false),("All",true)]
def QU:List (String×Bool):=[("NoneType",false),("bool",true),("int",false),("str",false),("list",false),("tuple",false),("Rule",false),("Gap",false),("Never",false),("Sum",false),("Turn",false),("Alike",false),("All",false)]
def QV:List (String×Bool):=[("NoneType",false),("bool",true),("int",true),("str",false),("list",false),("tuple",false),("Rule",false),("Gap",false),("Never",false),("Sum",false),("Turn",false),("Alike",false),("All",false)]
def ie_GrooveError:List (String×Bool):=[("BadMark",true)]
def ie_ValueError:List (String×Bool):=[("BadMark",true)]
def ie_BadMarks:List (String×Bool):=[("BadMark",false)]
def ie_BadRule:List (String×Bool):=[("BadMark",false)]
noncomputable def Zjt:DL.Env->Option Out:=
 (Zf (sIf (xOr (xB (eOp (Zw λi j=>decide (i<j)) (eCB lenD (Zb (Za 0) eNil)) (eC (.int 2)))) (xB (eOp (Zw λi j=>decide (j<i)) (eCB lenD (Zb (Za 0) eNil)) (eC (.int 4))))) (Zn (eC (.bl false))) sNext)
 (Zn (eCB (XH λbs=>bs.all id) (Zb (YJ (Yu (Za 0)) (Yd 0) (λ_=>some true) (ZH (eOp (inD false) (Za 0) (eC (.str cs_MARK_SIGNS))) (eOp eqD (eBM countD (Za 1) (Zb (Za 0) eNil)) (eC (.int 1)))) 1 [0]) eNil))))
noncomputable def JM:List D->Option D:=run 1 Zjt
noncomputable def JN:DL.Env->Option Out:=
 (Zn (ZH (eOp eqD (eCB lenD (Zb (Za 1) eNil)) (eC (.int 1))) (eOp (inD false) (Za 1) (Za 0))))
noncomputable def XV:List D->Option D:=run 2 JN
noncomputable def Zju:DL.Env->Option Out:=
 (Zf (sIf (xOr (xB (ZL QU (Za 0))) (Zu (xB (ZL QV (Za 0))))) (Zn (eC (.bl false))) sNext)
 (Zn (ZR (Zw λi j=>decide (i<=j)) (Zw λi j=>decide (i<=j)) (Za 1) (Za 0) (Za 2))))
noncomputable def Vx:List D->Option D:=run 3 Zju
noncomputable def Zjv:DL.Env->Option Out:=
 (sIf (Zu (xB (Za 0))) sNever sNext)
noncomputable def Xe:List D->Option D:=run 2 Zjv
noncomputable def Zjw:DL.Env->Option Out:=
 (Zf (sIf (Zu (xB (Zk 1 JM [] (Zb (Za 1) eNil)))) sNever sNext)
 (ZG 0 fc_marks "marks" (Za 1)))
noncomputable def X4:List D->Option D:=runI 2 Zjw
noncomputable def Qm:DL.Env->Option Out:=
 (Zn (eC (.int 0)))
noncomputable def XA:List D->Option D:=run 1 Qm
noncomputable def Zjx:DL.Env->Option Out:=
 (Zn (eC (.int 0)))
noncomputable def JO:List D->Option D:=run 3 Zjx
noncomputable def QW:DL.Env->Option Out:=
 (Zf (sIf (xB (eOp eqD (Za 2) (Zs XU "mark" (Za 0)))) (Zn (eIf (xB (eOp (Zw λi j=>decide (j<=i)) (Za 1) (Zs Vw "least" (Za 0)))) (eC (.int 0)) (eC .non))) sNext)
 (Zf (sIf (xB (Zz (Zs Xz "most" (Za 0)))) (Zn (eCB minD (Zb (eOp addD (Za 1) (eC (.int 1))) (Zb (Zs Vw "least" (Za 0)) eNil)))) sNext)
 (Zn (eIf (xB (eOp (Zw λi j=>decide (i<j)) (Za 1) (Zs Xz "most" (Za 0)))) (eOp addD (Za 1) (eC (.int 1))) (eC .non)))))
noncomputable def UZ:List D->Option D:=run 3 QW
noncomputable def Zjy:DL.Env->Option Out:=
 (Zf (Zi 3 (eOp addD (eSl (Zs Vg "word" (Za 0)) xNoP (xP (Za 1))) (Za 2)))
 (Zf (sIf (xB (eOp eqD (Za 3) (Zs Vg "word" (Za 0)))) (Zn (eC .non)) sNext)
 (Zf (Zi 4 (eCB lenD (Zb (Za 3) eNil)))
 (Zf (Qc (Zu (xB (eBM endsD (Za 3) (Zb (eSl (Zs Vg "word" (Za 0)) xNoP (xP (Za 4))) eNil)))) (Zi 4 (eOp subD (Za 4) (eC (.int 1)))))
 (Zn (Za 4))))))
noncomputable def Qn:List D->Option D:=run 5 Zjy
noncomputable def QX:DL.Env->Option Out:=
 (Zf (Zi 3 (eOp addD (Za 1) (eOp ixD (Zs UY "worths" (Za 0)) (eBM indexD (Zs fc_marks "marks" (Za 0)) (Zb (Za 2) eNil)))))
 (Zn (eIf (xB (ZR (Zw λi j=>decide (i<=j)) (Zw λi j=>decide (i<=j)) (Zs UW "low" (Za 0)) (Za 3) (Zs UV "high" (Za 0)))) (Za 3) (eC .non))))
noncomputable def U0:List D->Option D:=run 4 QX
noncomputable def QY:DL.Env->Option Out:=
 (Zf (sIf (ZC (xB (eOp eqD (Za 2) (Zs XU "mark" (Za 0)))) (xB (eOp neD (Za 1) (Zs UT "at" (Za 0))))) (Zn (eC .non)) sNext)
 (Zn (eOp modD (eOp addD (Za 1) (eC (.int 1))) (Zs UU "every" (Za 0)))))
noncomputable def U1:List D->Option D:=run 3 QY
noncomputable def Qo:DL.Env->Option Out:=
 (Zf (Zi 3 (eBM indexD (Zs fc_marks "marks" (Za 0)) (Zb (Za 2) eNil)))
 (Zf (Zi 4 (eIf (xB (eOp eqD (Za 3) (eOp ixD (Za 1) (eC (.int 0))))) (eOp addD (eOp ixD (Za 1) (eC (.int 1))) (eC (.int 1))) (eC (.int 1))))
 (Zn (eIf (xB (eOp (Zw λi j=>decide (i<=j)) (Za 4) (Zs Xz "most" (Za 0)))) (ZF (Zb (Za 3) (Zb (Za 4) eNil))) (eC .non)))))
noncomputable def Ue:List D->Option D:=run 5 Qo
noncomputable def tab_behind0:MTab:=[("Rule",3,JO),("Gap",3,UZ),("Never",3,Qn),("Sum",3,U0),("Turn",3,U1),("Alike",3,Ue)]
noncomputable def ZkX:DL.Env->Option Out:=
 (Zf (sIf (Zu (xB (Zk 2 XV [] (Zb (Zs fc_marks "marks" (Za 0)) (Zb (Za 2) eNil))))) sNever sNext)
 (Zn (ZA "behind" tab_behind0 (Za 0) (Zb (Za 1) (Zb (Za 2) eNil)))))
noncomputable def Us:List D->Option D:=run 3 ZkX
noncomputable def tab_step0:MTab:=[("Rule",3,Us),("Gap",3,Us),("Never",3,Us),("Sum",3,Us),("Turn",3,Us),("Alike",3,Us)]
noncomputable def Zjz:DL.Env->Option Out:=
 (Zf (Zi 3 (Zx eNil))
 (Zf (YN (JG (Zs UX "rules" (Za 0)) (Za 1)) (YX 2 (Yr 4 (Yr 5 gsNil))) (Zf (Zi 6 (ZA "step" tab_step0 (Za 4) (Zb (Za 5) (Zb (Za 2) eNil))))
 (Zf (sIf (xB (Zz (Za 6))) (Zn (eC .non)) sNext)
 (UK 3 (Za 6)))))
 (Zn (eCB Vs (Zb (Za 3) eNil)))))
noncomputable def ZkY:List D->Option D:=run 7 Zjz
noncomputable def tab_behind:MTab:=[("Rule",3,JO),("Gap",3,UZ),("Never",3,Qn),("Sum",3,U0),("Turn",3,U1),("Alike",3,Ue),("All",3,ZkY)]
noncomputable def ZkZ:DL.Env->Option Out:=
 (Zf (sIf (Zu (xB (Zk 2 XV [] (Zb (Zs fc_marks "marks" (Za 0)) (Zb (Za 2) eNil))))) sNever sNext)
 (Zn (ZA "behind" tab_behind (Za 0) (Zb (Za 1) (Zb (Za 2) eNil)))))
noncomputable def Zk0:DL.Env->Option String:=
 (XT (xIf (Zu (xB (Zk 2 XV [] (Zb (Zs fc_marks "marks" (Za 0)) (Zb (Za 2) eNil))))) (JA "BadMark" (Zb (QP [(Qg UO (Za 2)),(eC (.str [32,105,115,32,110,111,32,109,97,114,107]))]) eNil)) xNever) (sIf (Zu (xB (Zk 2 XV [] (Zb (Zs fc_marks "marks" (Za 0)) (Zb (Za 2) eNil))))) sNever sNext)
 xNever)
noncomputable def VP:List D->Option String:=Zjr 3 Zk0
noncomputable def VQ:List D->Option D:=run 3 ZkZ
noncomputable def ZjA:DL.Env->Option Out:=
 (Zn (Zs Vw "least" (Za 0)))
noncomputable def JP:List D->Option D:=run 1 ZjA
noncomputable def ZjB:DL.Env->Option Out:=
 (Zn (ZF (Zb (eC (.int 0)) (Zb (eC (.int 0)) eNil))))
noncomputable def JQ:List D->Option D:=run 1 ZjB
noncomputable def tab_begin0:MTab:=[("Rule",1,XA),("Gap",1,JP),("Never",1,XA),("Sum",1,XA),("Turn",1,XA),("Alike",1,JQ)]
noncomputable def Zk1:DL.Env->Option Out:=
 (Zn (eCB Vs (Zb (YJ (Yu (Zs UX "rules" (Za 0))) (Yd 0) (λ_=>some true) (ZA "begin" tab_begin0 (Za 0) eNil) 1 []) eNil)))
noncomputable def Zk2:List D->Option D:=run 1 Zk1
noncomputable def tab_begin:MTab:=[("Rule",1,XA),("Gap",1,JP),("Never",1,XA),("Sum",1,XA),("Turn",1,XA),("Alike",1,JQ),("All",1,Zk2)]
noncomputable def tab_step:XTab:=[("Rule",3,VQ,VP),("Gap",3,VQ,VP),("Never",3,VQ,VP),("Sum",3,VQ,VP),("Turn",3,VQ,VP),("Alike",3,VQ,VP),("All",3,VQ,VP)]
noncomputable def ZjC:DL.Env->Option Out:=
 (Zf (Zi 2 (ZA "begin" tab_begin (Za 0) eNil))
 (Zf (YN (UM 0 (Za 1)) (YX 2 (Yr 3 (Yr 4 gsNil))) (Zf (Zi 2 (Xw "step" tab_step (Za 0) (Zb (Za 2) (Zb (Za 4) eNil))))
 (sIf (xB (Zz (Za 2))) (Zn (Za 3)) sNext)))
 (Zn (eC .non))))
noncomputable def ZjD:DL.Env->Option String:=
 (XT xNever (Zi 2 (ZA "begin" tab_begin (Za 0) eNil))
 (XT (QQ (UM 0 (Za 1)) (YX 2 (Yr 3 (Yr 4 gsNil))) (Zf (Zi 2 (Xw "step" tab_step (Za 0) (Zb (Za 2) (Zb (Za 4) eNil))))
 (sIf (xB (Zz (Za 2))) (Zn (Za 3)) sNext)) (XT (Vu "step" tab_step (Za 0) (Zb (Za 2) (Zb (Za 4) eNil))) (Zi 2 (Xw "step" tab_step (Za 0) (Zb (Za 2) (Zb (Za 4) eNil))))
 xNever)) (YN (UM 0 (Za 1)) (YX 2 (Yr 3 (Yr 4 gsNil))) (Zf (Zi 2 (Xw "step" tab_step (Za 0) (Zb (Za 2) (Zb (Za 4) eNil))))
 (sIf (xB (Zz (Za 2))) (Zn (Za 3)) sNext)))
 xNever))
noncomputable def Xn:List D->Option String:=Zjr 5 ZjD
noncomputable def XW:List D->Option D:=run 5 ZjC
noncomputable def tab_broken_at:XTab:=[("Rule",2,XW,Xn),("Gap",2,XW,Xn),("Never",2,XW,Xn),("Sum",2,XW,Xn),("Turn",2,XW,Xn),("Alike",2,XW,Xn),("All",2,XW,Xn)]
noncomputable def Zk3:DL.Env->Option Out:=
 (Zn (Zz (Xw "broken_at" tab_broken_at (Za 0) (Zb (Za 1) eNil))))
noncomputable def Zk4:DL.Env->Option String:=
 (Vu "broken_at" tab_broken_at (Za 0) (Zb (Za 1) eNil))
noncomputable def XX:List D->Option String:=Zjr 2 Zk4
noncomputable def Vh:List D->Option D:=run 2 Zk3
noncomputable def f_Qc:DL.Env->Option Out:=
 (Zf (ZO 0 2 X4 [] (Zb (Za 1) eNil))
 (Zf (Zy (Zk 2 Xe [] (Zb (Zk 2 XV [] (Zb (Za 1) (Zb (Za 2) eNil))) (Zb (eC (.str [97,32,71,97,112,39,115,32,109,97,114,107,32,105,115,32,111,110,101,32,111,102,32,116,104,101,32,109,97,114,107,115])) eNil))))
 (Zf (Zy (Zk 2 Xe [] (Zb (Zk 3 Vx [] (Zb (Za 3) (Zb (eC (.int 0)) (Zb (eC (.int 8)) eNil)))) (Zb (eC (.str [97,32,71,97,112,39,115,32,108,101,97,115,116,32,105,115,32,102,114,111,109,32,48,32,116,111,32,56])) eNil))))
 (Zf (Zy (Zk 2 Xe [] (Zb (eOr (Zz (Za 4)) (Zk 3 Vx [] (Zb (Za 4) (Zb (Za 3) (Zb (eC (.int 8)) eNil))))) (Zb (eC (.str [97,32,71,97,112,39,115,32,109,111,115,116,32,105,115,32,78,111,110,101,32,111,114,32,102,114,111,109,32,108,101,97,115,116,32,116,111,32,56])) eNil))))
 (Zf (ZG 0 XU "mark" (Za 2))
 (Zf (ZG 0 Vw "least" (Za 3))
 (ZG 0 Xz "most" (Za 4))))))))
noncomputable def QZ:List D->Option D:=runI 5 f_Qc
noncomputable def ZjE:DL.Env->Option Out:=
 (Zf (ZO 0 2 X4 [] (Zb (Za 1) eNil))
 (Zf (Zy (Zk 2 Xe [] (Zb (ZR (Zw λi j=>decide (i<=j)) (Zw λi j=>decide (i<=j)) (eC (.int 1)) (eCB lenD (Zb (Za 2) eNil)) (eC (.int 6))) (Zb (eC (.str [97,32,78,101,118,101,114,39,115,32,119,111,114,100,32,104,97,115,32,49,32,116,111,32,54,32,115,105,103,110,115])) eNil))))
 (Zf (Zy (Zk 2 Xe [] (Zb (eCB (XH λbs=>bs.all id) (Zb (YJ (Yu (Za 2)) (Yd 0) (λ_=>some true) (Zk 2 XV [] (Zb (Za 1) (Zb (Za 0) eNil))) 1 [1]) eNil)) (Zb (eC (.str [97,32,78,101,118,101,114,39,115,32,119,111,114,100,32,105,115,32,111,102,32,109,97,114,107,115])) eNil))))
 (ZG 0 Vg "word" (Za 2)))))
noncomputable def ZjF:List D->Option D:=runI 3 ZjE
noncomputable def ZjG:DL.Env->Option Out:=
 (Zf (ZO 0 2 X4 [] (Zb (Za 1) eNil))
 (Zf (Zy (Zk 2 Xe [] (Zb (eOp eqD (eCB lenD (Zb (Za 2) eNil)) (eCB lenD (Zb (Za 1) eNil))) (Zb (eC (.str [97,32,83,117,109,32,104,97,115,32,97,115,32,109,97,110,121,32,119,111,114,116,104,115,32,97,115,32,116,104,101,114,101,32,97,114,101,32,109,97,114,107,115])) eNil))))
 (Zf (Zy (Zk 2 Xe [] (Zb (eCB (XH λbs=>bs.all id) (Zb (YJ (Yu (Za 2)) (Yd 0) (λ_=>some true) (Zk 3 Vx [] (Zb (Za 0) (Zb (eUn ZN (eC (.int 3))) (Zb (eC (.int 3)) eNil)))) 1 []) eNil)) (Zb (eC (.str [97,32,83,117,109,39,115,32,119,111,114,116,104,115,32,97,114,101,32,102,114,111,109,32,45,51,32,116,111,32,51])) eNil))))
 (Zf (Zy (Zk 2 Xe [] (Zb (Zk 3 Vx [] (Zb (Za 3) (Zb (eUn ZN (eC (.int 8))) (Zb (eC (.int 0)) eNil)))) (Zb (eC (.str [97,32,83,117,109,39,115,32,108,111,119,32,105,115,32,102,114,111,109,32,45,56,32,116,111,32,48])) eNil))))
 (Zf (Zy (Zk 2 Xe [] (Zb (Zk 3 Vx [] (Zb (Za 4) (Zb (eC (.int 0)) (Zb (eC (.int 8)) eNil)))) (Zb (eC (.str [97,32,83,117,109,39,115,32,104,105,103,104,32,105,115,32,102,114,111,109,32,48,32,116,111,32,56])) eNil))))
 (Zf (ZG 0 UY "worths" (eCB Vs (Zb (Za 2) eNil)))
 (Zf (ZG 0 UW "low" (Za 3))
 (ZG 0 UV "high" (Za 4)))))))))
noncomputable def ZjH:List D->Option D:=runI 5 ZjG
noncomputable def ZjI:DL.Env->Option Out:=
 (Zf (ZO 0 2 X4 [] (Zb (Za 1) eNil))
 (Zf (Zy (Zk 2 Xe [] (Zb (Zk 2 XV [] (Zb (Za 1) (Zb (Za 2) eNil))) (Zb (eC (.str [97,32,84,117,114,110,39,115,32,109,97,114,107,32,105,115,32,111,110,101,32,111,102,32,116,104,101,32,109,97,114,107,115])) eNil))))
 (Zf (Zy (Zk 2 Xe [] (Zb (Zk 3 Vx [] (Zb (Za 3) (Zb (eC (.int 1)) (Zb (eC (.int 6)) eNil)))) (Zb (eC (.str [97,32,84,117,114,110,39,115,32,101,118,101,114,121,32,105,115,32,102,114,111,109,32,49,32,116,111,32,54])) eNil))))
 (Zf (Zy (Zk 2 Xe [] (Zb (Zk 3 Vx [] (Zb (Za 4) (Zb (eC (.int 0)) (Zb (eOp subD (Za 3) (eC (.int 1))) eNil)))) (Zb (eC (.str [97,32,84,117,114,110,39,115,32,97,116,32,105,115,32,102,114,111,109,32,48,32,116,111,32,111,110,101,32,98,101,108,111,119,32,101,118,101,114,121])) eNil))))
 (Zf (ZG 0 XU "mark" (Za 2))
 (Zf (ZG 0 UU "every" (Za 3))
 (ZG 0 UT "at" (Za 4))))))))
noncomputable def ZjJ:List D->Option D:=runI 5 ZjI
noncomputable def ZjK:DL.Env->Option Out:=
 (Zf (ZO 0 2 X4 [] (Zb (Za 1) eNil))
 (Zf (Zy (Zk 2 Xe [] (Zb (Zk 3 Vx [] (Zb (Za 2) (Zb (eC (.int 1)) (Zb (eC (.int 6)) eNil)))) (Zb (eC (.str [97,110,32,65,108,105,107,101,39,115,32,109,111,115,116,32,105,115,32,102,114,111,109,32,49,32,116,111,32,54])) eNil))))
 (ZG 0 Xz "most" (Za 2))))
noncomputable def ZjL:List D->Option D:=runI 3 ZjK
noncomputable def JR:DL.Env->Option Out:=
 (Zf (ZO 0 2 X4 [] (Zb (Za 1) eNil))
 (Zf (Zy (Zk 2 Xe [] (Zb (eOp (Zw λi j=>decide (i<=j)) (eCB lenD (Zb (Za 2) eNil)) (eC (.int 6))) (Zb (eC (.str [97,110,32,65,108,108,32,104,97,115,32,97,116,32,109,111,115,116,32,54,32,114,117,108,101,115])) eNil))))
 (Zf (Zy (Zk 2 Xe [] (Zb (ZP (eCB (XH λbs=>bs.any id) (Zb (YJ (Yu (Za 2)) (Yd 0) (λ_=>some true) (ZL it_All (Za 0)) 1 []) eNil))) (Zb (eC (.str [110,111,32,114,117,108,101,32,105,110,32,97,110,32,65,108,108,32,105,115,32,97,110,32,65,108,108])) eNil))))
 (Zf (Zy (Zk 2 Xe [] (Zb (eCB (XH λbs=>bs.all id) (Zb (YJ (Yu (Za 2)) (Yd 0) (λ_=>some true) (eOp eqD (Zs fc_marks "marks" (Za 0)) (Za 1)) 1 [1]) eNil)) (Zb (eC (.str [116,104,101,32,114,117,108,101,115,32,105,110,32,97,110,32,65,108,108,32,97,114,101,32,111,102,32,105,116,115,32,109,97,114,107,115])) eNil))))
 (ZG 0 UX "rules" (eCB Vs (Zb (Za 2) eNil)))))))
noncomputable def ZjM:List D->Option D:=runI 3 JR
noncomputable def JS:DL.Env->Option Out:=
 (Zf (sIf (xB (eOp (Zw λi j=>decide (i<j)) (Za 1) (eCB lenD (Zb (Za 0) eNil)))) (Zn (eOp ixD (Za 0) (Za 1))) sNext)
 (Zn (eC (.int 0))))
noncomputable def YZ:List D->Option D:=run 2 JS
noncomputable def ZjN:DL.Env->Option Out:=
 (Zn (ZH (ZL QV (Za 0)) (ZP (ZL QU (Za 0)))))
noncomputable def ZjO:List D->Option D:=run 1 ZjN
noncomputable def ZjP:DL.Env->Option Out:=
 (Zf (Zi 1 (eC (.str [97,98,99,100,101,102,103,104,105,106,107,108,109,110,111,112,113,114,115,116,117,118,119,120,121,122,48,49,50,51,52,53,54,55,56,57])))
 (Zf (Zi 2 (eOp addD (eC (.int 1)) (eOp modD (eOp fdivD (Za 0) (eC (.int 36))) (eC (.int 11)))))
 (Zn (eBM joinD (eC (.str [])) (Zb (YJ (Xg (Zb (eOp addD (eC (.int 2)) (eOp modD (eOp fdivD (Za 0) (eC (.int 396))) (eC (.int 3)))) eNil)) (Yd 0) (λ_=>some true) (eOp ixD (Za 1) (eOp modD (eOp addD (Za 2) (eOp mulD (Za 0) (Za 3))) (eC (.int 36)))) 1 [1,0,2]) eNil)))))
noncomputable def JT:List D->Option D:=run 3 ZjP
noncomputable def ZjQ:DL.Env->Option Out:=
 (Zf (Zi 2 (eBM rfindD (Za 1) (Zb (eOp ixD (Za 0) (eC (.int 1))) eNil)))
 (Zf (sIf (xB (eOp (Zw λi j=>decide (i<j)) (Za 2) (eC (.int 0)))) (Zn (eOp addD (eCB lenD (Zb (Za 1) eNil)) (eOp ixD (Za 0) (eC (.int 2))))) sNext)
 (Zn (eOp subD (eOp subD (eCB lenD (Zb (Za 1) eNil)) (eC (.int 1))) (Za 2)))))
noncomputable def ZjR:List D->Option D:=run 3 ZjQ
noncomputable def Zk5:DL.Env->Option Out:=
 (Zn (eCB sumLD (Zb (YJ (Yu (Za 2)) (Yd 0) (λ_=>some true) (eOp ixD (eOp ixD (Za 1) (eC (.int 1))) (eBM indexD (Za 2) (Zb (Za 0) eNil))) 1 [1,0]) eNil)))
noncomputable def Zk6:List D->Option D:=run 3 Zk5
noncomputable def Vi:DL.Env->Option Out:=
 (Zf (sIf (xB (eOp eqD (eOp ixD (Za 1) (eC (.int 0))) (eC (.str [103,97,112])))) (Zf (Zi 3 (Zk 2 ZjR [] (Zb (Za 1) (Zb (eSl (Za 2) xNoP (xP (eUn ZN (eC (.int 1))))) eNil))))
 (Zf (sIf (xB (eOp eqD (eOp ixD (Za 2) (eUn ZN (eC (.int 1)))) (eOp ixD (Za 1) (eC (.int 1))))) (Zn (eOp (Zw λi j=>decide (i<j)) (Za 3) (eOp ixD (Za 1) (eC (.int 2))))) sNext)
 (Zn (ZH (ZD (eOp ixD (Za 1) (eC (.int 3)))) (eOp (Zw λi j=>decide (j<i)) (eOp addD (Za 3) (eC (.int 1))) (eOp ixD (Za 1) (eC (.int 3)))))))) sNext)
 (Zf (sIf (xB (eOp eqD (eOp ixD (Za 1) (eC (.int 0))) (eC (.str [110,101,118,101,114])))) (Zn (eBM endsD (Za 2) (Zb (eOp ixD (Za 1) (eC (.int 1))) eNil))) sNext)
 (Zf (sIf (xB (eOp eqD (eOp ixD (Za 1) (eC (.int 0))) (eC (.str [115,117,109])))) (Zf (Zi 4 (Zk 3 Zk6 [] (Zb (Za 0) (Zb (Za 1) (Zb (Za 2) eNil)))))
 (Zn (eOr (eOp (Zw λi j=>decide (i<j)) (Za 4) (eOp ixD (Za 1) (eC (.int 2)))) (eOp (Zw λi j=>decide (j<i)) (Za 4) (eOp ixD (Za 1) (eC (.int 3))))))) sNext)
 (Zf (sIf (xB (eOp eqD (eOp ixD (Za 1) (eC (.int 0))) (eC (.str [116,117,114,110])))) (Zn (ZH (eOp eqD (eOp ixD (Za 2) (eUn ZN (eC (.int 1)))) (eOp ixD (Za 1) (eC (.int 1)))) (eOp neD (eOp modD (eOp subD (eCB lenD (Zb (Za 2) eNil)) (eC (.int 1))) (eOp ixD (Za 1) (eC (.int 2)))) (eOp ixD (Za 1) (eC (.int 3)))))) sNext)
 (Zn (eBM endsD (Za 2) (Zb (eOp mulD (eOp ixD (Za 2) (eUn ZN (eC (.int 1)))) (eOp addD (eOp ixD (Za 1) (eC (.int 1))) (eC (.int 1)))) eNil)))))))
noncomputable def Xj:List D->Option D:=run 5 Vi
noncomputable def ZjS:DL.Env->Option Out:=
 (Zf (Zi 5 (eOp ixD (Za 0) (eOp modD (Za 2) (eCB lenD (Zb (Za 0) eNil)))))
 (Zf (sIf (xB (eOp eqD (eOp modD (Za 1) (eC (.int 5))) (eC (.int 0)))) (Zf (Zi 6 (eOp ixD (Zx (Zb (eOp modD (Za 3) (eC (.int 3))) (Zb (eOp modD (Za 3) (eC (.int 9))) eNil))) (eOp modD (Za 4) (eC (.int 2)))))
 (Zf (sIf (xB (eOp eqD (eOp modD (eOp fdivD (Za 4) (eC (.int 2))) (eC (.int 3))) (eC (.int 0)))) (Zn (ZF (Zb (eC (.str [103,97,112])) (Zb (Za 5) (Zb (Za 6) (Zb (eC .non) eNil)))))) sNext)
 (Zn (ZF (Zb (eC (.str [103,97,112])) (Zb (Za 5) (Zb (Za 6) (Zb (eCB minD (Zb (eC (.int 8)) (Zb (eOp addD (Za 6) (eOp modD (eOp fdivD (Za 4) (eC (.int 6))) (eC (.int 5)))) eNil))) eNil)))))))) sNext)
 (Zf (sIf (xB (eOp eqD (eOp modD (Za 1) (eC (.int 5))) (eC (.int 1)))) (Zf (Zi 7 (eOp addD (eC (.int 1)) (eOp modD (Za 3) (eC (.int 6)))))
 (Zn (ZF (Zb (eC (.str [110,101,118,101,114])) (Zb (eBM joinD (eC (.str [])) (Zb (YJ (Xg (Zb (Za 7) eNil)) (Yd 0) (λ_=>some true) (eOp ixD (Za 1) (eOp modD (eOp fdivD (Za 2) (eOp ixD (Zx (Zb (eC (.int 1)) (Zb (eC (.int 3)) (Zb (eC (.int 7)) (Zb (eC (.int 11)) (Zb (eC (.int 17)) (Zb (eC (.int 23)) eNil))))))) (Za 0))) (eCB lenD (Zb (Za 1) eNil)))) 1 [0,2]) eNil)) eNil))))) sNext)
 (Zf (sIf (xB (eOp eqD (eOp modD (Za 1) (eC (.int 5))) (eC (.int 2)))) (Zf (Zi 8 (Zx (Zb (eOp subD (eOp modD (Za 2) (eC (.int 7))) (eC (.int 3))) (Zb (eOp subD (eOp modD (Za 3) (eC (.int 7))) (eC (.int 3))) (Zb (eOp subD (eOp modD (eOp fdivD (Za 2) (eC (.int 7))) (eC (.int 7))) (eC (.int 3))) (Zb (eOp subD (eOp modD (eOp fdivD (Za 3) (eC (.int 7))) (eC (.int 7))) (eC (.int 3))) eNil))))))
 (Zn (ZF (Zb (eC (.str [115,117,109])) (Zb (eCB Vs (Zb (eSl (Za 8) xNoP (xP (eCB lenD (Zb (Za 0) eNil)))) eNil)) (Zb (eUn ZN (eOp modD (Za 4) (eC (.int 9)))) (Zb (eOp modD (eOp fdivD (Za 4) (eC (.int 9))) (eC (.int 9))) eNil))))))) sNext)
 (Zf (sIf (xB (eOp eqD (eOp modD (Za 1) (eC (.int 5))) (eC (.int 3)))) (Zf (Zi 9 (eOp addD (eC (.int 1)) (eOp modD (Za 3) (eC (.int 6)))))
 (Zn (ZF (Zb (eC (.str [116,117,114,110])) (Zb (Za 5) (Zb (Za 9) (Zb (eOp modD (Za 4) (Za 9)) eNil))))))) sNext)
 (Zn (ZF (Zb (eC (.str [97,108,105,107,101])) (Zb (eOp addD (eC (.int 1)) (eOp modD (Za 4) (eC (.int 6)))) eNil)))))))))
noncomputable def ZjT:List D->Option D:=run 10 ZjS
noncomputable def Ut:DL.Env->Option Out:=
 (Zf (sIf (xB (eOp eqD (eOp ixD (Za 1) (eC (.int 0))) (eC (.str [103,97,112])))) (Zf (sIf (xB (Zz (eOp ixD (Za 1) (eC (.int 3))))) (Zn (ZE "Gap" 5 QZ [.non] (Zb (Za 0) (Zb (eOp ixD (Za 1) (eC (.int 1))) (Zb (eOp ixD (Za 1) (eC (.int 2))) eNil))))) sNext)
 (Zn (ZE "Gap" 5 QZ [] (Zb (Za 0) (Zb (eOp ixD (Za 1) (eC (.int 1))) (Zb (eOp ixD (Za 1) (eC (.int 2))) (Zb (eOp ixD (Za 1) (eC (.int 3))) eNil))))))) sNext)
 (Zf (sIf (xB (eOp eqD (eOp ixD (Za 1) (eC (.int 0))) (eC (.str [110,101,118,101,114])))) (Zn (ZE "Never" 3 ZjF [] (Zb (Za 0) (Zb (eOp ixD (Za 1) (eC (.int 1))) eNil)))) sNext)
 (Zf (sIf (xB (eOp eqD (eOp ixD (Za 1) (eC (.int 0))) (eC (.str [115,117,109])))) (Zn (ZE "Sum" 5 ZjH [] (Zb (Za 0) (Zb (eOp ixD (Za 1) (eC (.int 1))) (Zb (eOp ixD (Za 1) (eC (.int 2))) (Zb (eOp ixD (Za 1) (eC (.int 3))) eNil)))))) sNext)
 (Zf (sIf (xB (eOp eqD (eOp ixD (Za 1) (eC (.int 0))) (eC (.str [116,117,114,110])))) (Zn (ZE "Turn" 5 ZjJ [] (Zb (Za 0) (Zb (eOp ixD (Za 1) (eC (.int 1))) (Zb (eOp ixD (Za 1) (eC (.int 2))) (Zb (eOp ixD (Za 1) (eC (.int 3))) eNil)))))) sNext)
 (Zn (ZE "Alike" 3 ZjL [] (Zb (Za 0) (Zb (eOp ixD (Za 1) (eC (.int 1))) eNil))))))))
noncomputable def XN:List D->Option D:=run 2 Ut
noncomputable def ZjU:DL.Env->Option Out:=
 (Zf (Zi 2 (Zx eNil))
 (Zf (YN (Xg (Zb (eOp modD (Zk 2 YZ [] (Zb (Za 0) (Zb (eC (.int 1)) eNil))) (eC (.int 7))) eNil)) (Yd 3) (Zf (Zi 4 (YJ (Xg (Zb (eC (.int 3)) eNil)) (Yd 0) (λ_=>some true) (Zk 2 YZ [] (Zb (Za 1) (Zb (eOp addD (eOp addD (eC (.int 2)) (eOp mulD (eC (.int 3)) (Za 2))) (Za 0)) eNil))) 1 [0,3]))
 (UK 2 (Zk 5 ZjT [] (Zb (Za 1) (Zb (eOp addD (eOp fdivD (eOp ixD (Za 4) (eC (.int 1))) (eC (.int 60))) (eOp fdivD (eOp ixD (Za 4) (eC (.int 2))) (eC (.int 90)))) (Zb (eOp ixD (Za 4) (eC (.int 0))) (Zb (eOp ixD (Za 4) (eC (.int 1))) (Zb (eOp ixD (Za 4) (eC (.int 2))) eNil)))))))))
 (Zn (Za 2))))
noncomputable def ZjV:List D->Option D:=run 5 ZjU
noncomputable def Zk7:DL.Env->Option Out:=
 (Zn (eCB (XH λbs=>bs.any id) (Zb (YJ (Yu (Za 1)) (Yd 0) (λ_=>some true) (Zk 3 Xj [] (Zb (Za 1) (Zb (Za 0) (Zb (Za 2) eNil)))) 1 [0,2]) eNil)))
noncomputable def U2:List D->Option D:=run 3 Zk7
noncomputable def ZjW:DL.Env->Option Out:=
 (Zf (Zi 3 (eC (.str [])))
 (Zf (Zi 4 (eC .non))
 (Zf (YN (Yu (eSl (Za 0) xNoP (xP (eC (.int 90))))) (Yd 5) (Zf (Zi 6 (eOp addD (Za 3) (eOp ixD (Za 1) (eOp modD (eOp fdivD (Za 5) (eC (.int 7))) (eCB lenD (Zb (Za 1) eNil))))))
 (Zf (YN (Xg (Zb (eCB lenD (Zb (Za 1) eNil)) eNil)) (Yd 7) (Zf (Zi 8 (eOp addD (Za 3) (eOp ixD (Za 1) (eOp modD (eOp addD (eOp fdivD (Za 5) (eC (.int 7))) (Za 7)) (eCB lenD (Zb (Za 1) eNil))))))
 (sIf (ZC (xB (eOp (Zw λi j=>decide (j<i)) (eOp modD (Za 5) (eC (.int 7))) (eC (.int 0)))) (ZC (xB (Zz (Za 4))) (Zu (xB (Zk 3 U2 [] (Zb (Za 1) (Zb (Za 2) (Zb (Za 8) eNil)))))))) (Zf (Zi 6 (Za 8))
 sBreak) sNext)))
 (Zf (Zi 3 (Za 6))
 (sIf (ZC (xB (Zz (Za 4))) (xB (Zk 3 U2 [] (Zb (Za 1) (Zb (Za 2) (Zb (Za 3) eNil)))))) (Zi 4 (eOp subD (eCB lenD (Zb (Za 3) eNil)) (eC (.int 1)))) sNext)))))
 (Zn (ZF (Zb (Za 3) (Zb (Za 4) eNil)))))))
noncomputable def ZjX:List D->Option D:=run 9 ZjW
noncomputable def Zk8:DL.Env->Option Out:=
 (Zf (Zi 2 (eC (.str [110,111,32,109,97,114,107])))
 (Zf (UP (Zi 2 (Xw "broken_at" tab_broken_at (Za 0) (Zb (Za 1) eNil))) (Vu "broken_at" tab_broken_at (Za 0) (Zb (Za 1) eNil)) ["BadMark"] 3 4 [ie_GrooveError,ie_ValueError,[("BadMark",false)]] (sIf (xB (eOp neD (Za 4) (Zx (Zb (eC (.bl true)) (Zb (eC (.bl true)) (Zb (eC (.bl false)) eNil)))))) (Zi 2 (eC (.str [97,110,111,116,104,101,114]))) sNext))
 (Zn (Za 2))))
noncomputable def Qp:List D->Option D:=run 5 Zk8
noncomputable def tab_keeps:XTab:=[("Rule",2,Vh,XX),("Gap",2,Vh,XX),("Never",2,Vh,XX),("Sum",2,Vh,XX),("Turn",2,Vh,XX),("Alike",2,Vh,XX),("All",2,Vh,XX)]
noncomputable def Zk9:DL.Env->Option Out:=
 (Zf (Zi 2 (eC (.str [110,111,32,109,97,114,107])))
 (Zf (Qk (Zi 2 (Xw "keeps" tab_keeps (Za 0) (Zb (Za 1) eNil))) (Vu "keeps" tab_keeps (Za 0) (Zb (Za 1) eNil)) ["BadMark"] (Zi 2 (eC (.str [110,111,32,109,97,114,107]))))
 (Zn (Za 2))))
noncomputable def Qq:List D->Option D:=run 3 Zk9
noncomputable def Zla:DL.Env->Option Out:=
 (Zf (Zi 3 (Zk 2 Qp [] (Zb (Za 0) (Zb (Za 1) eNil))))
 (Zf (Zi 4 (Zk 2 Qq [] (Zb (Za 0) (Zb (Za 1) eNil))))
 (Zf (sIf (xB (eOp eqD (Za 2) (eC (.str [110,111,32,109,97,114,107])))) (Zn (ZH (eOp eqD (Za 3) (eC (.str [110,111,32,109,97,114,107]))) (eOp eqD (Za 4) (eC (.str [110,111,32,109,97,114,107]))))) sNext)
 (Zf (sIf (xB (Zz (Za 2))) (Zn (ZH (Zz (Za 3)) (eOp isD (Za 4) (eC (.bl true))))) sNext)
 (Zn (ZH (Zk 1 ZjO [] (Zb (Za 3) eNil)) (ZH (eOp eqD (Za 3) (Za 2)) (eOp isD (Za 4) (eC (.bl false))))))))))
noncomputable def XB:List D->Option D:=run 5 Zla
noncomputable def Zlb:DL.Env->Option Out:=
 (Zf (Zi 2 (eC (.str [45,65,32,95,10,33,126,90,91,123])))
 (Zf (Zi 3 (YJ (Yu (eC (.str [97,98,99,100,101,102,103,104,105,106,107,108,109,110,111,112,113,114,115,116,117,118,119,120,121,122,48,49,50,51,52,53,54,55,56,57]))) (Yd 0) (xB (eOp (inD true) (Za 0) (Za 1))) (Za 0) 1 [0]))
 (Zf (sIf (xB (eOp eqD (eOp modD (Za 1) (eC (.int 3))) (eC (.int 0)))) (Zn (eOp ixD (Za 2) (eOp modD (eOp fdivD (Za 1) (eC (.int 3))) (eCB lenD (Zb (Za 2) eNil))))) sNext)
 (Zn (eOp ixD (Za 3) (eOp modD (eOp fdivD (Za 1) (eC (.int 3))) (eCB lenD (Zb (Za 3) eNil))))))))
noncomputable def U3:List D->Option D:=run 4 Zlb
noncomputable def Zlc:DL.Env->Option Out:=
 (Zf (Zi 3 (eC (.str [108,101,100])))
 (Zf (UP (Zy (Xw "step" tab_step (Za 0) (Zb (Za 1) (Zb (Za 2) eNil)))) (Vu "step" tab_step (Za 0) (Zb (Za 1) (Zb (Za 2) eNil))) ["BadMark"] 4 5 [ie_GrooveError,ie_ValueError,[("BadMark",false)]] (Zi 3 (eOp ixD (Zx (Zb (eC (.str [97,110,111,116,104,101,114])) (Zb (eC (.str [110,111,32,109,97,114,107])) eNil))) (eCB intD (Zb (eOp eqD (Za 5) (Zx (Zb (eC (.bl true)) (Zb (eC (.bl true)) (Zb (eC (.bl false)) eNil))))) eNil)))))
 (Zn (Za 3))))
noncomputable def Q0:List D->Option D:=run 6 Zlc
noncomputable def ZjY:DL.Env->Option Out:=
 (Zf (Zi 4 (ZA "begin" tab_begin (Za 1) eNil))
 (Zf (YN (Yu (Za 2)) (Yd 5) (Zi 4 (Xw "step" tab_step (Za 1) (Zb (Za 4) (Zb (Za 5) eNil)))))
 (Zf (YN (Yu (Zx (Zb (eC (.str [])) (Zb (eC (.str [45])) (Zb (eC (.str [32])) (Zb (eSl (Za 0) xNoP (xP (eC (.int 2)))) (Zb (Qj (Za 0)) (Zb (Za 3) eNil)))))))) (Yd 6) (Zf (sIf (xB (eOp neD (Zk 3 Q0 [] (Zb (Za 1) (Zb (ZA "begin" tab_begin (Za 1) eNil) (Zb (Za 6) eNil)))) (eC (.str [110,111,32,109,97,114,107])))) (Zn (eC (.bl false))) sNext)
 (sIf (xB (eOp neD (Zk 3 Q0 [] (Zb (Za 1) (Zb (Za 4) (Zb (Za 6) eNil)))) (eC (.str [110,111,32,109,97,114,107])))) (Zn (eC (.bl false))) sNext)))
 (Zn (eC (.bl true))))))
noncomputable def JU:List D->Option D:=run 7 ZjY
noncomputable def ZjZ:DL.Env->Option Out:=
 (Zf (YN (Xg (Zb (eCB lenD (Zb (Za 2) eNil)) eNil)) (Yd 3) (sIf (xB (Zk 3 Xj [] (Zb (Za 0) (Zb (Za 1) (Zb (eSl (Za 2) xNoP (xP (eOp addD (Za 3) (eC (.int 1))))) eNil))))) (Zn (Za 3)) sNext))
 (Zn (eC .non)))
noncomputable def JV:List D->Option D:=run 4 ZjZ
noncomputable def Zj0:DL.Env->Option Out:=
 (Zf (YN (Yu (Za 1)) (Yd 5) (Zf (Zi 6 (eC (.str [110,111,32,109,97,114,107])))
 (Zf (Zi 7 (Zk 3 JV [] (Zb (Za 0) (Zb (Za 5) (Zb (eSl (Za 2) xNoP (xP (Za 3))) eNil)))))
 (Zf (sIf (xB (ZD (Za 7))) (Zi 6 (Za 7)) sNext)
 (sIf (Zu (xB (Zk 3 XB [] (Zb (Zk 2 XN [] (Zb (Za 0) (Zb (Za 5) eNil))) (Zb (eOp addD (eOp addD (eSl (Za 2) xNoP (xP (Za 3))) (Za 4)) (eSl (Za 2) (xP (Za 3)) xNoP)) (Zb (Za 6) eNil)))))) (Zn (eC (.bl false))) sNext)))))
 (Zn (eC (.bl true))))
noncomputable def Zj1:List D->Option D:=run 8 Zj0
noncomputable def Zj2:DL.Env->Option Out:=
 (Zf (Zi 1 (Zk 1 JT [] (Zb (Zk 2 YZ [] (Zb (Za 0) (Zb (eC (.int 0)) eNil))) eNil)))
 (Zf (Zi 2 (Zk 2 ZjV [] (Zb (Za 0) (Zb (Za 1) eNil))))
 (Zf (QS (YX 2 (Yr 3 (Yr 4 gsNil))) (Zk 3 ZjX [] (Zb (Za 0) (Zb (Za 1) (Zb (Za 2) eNil)))))
 (Zf (Zi 5 (YJ (Yu (Za 2)) (Yd 0) (λ_=>some true) (Zk 2 XN [] (Zb (Za 1) (Zb (Za 0) eNil))) 1 [1]))
 (Zf (Zi 6 (ZE "All" 3 ZjM [] (Zb (Za 1) (Zb (Za 5) eNil))))
 (Zf (Zi 7 (Za 3))
 (Zf (sIf (xB (ZD (Za 4))) (Zi 7 (eSl (Za 3) xNoP (xP (Za 4)))) sNext)
 (Zf (Zi 8 (Zk 2 U3 [] (Zb (Za 1) (Zb (eOp fdivD (Zk 2 YZ [] (Zb (Za 0) (Zb (eC (.int 4)) eNil))) (eC (.int 11))) eNil))))
 (Zf (YN (Yu (eOp JI (Za 5) (Zx (Zb (Za 6) (Zb (ZE "Rule" 2 X4 [] (Zb (Za 1) eNil)) eNil))))) (Yd 9) (sIf (Zu (xB (Zk 4 JU [] (Zb (Za 1) (Zb (Za 9) (Zb (Za 7) (Zb (Za 8) eNil))))))) (Zn (eC (.bl false))) sNext))
 (Zf (sIf (xOr (Zu (xB (Zk 3 XB [] (Zb (Za 6) (Zb (Za 3) (Zb (Za 4) eNil)))))) (Zu (xB (Zk 3 XB [] (Zb (ZE "Rule" 2 X4 [] (Zb (Za 1) eNil)) (Zb (Za 3) (Zb (eC .non) eNil))))))) (Zn (eC (.bl false))) sNext)
 (Zf (sIf (ZC (xB (ZD (Za 4))) (Zu (xB (Zk 3 XB [] (Zb (Za 6) (Zb (eSl (Za 3) xNoP (xP (Za 4))) (Zb (eC .non) eNil))))))) (Zn (eC (.bl false))) sNext)
 (Zf (sIf (xB (eOp eqD (eOp modD (eOp fdivD (Zk 2 YZ [] (Zb (Za 0) (Zb (eC (.int 2)) eNil))) (eC (.int 11))) (eC (.int 3))) (eC (.int 1)))) (Zf (Zi 10 (eOp modD (Zk 2 YZ [] (Zb (Za 0) (Zb (eC (.int 3)) eNil))) (eOp addD (eCB lenD (Zb (Za 3) eNil)) (eC (.int 1)))))
 (Zf (Zi 11 (Zk 2 U3 [] (Zb (Za 1) (Zb (eOp fdivD (Zk 2 YZ [] (Zb (Za 0) (Zb (eC (.int 3)) eNil))) (eC (.int 97))) eNil))))
 (Zf (Zi 12 (eC (.str [110,111,32,109,97,114,107])))
 (Zf (sIf (ZC (xB (ZD (Za 4))) (xB (eOp (Zw λi j=>decide (i<j)) (Za 4) (Za 10)))) (Zi 12 (Za 4)) sNext)
 (Zf (sIf (Zu (xB (Zk 3 XB [] (Zb (Za 6) (Zb (eOp addD (eOp addD (eSl (Za 3) xNoP (xP (Za 10))) (Za 11)) (eSl (Za 3) (xP (Za 10)) xNoP)) (Zb (Za 12) eNil)))))) (Zn (eC (.bl false))) sNext)
 (Zf (sIf (Zu (xB (Zk 5 Zj1 [] (Zb (Za 1) (Zb (Za 2) (Zb (Za 3) (Zb (Za 10) (Zb (Za 11) eNil)))))))) (Zn (eC (.bl false))) sNext)
 (Zn (Zk 3 XB [] (Zb (ZE "Rule" 2 X4 [] (Zb (Za 1) eNil)) (Zb (eOp addD (eOp addD (eSl (Za 3) xNoP (xP (Za 10))) (Za 11)) (eSl (Za 3) (xP (Za 10)) xNoP)) (Zb (eC (.str [110,111,32,109,97,114,107])) eNil))))))))))) sNext)
 (Zn (eC (.bl true)))))))))))))))
noncomputable def JW:List D->Option D:=run 13 Zj2
end K06
namespace K06
open PySem PySem.Spec L2 DL
def top(i:Nat):Stmt:=PySem.Challenge.pw_grooveway_k06_whole_rows_kept.main.body.getD i (.Pass ⟨0,0,0,0⟩)
abbrev Zci:Stmt:=top 0
abbrev JX:Stmt:=top 8
abbrev Zj3:Stmt:=top 9
abbrev Zj4:Stmt:=top 10
abbrev Zj5:Stmt:=top 11
abbrev Zj6:Stmt:=Y6 (top 12) 0
abbrev Zj7:Stmt:=Y6 (top 12) 1
abbrev Zj8:Stmt:=Y6 (top 12) 3
abbrev Zj9:Stmt:=Y6 (top 13) 2
abbrev Zka:Stmt:=Y6 (top 14) 1
abbrev Zkb:Stmt:=Y6 (top 15) 1
abbrev Zkc:Stmt:=Y6 (top 16) 1
abbrev Zkd:Stmt:=Y6 (top 17) 2
abbrev Zke:Stmt:=Y6 (top 18) 2
abbrev Zkf:Stmt:=Y6 (top 12) 2
abbrev Zkg:Stmt:=Y6 (top 13) 1
abbrev Zkh:Stmt:=Y6 (top 17) 1
abbrev JY:Stmt:=Y6 (top 18) 1
abbrev Zki:Stmt:=Y6 (top 12) 4
abbrev Zkj:Stmt:=Y6 (top 12) 5
abbrev Uu:Stmt:=Y6 (top 13) 0
abbrev JZ:Stmt:=Y6 (top 14) 0
abbrev J0:Stmt:=Y6 (top 15) 0
abbrev Zkk:Stmt:=Y6 (top 16) 0
abbrev Zkl:Stmt:=Y6 (top 17) 0
abbrev Q1:Stmt:=Y6 (top 18) 0
abbrev Zaa:Stmt:=Y6 (top 18) 3
abbrev Zkm:Stmt:=top 20
abbrev Zkn:Stmt:=top 21
abbrev J4:Stmt:=top 22
abbrev Zko:Stmt:=top 23
abbrev J5:Stmt:=top 24
abbrev Zkp:Stmt:=top 25
abbrev J6:Stmt:=top 26
abbrev Zkq:Stmt:=top 27
abbrev J7:Stmt:=top 28
abbrev J8:Stmt:=top 29
abbrev Zkr:Stmt:=top 30
abbrev Zks:Stmt:=top 31
abbrev Zkt:Stmt:=top 32
abbrev Zku:Stmt:=top 33
abbrev J9:Stmt:=top 34
abbrev Zkv:Stmt:=top 35
abbrev Zkw:Stmt:=top 36
abbrev Zkx:Stmt:=top 37
abbrev Zky:Stmt:=top 38
abbrev ZhF:Stmt:=top 39
theorem Zlt:FnScope ["marks"] ["marks"] (defScope JX):=fsm
theorem Zlu:FnScope ["marks", "text"] ["marks", "text"] (defScope Zj3):=fsm
theorem Zlv:FnScope ["number", "low", "high"] ["number", "low", "high"] (defScope Zj4):=fsm
theorem Zlw:FnScope ["holds", "words"] ["holds", "words"] (defScope Zj5):=fsm
theorem Zlx:FnScope ["self", "marks"] ["self", "marks"] (defScope Zj6):=fsm
theorem Zly:FnScope ["self"] ["self"] (defScope Zj7):=fsm
theorem Zlz:FnScope ["self", "state", "mark"] ["self", "state", "mark"] (defScope Zj8):=fsm
theorem ZlA:FnScope ["self", "state", "mark"] ["self", "state", "mark"] (defScope Zj9):=fsm
theorem ZlB:FnScope ["self", "state", "mark", "end", "length"] ["self", "state", "mark"] (defScope Zka):=fsm
theorem ZlC:FnScope ["self", "state", "mark", "total"] ["self", "state", "mark"] (defScope Zkb):=fsm
theorem ZlD:FnScope ["self", "state", "mark"] ["self", "state", "mark"] (defScope Zkc):=fsm
theorem ZlE:FnScope ["self", "state", "mark", "number", "many"] ["self", "state", "mark"] (defScope Zkd):=fsm
theorem ZlF:FnScope ["self", "state", "mark", "states", "rule", "own", "after"] ["self", "state", "mark"] (defScope Zke):=fsm
theorem Zh7:FnScope ["self", "state", "mark"] ["self", "state", "mark"] (defScope Zkf):=fsm
theorem ZlG:FnScope ["self"] ["self"] (defScope Zkg):=fsm
theorem ZlH:FnScope ["self"] ["self"] (defScope Zkh):=fsm
theorem ZlI:FnScope ["self"] ["self"] (defScope JY):=fsm
theorem ZlJ:FnScope ["self", "row", "state", "place", "mark"] ["self", "row"] (defScope Zki):=fsm
theorem ZlK:FnScope ["self", "row"] ["self", "row"] (defScope Zkj):=fsm
theorem ZlL:FnScope ["self", "marks", "mark", "least", "most"] ["self", "marks", "mark", "least", "most"] (defScope Uu):=fsm
theorem ZlM:FnScope ["self", "marks", "word"] ["self", "marks", "word"] (defScope JZ):=fsm
theorem ZlN:FnScope ["self", "marks", "worths", "low", "high"] ["self", "marks", "worths", "low", "high"] (defScope J0):=fsm
theorem ZlO:FnScope ["self", "marks", "mark", "every", "at"] ["self", "marks", "mark", "every", "at"] (defScope Zkk):=fsm
theorem ZlP:FnScope ["self", "marks", "most"] ["self", "marks", "most"] (defScope Zkl):=fsm
theorem ZlQ:FnScope ["self", "marks", "rules"] ["self", "marks", "rules"] (defScope Q1):=fsm
theorem ZlR:FnScope ["script", "k"] ["script", "k"] (defScope Zkm):=fsm
theorem ZlS:FnScope ["found"] ["found"] (defScope Zkn):=fsm
theorem ZlT:FnScope ["cell", "some", "step"] ["cell"] (defScope J4):=fsm
theorem ZlU:FnScope ["rule", "row", "last"] ["rule", "row"] (defScope Zko):=fsm
theorem ZlV:FnScope ["marks", "rule", "row"] ["marks", "rule", "row"] (defScope J5):=fsm
theorem ZlW:FnScope ["marks", "rule", "row", "others", "total"] ["marks", "rule", "row"] (defScope Zkp):=fsm
theorem ZlX:FnScope ["marks", "kind", "one", "two", "three", "mark", "lowest", "size", "worths", "every"] ["marks", "kind", "one", "two", "three"] (defScope J6):=fsm
theorem ZlY:FnScope ["marks", "rule"] ["marks", "rule"] (defScope Zkq):=fsm
theorem ZlZ:FnScope ["script", "marks", "rules", "k", "cells"] ["script", "marks"] (defScope J7):=fsm
theorem Zl0:FnScope ["marks", "rules", "row"] ["marks", "rules", "row"] (defScope J8):=fsm
theorem Zl1:FnScope ["script", "marks", "rules", "row", "broken", "cell", "wish", "step", "other"] ["script", "marks", "rules"] (defScope Zkr):=fsm
theorem Zl2:FnScope ["rule", "row", "told", "e", "kinds"] ["rule", "row"] (defScope Zks):=fsm
theorem Zl3:FnScope ["rule", "row", "told"] ["rule", "row"] (defScope Zkt):=fsm
theorem Zl4:FnScope ["rule", "row", "due", "found", "kept"] ["rule", "row", "due"] (defScope Zku):=fsm
theorem Zl5:FnScope ["marks", "cell", "odd", "near"] ["marks", "cell"] (defScope J9):=fsm
theorem Zl6:FnScope ["rule", "state", "sign", "told", "e", "kinds"] ["rule", "state", "sign"] (defScope Zkv):=fsm
theorem Zl7:FnScope ["marks", "rule", "row", "strange", "state", "mark", "sign"] ["marks", "rule", "row", "strange"] (defScope Zkw):=fsm
theorem Zl8:FnScope ["marks", "rule", "row", "k"] ["marks", "rule", "row"] (defScope Zkx):=fsm
theorem Zl9:FnScope ["marks", "rules", "row", "at", "sign", "rule", "due", "broken"] ["marks", "rules", "row", "at", "sign"] (defScope Zky):=fsm
theorem Zma:FnScope ["script", "marks", "rules", "row", "broken", "singles", "every", "kept", "strange", "rule", "at", "sign", "due"] ["script"] (defScope ZhF):=fsm
structure Adr where
 (a__wall a_QL a_Qh a_Qg a_Qi a_Q3 a_QV a_QJ a_QX a_QF a_QS a_QI a_QG a_QZ a_Q7 a_Q6 a_QM a_Q8 a_QD a_Q1 a_Qc a_QO a_Qf a_Qa a_QR a_Qb a_All_rules_told a_QH a_QQ a_QY a_QN a_QT a_QK a_Q5 a_Q4 a_QW a_Qd a_Qe a_QP a_Q2 a_Q9 a_QE a_QC a_QA a_Q0 a_QB a_Qj c_GrooveError c_BadMarks c_BadRule c_BadMark c_Rule c_Gap c_Never c_Sum c_Turn c_Alike c_All:Addr)
 (d__wall d_QL d_Qh d_Qg d_Qi d_Q3 d_QV d_QJ d_QX d_QF d_QS d_QI d_QG d_QZ d_Q7 d_Q6 d_QM d_Q8 d_QD d_Q1 d_Qc d_QO d_Qf d_Qa d_QR d_Qb d_All_rules_told d_QH d_QQ d_QY d_QN d_QT d_QK d_Q5 d_Q4 d_QW d_Qd d_Qe d_QP d_Q2 d_Q9 d_QE d_QC d_QA d_Q0 d_QB d_Qj:FuncData)
 (u_MARK_SIGNS:Value)
def Adr.c(t:Adr):String->Addr:=λc=>if c = "Rule" then t.c_Rule else if c = "Gap" then t.c_Gap else if c = "Never" then t.c_Never else if c = "Sum" then t.c_Sum else if c = "Turn" then t.c_Turn else if c = "Alike" then t.c_Alike else if c = "All" then t.c_All else if c = "BadMark" then t.c_BadMark else if c = "BadMarks" then t.c_BadMarks else if c = "BadRule" then t.c_BadRule else if c = "GrooveError" then t.c_GrooveError else 0
structure Txt(K:PySem.W.Frag)(mg:Str->Option Value)(t:Adr):Prop where
 p__wall:Dg K mg "_wall" Zci t.a__wall t.d__wall ["k"]
 p_QL:Dg K mg "marks_stand" JX t.a_QL t.d_QL ["marks"]
 p_Qh:Dg K mg "is_mark" Zj3 t.a_Qh t.d_Qh ["marks", "text"]
 p_Qg:Dg K mg "is_whole" Zj4 t.a_Qg t.d_Qg ["number", "low", "high"]
 p_Qi:Dg K mg "demand" Zj5 t.a_Qi t.d_Qi ["holds", "words"]
 p_Q3:Df K "__init__" "Rule.__init__" Zj6 t.a_Q3 t.d_Q3 ["self", "marks"]
 p_QV:Df K "begin" "Rule.begin" Zj7 t.a_QV t.d_QV ["self"]
 p_QJ:Df K "behind" "Rule.behind" Zj8 t.a_QJ t.d_QJ ["self", "state", "mark"]
 p_QX:Df K "behind" "Gap.behind" Zj9 t.a_QX t.d_QX ["self", "state", "mark"]
 p_QF:Df K "behind" "Never.behind" Zka t.a_QF t.d_QF ["self", "state", "mark"]
 p_QS:Df K "behind" "Sum.behind" Zkb t.a_QS t.d_QS ["self", "state", "mark"]
 p_QI:Df K "behind" "Turn.behind" Zkc t.a_QI t.d_QI ["self", "state", "mark"]
 p_QG:Df K "behind" "Alike.behind" Zkd t.a_QG t.d_QG ["self", "state", "mark"]
 p_QZ:Df K "behind" "All.behind" Zke t.a_QZ t.d_QZ ["self", "state", "mark"]
 p_Q7:Df K "step" "Rule.step" Zkf t.a_Q7 t.d_Q7 ["self", "state", "mark"]
 p_Q6:Df K "begin" "Gap.begin" Zkg t.a_Q6 t.d_Q6 ["self"]
 p_QM:Df K "begin" "Alike.begin" Zkh t.a_QM t.d_QM ["self"]
 p_Q8:Df K "begin" "All.begin" JY t.a_Q8 t.d_Q8 ["self"]
 p_QD:Df K "broken_at" "Rule.broken_at" Zki t.a_QD t.d_QD ["self", "row"]
 p_Q1:Df K "keeps" "Rule.keeps" Zkj t.a_Q1 t.d_Q1 ["self", "row"]
 f_Qc:FunX K "__init__" "Gap.__init__" Uu t.a_Qc t.d_Qc
 b_Qc:Binds K t.d_Qc ["self", "marks", "mark", "least", "most"] []
 b1_Gap_init:Binds K t.d_Qc ["self", "marks", "mark", "least", "most"] [.none]
 k_Qc:keepIn K (.ref t.a_Qc)=true
 p_QO:Df K "__init__" "Never.__init__" JZ t.a_QO t.d_QO ["self", "marks", "word"]
 p_Qf:Df K "__init__" "Sum.__init__" J0 t.a_Qf t.d_Qf ["self", "marks", "worths", "low", "high"]
 p_Qa:Df K "__init__" "Turn.__init__" Zkk t.a_Qa t.d_Qa ["self", "marks", "mark", "every", "at"]
 p_QR:Df K "__init__" "Alike.__init__" Zkl t.a_QR t.d_QR ["self", "marks", "most"]
 p_Qb:Df K "__init__" "All.__init__" Q1 t.a_Qb t.d_Qb ["self", "marks", "rules"]
 p_All_rules_told:Df K "rules_told" "All.rules_told" Zaa t.a_All_rules_told t.d_All_rules_told ["self"]
 p_QH:Dg K mg "_law_cell_at" Zkm t.a_QH t.d_QH ["script", "k"]
 p_QQ:Dg K mg "_law_whole" Zkn t.a_QQ t.d_QQ ["found"]
 p_QY:Dg K mg "_law_marks" J4 t.a_QY t.d_QY ["cell"]
 p_QN:Dg K mg "_law_others" Zko t.a_QN t.d_QN ["rule", "row"]
 p_QT:Dg K mg "_law_total" J5 t.a_QT t.d_QT ["marks", "rule", "row"]
 p_QK:Dg K mg "_law_breaks" Zkp t.a_QK t.d_QK ["marks", "rule", "row"]
 p_Q5:Dg K mg "_law_rule" J6 t.a_Q5 t.d_Q5 ["marks", "kind", "one", "two", "three"]
 p_Q4:Dg K mg "_law_made" Zkq t.a_Q4 t.d_Q4 ["marks", "rule"]
 p_QW:Dg K mg "_law_rules" J7 t.a_QW t.d_QW ["script", "marks"]
 p_Qd:Dg K mg "_law_any" J8 t.a_Qd t.d_Qd ["marks", "rules", "row"]
 p_Qe:Dg K mg "_law_row" Zkr t.a_Qe t.d_Qe ["script", "marks", "rules"]
 p_QP:Dg K mg "_law_asked" Zks t.a_QP t.d_QP ["rule", "row"]
 p_Q2:Dg K mg "_law_kept" Zkt t.a_Q2 t.d_Q2 ["rule", "row"]
 p_Q9:Dg K mg "_law_fair" Zku t.a_Q9 t.d_Q9 ["rule", "row", "due"]
 p_QE:Dg K mg "_law_strange" J9 t.a_QE t.d_QE ["marks", "cell"]
 p_QC:Dg K mg "_law_step_told" Zkv t.a_QC t.d_QC ["rule", "state", "sign"]
 p_QA:Dg K mg "_law_steps_refused" Zkw t.a_QA t.d_QA ["marks", "rule", "row", "strange"]
 p_Q0:Dg K mg "_law_first" Zkx t.a_Q0 t.d_Q0 ["marks", "rule", "row"]
 p_QB:Dg K mg "_law_singles_fair" Zky t.a_QB t.d_QB ["marks", "rules", "row", "at", "sign"]
 p_Qj:Dg K mg "law" ZhF t.a_Qj t.d_Qj ["script"]
 n_ValueError:mg "ValueError" = none
 n_all:mg "all" = none
 n_any:mg "any" = none
 n_bool:mg "bool" = none
 n_enumerate:mg "enumerate" = none
 n_int:mg "int" = none
 n_isinstance:mg "isinstance" = none
 n_len:mg "len" = none
 n_min:mg "min" = none
 n_range:mg "range" = none
 n_sum:mg "sum" = none
 n_tuple:mg "tuple" = none
 n_zip:mg "zip" = none
 g_MARK_SIGNS:mg "MARK_SIGNS" = some t.u_MARK_SIGNS
 r_MARK_SIGNS:RelV (S cs_MARK_SIGNS) t.u_MARK_SIGNS
 g_Rule:mg "Rule" = some (.ref t.c_Rule)
 cl_Rule:Cls K t.c_Rule
 ci_Rule:ClsI K t.c_Rule
 mk_Rule:Mk K t.c_Rule t.a_Q3
 g_Gap:mg "Gap" = some (.ref t.c_Gap)
 cl_Gap:Cls K t.c_Gap
 ci_Gap:ClsI K t.c_Gap
 mk_Gap:Mk K t.c_Gap t.a_Qc
 g_Never:mg "Never" = some (.ref t.c_Never)
 cl_Never:Cls K t.c_Never
 ci_Never:ClsI K t.c_Never
 mk_Never:Mk K t.c_Never t.a_QO
 g_Sum:mg "Sum" = some (.ref t.c_Sum)
 cl_Sum:Cls K t.c_Sum
 ci_Sum:ClsI K t.c_Sum
 mk_Sum:Mk K t.c_Sum t.a_Qf
 g_Turn:mg "Turn" = some (.ref t.c_Turn)
 cl_Turn:Cls K t.c_Turn
 ci_Turn:ClsI K t.c_Turn
 mk_Turn:Mk K t.c_Turn t.a_Qa
 g_Alike:mg "Alike" = some (.ref t.c_Alike)
 cl_Alike:Cls K t.c_Alike
 ci_Alike:ClsI K t.c_Alike
 mk_Alike:Mk K t.c_Alike t.a_QR
 g_All:mg "All" = some (.ref t.c_All)
 cl_All:Cls K t.c_All
 ci_All:ClsI K t.c_All
 mk_All:Mk K t.c_All t.a_Qb
 fl_at:Va K ⟨t.c,K⟩ UT "at"
 fl_every:Va K ⟨t.c,K⟩ UU "every"
 fl_high:Va K ⟨t.c,K⟩ UV "high"
 fl_least:Va K ⟨t.c,K⟩ Vw "least"
 fl_low:Va K ⟨t.c,K⟩ UW "low"
 fl_mark:Va K ⟨t.c,K⟩ XU "mark"
 fl_marks:Va K ⟨t.c,K⟩ fc_marks "marks"
 fl_most:Va K ⟨t.c,K⟩ Xz "most"
 fl_rules:Va K ⟨t.c,K⟩ UX "rules"
 fl_word:Va K ⟨t.c,K⟩ Vg "word"
 fl_worths:Va K ⟨t.c,K⟩ UY "worths"
 g_BadMark:mg "BadMark" = some (.ref t.c_BadMark)
 ex_BadMark:ExCls K t.c_BadMark
 g_BadMarks:mg "BadMarks" = some (.ref t.c_BadMarks)
 g_BadRule:mg "BadRule" = some (.ref t.c_BadRule)
 g_GrooveError:mg "GrooveError" = some (.ref t.c_GrooveError)
 xm_BadMark:∀c∈(["BadMark"]:List String),ExCls K (t.c c)/\PySem.W.exmOne K (.ref (t.c c)) (.ref t.c_BadMark)=some true
 ie_GrooveError:Qf K ⟨t.c,K⟩ (.ref (t.c "GrooveError")) ie_GrooveError
 ie_ValueError:Qf K ⟨t.c,K⟩ (.ty "ValueError") ie_ValueError
 ie_BadMarks:Qf K ⟨t.c,K⟩ (.ref (t.c "BadMarks")) ie_BadMarks
 ie_BadRule:Qf K ⟨t.c,K⟩ (.ref (t.c "BadRule")) ie_BadRule
 me_Rule_begin:Meth K t.c_Rule (Str.ofString "begin") t.a_QV
 me_Gap_begin:Meth K t.c_Gap (Str.ofString "begin") t.a_Q6
 me_Never_begin:Meth K t.c_Never (Str.ofString "begin") t.a_QV
 me_Sum_begin:Meth K t.c_Sum (Str.ofString "begin") t.a_QV
 me_Turn_begin:Meth K t.c_Turn (Str.ofString "begin") t.a_QV
 me_Alike_begin:Meth K t.c_Alike (Str.ofString "begin") t.a_QM
 me_All_begin:Meth K t.c_All (Str.ofString "begin") t.a_Q8
 me_Rule_behind:Meth K t.c_Rule (Str.ofString "behind") t.a_QJ
 me_Gap_behind:Meth K t.c_Gap (Str.ofString "behind") t.a_QX
 me_Never_behind:Meth K t.c_Never (Str.ofString "behind") t.a_QF
 me_Sum_behind:Meth K t.c_Sum (Str.ofString "behind") t.a_QS
 me_Turn_behind:Meth K t.c_Turn (Str.ofString "behind") t.a_QI
 me_Alike_behind:Meth K t.c_Alike (Str.ofString "behind") t.a_QG
 me_All_behind:Meth K t.c_All (Str.ofString "behind") t.a_QZ
 me_Rule_broken_at:Meth K t.c_Rule (Str.ofString "broken_at") t.a_QD
 me_Gap_broken_at:Meth K t.c_Gap (Str.ofString "broken_at") t.a_QD
 me_Never_broken_at:Meth K t.c_Never (Str.ofString "broken_at") t.a_QD
 me_Sum_broken_at:Meth K t.c_Sum (Str.ofString "broken_at") t.a_QD
 me_Turn_broken_at:Meth K t.c_Turn (Str.ofString "broken_at") t.a_QD
 me_Alike_broken_at:Meth K t.c_Alike (Str.ofString "broken_at") t.a_QD
 me_All_broken_at:Meth K t.c_All (Str.ofString "broken_at") t.a_QD
 me_Rule_keeps:Meth K t.c_Rule (Str.ofString "keeps") t.a_Q1
 me_Gap_keeps:Meth K t.c_Gap (Str.ofString "keeps") t.a_Q1
 me_Never_keeps:Meth K t.c_Never (Str.ofString "keeps") t.a_Q1
 me_Sum_keeps:Meth K t.c_Sum (Str.ofString "keeps") t.a_Q1
 me_Turn_keeps:Meth K t.c_Turn (Str.ofString "keeps") t.a_Q1
 me_Alike_keeps:Meth K t.c_Alike (Str.ofString "keeps") t.a_Q1
 me_All_keeps:Meth K t.c_All (Str.ofString "keeps") t.a_Q1
 me_Rule_step:Meth K t.c_Rule (Str.ofString "step") t.a_Q7
 me_Gap_step:Meth K t.c_Gap (Str.ofString "step") t.a_Q7
 me_Never_step:Meth K t.c_Never (Str.ofString "step") t.a_Q7
 me_Sum_step:Meth K t.c_Sum (Str.ofString "step") t.a_Q7
 me_Turn_step:Meth K t.c_Turn (Str.ofString "step") t.a_Q7
 me_Alike_step:Meth K t.c_Alike (Str.ofString "step") t.a_Q7
 me_All_step:Meth K t.c_All (Str.ofString "step") t.a_Q7
 cm_Rule_init:CMeth K t.c_Rule "__init__" t.a_Q3
 isi_All:IsiOk K ⟨t.c,K⟩ (.ref t.c_All) it_All
 isi_bool:IsiOk K ⟨t.c,K⟩ (.type "bool") QU
 isi_int:IsiOk K ⟨t.c,K⟩ (.type "int") QV
end K06
namespace K06
open PySem PySem.W L2 HT
def kP:Params->PySem.W.Frag:=λP=>
 (nat_lit 2,dO .none [] 0) ::
 (nat_lit 3,dO (.type "dict") [de P "__name__" 165 (.str "law_grooveway_k06_whole_rows_kept" 617),de P "__doc__" 166 .none,de P "__package__" 167 .none,de P "__loader__" 168 (.builtin "__main__.__loader__#opaque"),de P "__spec__" 169 .none,de P "__annotations__" 170 (.ref 6),de P "__builtins__" 171 (.ref 4),de P "__file__" 173 (.str "/claim/cut.py" 172),de P "__cached__" 174 .none,de P "_wall" 193 (.ref 21),de P "GrooveError" 213 (.ref 31),de P "BadMarks" 229 (.ref 44),de P "BadRule" 245 (.ref 56),de P "BadMark" 261 (.ref 68),de P "MARK_SIGNS" 265 (.str "abcdefghijklmnopqrstuvwxyz0123456789" 264),de P "marks_stand" 271 (.ref 75),de P "is_mark" 279 (.ref 82),de P "is_whole" 288 (.ref 89),de P "demand" 296 (.ref 96),de P "Rule" 369 (.ref 148),de P "Gap" 415 (.ref 184),de P "Never" 449 (.ref 208),de P "Sum" 484 (.ref 232),de P "Turn" 523 (.ref 258),de P "Alike" 567 (.ref 291),de P "All" 616 (.ref 327),de P "_law_cell_at" 626 (.ref 336),de P "_law_whole" 633 (.ref 343),de P "_law_marks" 639 (.ref 348),de P "_law_others" 648 (.ref 355),de P "_law_total" 654 (.ref 360),de P "_law_breaks" 665 (.ref 367),de P "_law_rule" 671 (.ref 372),de P "_law_made" 679 (.ref 379),de P "_law_rules" 685 (.ref 384),de P "_law_any" 691 (.ref 389),de P "_law_row" 706 (.ref 396),de P "_law_asked" 717 (.ref 403),de P "_law_kept" 726 (.ref 410),de P "_law_fair" 737 (.ref 417),de P "_law_strange" 743 (.ref 422),de P "_law_step_told" 755 (.ref 429),de P "_law_steps_refused" 768 (.ref 436),de P "_law_first" 778 (.ref 443),de P "_law_singles_fair" 792 (.ref 450),de P "law" 798 (.ref 455)] 46) ::
 (nat_lit 20,c3 "_wall" "_wall" 187 1 1 3 15 16 (.ref 17) (.ref 18) 19 191 192) ::
 (nat_lit 21,f3 "_wall" "_wall" Zci "__main__" 164 20) ::
 (nat_lit 30,dO (.type "dict") [de P "__module__" 203 (.str "grooveway.errors" 194),de P "__firstlineno__" 207 (.int 5 206),de P "__static_attributes__" 208 (.ref 29),de P "__weakref__" 210 (.ref 32),de P "__doc__" 211 .none] 3) ::
 (nat_lit 31,⟨(.type "type"),none,.cls ⟨"GrooveError",[(.type "ValueError")],[(.ref 31),(.type "ValueError"),(.type "Exception"),(.type "BaseException"),(.type "object")],30, "GrooveError",true,[],[(.ref 44),(.ref 56),(.ref 68)],false,none,false⟩,#[some (.ref 22),none,some (.str "GrooveError" 196),some (.str "GrooveError" 204),some (.builtin "ValueError.__new__"),some (.bool true)]⟩) ::
 (nat_lit 32,⟨(.type "getset_descriptor"),none,.fields #[(.str "__weakref__" 209),(.ref 31),(.builtin "ExceptionGroup.__weakref__"),.none],#[]⟩) ::
 (nat_lit 43,x3 P "grooveway.errors" 194 221 225 7 224 226 42 227 2) ::
 (nat_lit 44,k3 "BadMarks" 44 31 43 35 214 222) ::
 (nat_lit 55,x3 P "grooveway.errors" 194 237 241 9 240 242 54 243 2) ::
 (nat_lit 56,k3 "BadRule" 56 31 55 47 230 238) ::
 (nat_lit 67,x3 P "grooveway.errors" 194 253 257 11 256 258 66 259 2) ::
 (nat_lit 68,k3 "BadMark" 68 31 67 59 246 254) ::
 (nat_lit 74,c3 "marks_stand" "marks_stand" 266 15 1 3 71 72 .none .none 73 269 270) ::
 (nat_lit 75,f3 "marks_stand" "marks_stand" JX "grooveway.rules" 262 74) ::
 (nat_lit 81,c3 "is_mark" "is_mark" 272 19 2 3 76 77 (.ref 78) (.ref 79) 80 277 278) ::
 (nat_lit 82,f3 "is_mark" "is_mark" Zj3 "grooveway.rules" 262 81) ::
 (nat_lit 88,c3 "is_whole" "is_whole" 280 21 3 3 83 84 (.ref 85) (.ref 86) 87 286 287) ::
 (nat_lit 89,f3 "is_whole" "is_whole" Zj4 "grooveway.rules" 262 88) ::
 (nat_lit 95,c3 "demand" "demand" 289 25 2 3 90 91 (.ref 92) (.ref 93) 94 294 295) ::
 (nat_lit 96,f3 "demand" "demand" Zj5 "grooveway.rules" 262 95) ::
 (nat_lit 109,c3 "__init__" "Rule.__init__" 309 30 2 3 104 105 (.ref 106) (.ref 107) 108 314 315) ::
 (nat_lit 110,f3 "__init__" "Rule.__init__" Zj6 "grooveway.rules" 262 109) ::
 (nat_lit 116,c3 "begin" "Rule.begin" 317 35 1 3 111 112 (.ref 113) (.ref 114) 115 321 322) ::
 (nat_lit 117,f3 "begin" "Rule.begin" Zj7 "grooveway.rules" 262 116) ::
 (nat_lit 123,c3 "step" "Rule.step" 324 38 3 3 118 119 (.ref 120) (.ref 121) 122 330 331) ::
 (nat_lit 124,f3 "step" "Rule.step" Zkf "grooveway.rules" 262 123) ::
 (nat_lit 130,c3 "behind" "Rule.behind" 333 43 3 3 125 126 (.ref 127) (.ref 128) 129 339 340) ::
 (nat_lit 131,f3 "behind" "Rule.behind" Zj8 "grooveway.rules" 262 130) ::
 (nat_lit 137,c3 "broken_at" "Rule.broken_at" 342 46 2 3 132 133 (.ref 134) (.ref 135) 136 350 351) ::
 (nat_lit 138,f3 "broken_at" "Rule.broken_at" Zki "grooveway.rules" 262 137) ::
 (nat_lit 144,c3 "keeps" "Rule.keeps" 353 54 2 3 139 140 (.ref 141) (.ref 142) 143 358 359) ::
 (nat_lit 145,f3 "keeps" "Rule.keeps" Zkj "grooveway.rules" 262 144) ::
 (nat_lit 147,dO (.type "dict") [de P "__module__" 304 (.str "grooveway.rules" 262),de P "__firstlineno__" 308 (.int 28 307),de P "__init__" 316 (.ref 110),de P "begin" 323 (.ref 117),de P "step" 332 (.ref 124),de P "behind" 341 (.ref 131),de P "broken_at" 352 (.ref 138),de P "keeps" 360 (.ref 145),de P "__static_attributes__" 362 (.ref 146),de P "__dict__" 364 (.ref 149),de P "__weakref__" 366 (.ref 150),de P "__doc__" 367 .none] 4) ::
 (nat_lit 148,⟨(.type "type"),none,.cls ⟨"Rule",[(.type "object")],[(.ref 148),(.type "object")],147, "Rule",true,[],[(.ref 184),(.ref 208),(.ref 232),(.ref 258),(.ref 291),(.ref 327)],false,none,false⟩,#[none,none,some (.str "Rule" 297),some (.str "Rule" 305),some (.builtin "object.__new__"),some (.bool true)]⟩) ::
 (nat_lit 149,⟨(.type "getset_descriptor"),none,.fields #[(.str "__dict__" 363),(.ref 148),(.builtin "function.__dict__"),(.builtin "function.__dict__#set")],#[]⟩) ::
 (nat_lit 150,⟨(.type "getset_descriptor"),none,.fields #[(.str "__weakref__" 365),(.ref 148),(.builtin "ExceptionGroup.__weakref__"),.none],#[]⟩) ::
 (nat_lit 160,⟨(.type "tuple"),none,.seq #[.none] 0,#[]⟩) ::
 (nat_lit 166,c3 "__init__" "Gap.__init__" 382 58 5 3 161 162 (.ref 163) (.ref 164) 165 390 391) ::
 (nat_lit 167,fO "__init__" "Gap.__init__" Uu (.ref 160) .none .none (.str "grooveway.rules" 262) none (.ref 166) .none) ::
 (nat_lit 173,c3 "begin" "Gap.begin" 393 67 1 3 168 169 (.ref 170) (.ref 171) 172 397 398) ::
 (nat_lit 174,f3 "begin" "Gap.begin" Zkg "grooveway.rules" 262 173) ::
 (nat_lit 180,c3 "behind" "Gap.behind" 400 70 3 3 175 176 (.ref 177) (.ref 178) 179 406 407) ::
 (nat_lit 181,f3 "behind" "Gap.behind" Zj9 "grooveway.rules" 262 180) ::
 (nat_lit 183,dO (.type "dict") [de P "__module__" 377 (.str "grooveway.rules" 262),de P "__firstlineno__" 381 (.int 56 380),de P "__init__" 392 (.ref 167),de P "begin" 399 (.ref 174),de P "behind" 408 (.ref 181),de P "__static_attributes__" 412 (.ref 182),de P "__doc__" 413 .none] 2) ::
 (nat_lit 184,⟨(.type "type"),none,.cls ⟨"Gap",[(.ref 148)],[(.ref 184),(.ref 148),(.type "object")],183, "Gap",true,[],[],false,none,false⟩,#[some (.ref 153),none,some (.str "Gap" 370),some (.str "Gap" 378),some (.builtin "object.__new__"),some (.bool true)]⟩) ::
 (nat_lit 197,c3 "__init__" "Never.__init__" 428 78 3 3 194 195 .none .none 196 431 432) ::
 (nat_lit 198,f3 "__init__" "Never.__init__" JZ "grooveway.rules" 262 197) ::
 (nat_lit 204,c3 "behind" "Never.behind" 434 84 3 3 199 200 (.ref 201) (.ref 202) 203 442 443) ::
 (nat_lit 205,f3 "behind" "Never.behind" Zka "grooveway.rules" 262 204) ::
 (nat_lit 207,dO (.type "dict") [de P "__module__" 423 (.str "grooveway.rules" 262),de P "__firstlineno__" 427 (.int 76 426),de P "__init__" 433 (.ref 198),de P "behind" 444 (.ref 205),de P "__static_attributes__" 446 (.ref 206),de P "__doc__" 447 .none] 2) ::
 (nat_lit 208,⟨(.type "type"),none,.cls ⟨"Never",[(.ref 148)],[(.ref 208),(.ref 148),(.type "object")],207, "Never",true,[],[],false,none,false⟩,#[some (.ref 187),none,some (.str "Never" 416),some (.str "Never" 424),some (.builtin "object.__new__"),some (.bool true)]⟩) ::
 (nat_lit 221,c3 "__init__" "Sum.__init__" 462 94 5 3 218 219 .none .none 220 465 466) ::
 (nat_lit 222,f3 "__init__" "Sum.__init__" J0 "grooveway.rules" 262 221) ::
 (nat_lit 228,c3 "behind" "Sum.behind" 468 104 3 3 223 224 (.ref 225) (.ref 226) 227 475 476) ::
 (nat_lit 229,f3 "behind" "Sum.behind" Zkb "grooveway.rules" 262 228) ::
 (nat_lit 231,dO (.type "dict") [de P "__module__" 457 (.str "grooveway.rules" 262),de P "__firstlineno__" 461 (.int 92 460),de P "__init__" 467 (.ref 222),de P "behind" 477 (.ref 229),de P "__static_attributes__" 481 (.ref 230),de P "__doc__" 482 .none] 2) ::
 (nat_lit 232,⟨(.type "type"),none,.cls ⟨"Sum",[(.ref 148)],[(.ref 232),(.ref 148),(.type "object")],231, "Sum",true,[],[],false,none,false⟩,#[some (.ref 211),none,some (.str "Sum" 450),some (.str "Sum" 458),some (.builtin "object.__new__"),some (.bool true)]⟩) ::
 (nat_lit 247,c3 "__init__" "Turn.__init__" 497 109 5 3 242 243 (.ref 244) (.ref 245) 246 505 506) ::
 (nat_lit 248,f3 "__init__" "Turn.__init__" Zkk "grooveway.rules" 262 247) ::
 (nat_lit 254,c3 "behind" "Turn.behind" 508 118 3 3 249 250 (.ref 251) (.ref 252) 253 514 515) ::
 (nat_lit 255,f3 "behind" "Turn.behind" Zkc "grooveway.rules" 262 254) ::
 (nat_lit 257,dO (.type "dict") [de P "__module__" 492 (.str "grooveway.rules" 262),de P "__firstlineno__" 496 (.int 107 495),de P "__init__" 507 (.ref 248),de P "behind" 516 (.ref 255),de P "__static_attributes__" 520 (.ref 256),de P "__doc__" 521 .none] 2) ::
 (nat_lit 258,⟨(.type "type"),none,.cls ⟨"Turn",[(.ref 148)],[(.ref 258),(.ref 148),(.type "object")],257, "Turn",true,[],[],false,none,false⟩,#[some (.ref 235),none,some (.str "Turn" 485),some (.str "Turn" 493),some (.builtin "object.__new__"),some (.bool true)]⟩) ::
 (nat_lit 273,c3 "__init__" "Alike.__init__" 536 124 3 3 268 269 (.ref 270) (.ref 271) 272 542 543) ::
 (nat_lit 274,f3 "__init__" "Alike.__init__" Zkl "grooveway.rules" 262 273) ::
 (nat_lit 280,c3 "begin" "Alike.begin" 545 129 1 3 275 276 (.ref 277) (.ref 278) 279 549 550) ::
 (nat_lit 281,f3 "begin" "Alike.begin" Zkh "grooveway.rules" 262 280) ::
 (nat_lit 287,c3 "behind" "Alike.behind" 552 132 3 3 282 283 (.ref 284) (.ref 285) 286 560 561) ::
 (nat_lit 288,f3 "behind" "Alike.behind" Zkd "grooveway.rules" 262 287) ::
 (nat_lit 290,dO (.type "dict") [de P "__module__" 531 (.str "grooveway.rules" 262),de P "__firstlineno__" 535 (.int 122 534),de P "__init__" 544 (.ref 274),de P "begin" 551 (.ref 281),de P "behind" 562 (.ref 288),de P "__static_attributes__" 564 (.ref 289),de P "__doc__" 565 .none] 2) ::
 (nat_lit 291,⟨(.type "type"),none,.cls ⟨"Alike",[(.ref 148)],[(.ref 291),(.ref 148),(.type "object")],290, "Alike",true,[],[],false,none,false⟩,#[some (.ref 261),none,some (.str "Alike" 524),some (.str "Alike" 532),some (.builtin "object.__new__"),some (.bool true)]⟩) ::
 (nat_lit 304,c3 "__init__" "All.__init__" 580 138 3 3 301 302 .none .none 303 583 584) ::
 (nat_lit 305,f3 "__init__" "All.__init__" Q1 "grooveway.rules" 262 304) ::
 (nat_lit 309,c3 "begin" "All.begin" 586 145 1 3 306 307 .none .none 308 589 590) ::
 (nat_lit 310,f3 "begin" "All.begin" JY "grooveway.rules" 262 309) ::
 (nat_lit 316,c3 "behind" "All.behind" 592 148 3 3 311 312 (.ref 313) (.ref 314) 315 602 603) ::
 (nat_lit 317,f3 "behind" "All.behind" Zke "grooveway.rules" 262 316) ::
 (nat_lit 323,c3 "rules_told" "All.rules_told" 605 157 1 3 318 319 (.ref 320) (.ref 321) 322 609 610) ::
 (nat_lit 324,f3 "rules_told" "All.rules_told" Zaa "grooveway.rules" 262 323) ::
 (nat_lit 326,dO (.type "dict") [de P "__module__" 575 (.str "grooveway.rules" 262),de P "__firstlineno__" 579 (.int 136 578),de P "__init__" 585 (.ref 305),de P "begin" 591 (.ref 310),de P "behind" 604 (.ref 317),de P "rules_told" 611 (.ref 324),de P "__static_attributes__" 613 (.ref 325),de P "__doc__" 614 .none] 2) ::
 (nat_lit 327,⟨(.type "type"),none,.cls ⟨"All",[(.ref 148)],[(.ref 327),(.ref 148),(.type "object")],326, "All",true,[],[],false,none,false⟩,#[some (.ref 294),none,some (.str "All" 568),some (.str "All" 576),some (.builtin "object.__new__"),some (.bool true)]⟩) ::
 (nat_lit 335,c3 "_law_cell_at" "_law_cell_at" 619 160 2 3 330 331 (.ref 332) (.ref 333) 334 624 625) ::
 (nat_lit 336,f3 "_law_cell_at" "_law_cell_at" Zkm "law_grooveway_k06_whole_rows_kept" 617 335) ::
 (nat_lit 342,c3 "_law_whole" "_law_whole" 627 164 1 3 337 338 (.ref 339) (.ref 340) 341 631 632) ::
 (nat_lit 343,f3 "_law_whole" "_law_whole" Zkn "law_grooveway_k06_whole_rows_kept" 617 342) ::
 (nat_lit 347,c3 "_law_marks" "_law_marks" 634 166 1 3 344 345 .none .none 346 637 638) ::
 (nat_lit 348,f3 "_law_marks" "_law_marks" J4 "law_grooveway_k06_whole_rows_kept" 617 347) ::
 (nat_lit 354,c3 "_law_others" "_law_others" 640 170 2 3 349 350 (.ref 351) (.ref 352) 353 646 647) ::
 (nat_lit 355,f3 "_law_others" "_law_others" Zko "law_grooveway_k06_whole_rows_kept" 617 354) ::
 (nat_lit 359,c3 "_law_total" "_law_total" 649 175 3 3 356 357 .none .none 358 652 653) ::
 (nat_lit 360,f3 "_law_total" "_law_total" J5 "law_grooveway_k06_whole_rows_kept" 617 359) ::
 (nat_lit 366,c3 "_law_breaks" "_law_breaks" 655 177 3 3 361 362 (.ref 363) (.ref 364) 365 663 664) ::
 (nat_lit 367,f3 "_law_breaks" "_law_breaks" Zkp "law_grooveway_k06_whole_rows_kept" 617 366) ::
 (nat_lit 371,c3 "_law_rule" "_law_rule" 666 191 5 3 368 369 .none .none 370 669 670) ::
 (nat_lit 372,f3 "_law_rule" "_law_rule" J6 "law_grooveway_k06_whole_rows_kept" 617 371) ::
 (nat_lit 378,c3 "_law_made" "_law_made" 672 208 2 3 373 374 (.ref 375) (.ref 376) 377 677 678) ::
 (nat_lit 379,f3 "_law_made" "_law_made" Zkq "law_grooveway_k06_whole_rows_kept" 617 378) ::
 (nat_lit 383,c3 "_law_rules" "_law_rules" 680 220 2 3 380 381 .none .none 382 683 684) ::
 (nat_lit 384,f3 "_law_rules" "_law_rules" J7 "law_grooveway_k06_whole_rows_kept" 617 383) ::
 (nat_lit 388,c3 "_law_any" "_law_any" 686 226 3 3 385 386 .none .none 387 689 690) ::
 (nat_lit 389,f3 "_law_any" "_law_any" J8 "law_grooveway_k06_whole_rows_kept" 617 388) ::
 (nat_lit 395,c3 "_law_row" "_law_row" 692 228 3 3 390 391 (.ref 392) (.ref 393) 394 704 705) ::
 (nat_lit 396,f3 "_law_row" "_law_row" Zkr "law_grooveway_k06_whole_rows_kept" 617 395) ::
 (nat_lit 402,c3 "_law_asked" "_law_asked" 707 242 2 3 397 398 (.ref 399) (.ref 400) 401 715 716) ::
 (nat_lit 403,f3 "_law_asked" "_law_asked" Zks "law_grooveway_k06_whole_rows_kept" 617 402) ::
 (nat_lit 409,c3 "_law_kept" "_law_kept" 718 251 2 3 404 405 (.ref 406) (.ref 407) 408 724 725) ::
 (nat_lit 410,f3 "_law_kept" "_law_kept" Zkt "law_grooveway_k06_whole_rows_kept" 617 409) ::
 (nat_lit 416,c3 "_law_fair" "_law_fair" 727 258 3 3 411 412 (.ref 413) (.ref 414) 415 735 736) ::
 (nat_lit 417,f3 "_law_fair" "_law_fair" Zku "law_grooveway_k06_whole_rows_kept" 617 416) ::
 (nat_lit 421,c3 "_law_strange" "_law_strange" 738 266 2 3 418 419 .none .none 420 741 742) ::
 (nat_lit 422,f3 "_law_strange" "_law_strange" J9 "law_grooveway_k06_whole_rows_kept" 617 421) ::
 (nat_lit 428,c3 "_law_step_told" "_law_step_told" 744 272 3 3 423 424 (.ref 425) (.ref 426) 427 753 754) ::
 (nat_lit 429,f3 "_law_step_told" "_law_step_told" Zkv "law_grooveway_k06_whole_rows_kept" 617 428) ::
 (nat_lit 435,c3 "_law_steps_refused" "_law_steps_refused" 756 280 4 3 430 431 (.ref 432) (.ref 433) 434 766 767) ::
 (nat_lit 436,f3 "_law_steps_refused" "_law_steps_refused" Zkw "law_grooveway_k06_whole_rows_kept" 617 435) ::
 (nat_lit 442,c3 "_law_first" "_law_first" 769 290 3 3 437 438 (.ref 439) (.ref 440) 441 776 777) ::
 (nat_lit 443,f3 "_law_first" "_law_first" Zkx "law_grooveway_k06_whole_rows_kept" 617 442) ::
 (nat_lit 449,c3 "_law_singles_fair" "_law_singles_fair" 779 295 5 3 444 445 (.ref 446) (.ref 447) 448 790 791) ::
 (nat_lit 450,f3 "_law_singles_fair" "_law_singles_fair" Zky "law_grooveway_k06_whole_rows_kept" 617 449) ::
 (nat_lit 454,c3 "law" "law" 793 304 1 3 451 452 .none .none 453 796 797) ::
 (nat_lit 455,f3 "law" "law" ZhF "law_grooveway_k06_whole_rows_kept" 617 454)::[]
set_option maxHeartbeats 0 in
theorem Zmb:met PySem.Challenge.pw_grooveway_k06_whole_rows_kept=true:=by k_qdec
set_option maxHeartbeats 0 in
theorem Zmc:met kP=true:=by k_qdec
set_option maxHeartbeats 0 in
theorem left:LeftO PySem.Challenge.pw_grooveway_k06_whole_rows_kept (view PySem.Challenge.pw_grooveway_k06_whole_rows_kept [0,2,3,4,5,7,8,9,10,11,12,13,14,15,16,17,18,20,21,22,23,24,25,26,27,28,29,30,31,32,33,34,35,36,37,38,39]) ["Gap"] (λs=>xlAt (view PySem.Challenge.pw_grooveway_k06_whole_rows_kept [0,2,3,4,5,7,8,9,10,11,12,13,14,15,16,17,18,20,21,22,23,24,25,26,27,28,29,30,31,32,33,34,35,36,37,38,39]) [] s&&recOk PySem.Challenge.rw_grooveway_k06_whole_rows_kept.row.toRowW.records s) (λs=>([2,3,20,21,30,31,32,43,44,55,56,67,68,74,75,81,82,88,89,95,96,109,110,116,117,123,124,130,131,137,138,144,145,147,148,149,150,160,166,167,173,174,180,181,183,184,197,198,204,205,207,208,221,222,228,229,231,232,247,248,254,255,257,258,273,274,280,281,287,288,290,291,304,305,309,310,316,317,323,324,326,327,335,336,342,343,347,348,354,355,359,360,366,367,371,372,378,379,383,384,388,389,395,396,402,403,409,410,416,417,421,422,428,429,435,436,442,443,449,450,454,455]:List Addr).map s.heap.get?) (λw=>(kP w.params).map λp=>some p.2) 7724:=
 HT.left_of rfl rfl (λ_=>rfl) λw=>by
  have _:=Zmb;have _:=Zmc;rewrite [PySem.W.Fast.te10905160989151823372,PySem.W.Fast.te292341827213850516,PySem.W.Fast.te5923862056798008813,PySem.W.Fast.te4187177175401517315,PySem.W.Fast.te6613529449190102663,PySem.W.Fast.te10156331382660048174,PySem.W.Fast.te11892475500146522536,PySem.W.Fast.te14364793385576792824]
  kernel_rfl
theorem kP_as:∀P,([2,3,20,21,30,31,32,43,44,55,56,67,68,74,75,81,82,88,89,95,96,109,110,116,117,123,124,130,131,137,138,144,145,147,148,149,150,160,166,167,173,174,180,181,183,184,197,198,204,205,207,208,221,222,228,229,231,232,247,248,254,255,257,258,273,274,280,281,287,288,290,291,304,305,309,310,316,317,323,324,326,327,335,336,342,343,347,348,354,355,359,360,366,367,371,372,378,379,383,384,388,389,395,396,402,403,409,410,416,417,421,422,428,429,435,436,442,443,449,450,454,455]:List Addr)=(kP P).map (·.1):=λ_=>by kernel_rfl
end K06
namespace K06
open PySem PySem.Spec PyProof.Rows L2 DL
theorem nd0:List.Nodup (["sign", "marks"]:List Str):=by decide +kernel
theorem nd1:List.Nodup (["self", "state", "mark", "end", "length"]:List Str):=by decide +kernel
theorem nd2:List.Nodup (["self", "state", "mark", "total"]:List Str):=by decide +kernel
theorem nd3:List.Nodup (["self", "state", "mark", "number", "many"]:List Str):=by decide +kernel
theorem nd4:List.Nodup (["self", "state", "mark", "states", "rule", "own", "after"]:List Str):=by decide +kernel
theorem nd5:List.Nodup (["rule"]:List Str):=by decide +kernel
theorem nd6:List.Nodup (["self", "row", "state", "place", "mark"]:List Str):=by decide +kernel
theorem nd7:List.Nodup (["worth"]:List Str):=by decide +kernel
theorem nd8:List.Nodup (["rule", "marks"]:List Str):=by decide +kernel
theorem nd9:List.Nodup (["cell", "some", "step"]:List Str):=by decide +kernel
theorem Zna:List.Nodup (["k", "some", "cell", "step"]:List Str):=by decide +kernel
theorem Znb:List.Nodup (["rule", "row", "last"]:List Str):=by decide +kernel
theorem Znc:List.Nodup (["mark", "rule", "marks"]:List Str):=by decide +kernel
theorem ZmX:List.Nodup (["marks", "rule", "row", "others", "total"]:List Str):=by decide +kernel
theorem ZhG:List.Nodup (["marks", "kind", "one", "two", "three", "mark", "lowest", "size", "worths", "every"]:List Str):=by decide +kernel
theorem Znd:List.Nodup (["k", "marks", "one"]:List Str):=by decide +kernel
theorem Zld:List.Nodup (["script", "marks", "rules", "k", "cells"]:List Str):=by decide +kernel
theorem Zne:List.Nodup (["step", "script", "k"]:List Str):=by decide +kernel
theorem Znf:List.Nodup (["rule", "marks", "row"]:List Str):=by decide +kernel
theorem Uv:List.Nodup (["script", "marks", "rules", "row", "broken", "cell", "wish", "step", "other"]:List Str):=by decide +kernel
theorem ZhH:List.Nodup (["rule", "row", "told", "e", "kinds"]:List Str):=by decide +kernel
theorem Zle:List.Nodup (["rule", "row", "told"]:List Str):=by decide +kernel
theorem ZmY:List.Nodup (["rule", "row", "due", "found", "kept"]:List Str):=by decide +kernel
theorem ZmZ:List.Nodup (["marks", "cell", "odd", "near"]:List Str):=by decide +kernel
theorem Zkz:List.Nodup (["rule", "state", "sign", "told", "e", "kinds"]:List Str):=by decide +kernel
theorem ZkA:List.Nodup (["marks", "rule", "row", "strange", "state", "mark", "sign"]:List Str):=by decide +kernel
theorem Zng:List.Nodup (["marks", "rule", "row", "k"]:List Str):=by decide +kernel
theorem ZkB:List.Nodup (["marks", "rules", "row", "at", "sign", "rule", "due", "broken"]:List Str):=by decide +kernel
theorem X5:List.Nodup (["script", "marks", "rules", "row", "broken", "singles", "every", "kept", "strange", "rule", "at", "sign", "due"]:List Str):=by decide +kernel
section
variable{P:Program}{w:World}{K:PySem.W.Frag}{mg:Str->Option Value}{base:Heap}{t:Adr}
theorem Zmd(T:Txt K mg t):FnOk P w K mg base CX0 1 t.a_QL t.d_QL ["marks"] (spD ⟨t.c,K⟩ 1 JM):=by
 refine Yv (φ:=Zjt) T.p_QL.f Zlt (by conv=>lhs;whnf) (by conv=>lhs;whnf) (λcdv A outer s H E hr => ?_) rfl rfl;refine⟨_,(Zp (Yo (PW.pt (ZgA (Yx U7 (Yq (YT (K:=K)) (by rfl) T.n_len boot_len (Zd (pv 0) Zj)) Zo (Yk _)) (Zdx (Yx ZeY (Yq (YT (K:=K)) (by rfl) T.n_len boot_len (Zd (pv 0) Zj)) Zo (Yk _))))) (Zr (ZJ Y8)) Yn)
 (Zr (ZJ (Yq (Ze0 (K:=K)) (by rfl) T.n_all boot_all (Zd (Uc (by rfl) (CompSd.mk1 (tn:=["sign"]) (cn:=["marks"]) (js:=[0]) (osc:=defScope JX) (oN:=["marks"]) (by rfl) (by rfl) (by rfl) (by decide +kernel)) (XR (K:=K) (pv 0)) (λC s₂ H₂ fp=>YL (i:=0) nd0) (λC s₂ H₂ fp=>Vm) (λC s₂ H₂ fp=>(Ui (Xf (ZhV (K:=K)) (pv 0) (UD (by rfl) T.g_MARK_SIGNS T.r_MARK_SIGNS) (by rfl)) (VY (Xf (YG (cA:=⟨t.c,K⟩) (hr.units)) (Vn (K:=K) PySem.F.plainAttrs_str PySem.F.slot_str_count PySem.F.type_str_count Zfv (pv 1) (Zd (pv 0) Zj)) Zo (Yk _)))))) Zj))))),[],?_⟩
 unfold Zjt;exact(Zq (Ym (ZgI (Yt (Zh X0 (Yz YW (Ze (Zc 0) Zm)) (Zg (d:=(.int 2)) (by rfl) (by rfl)))) (Yt (Zh X0 (Yz YW (Ze (Zc 0) Zm)) (Zg (d:=(.int 4)) (by rfl) (by rfl))))) (ZI (Zg (d:=(.bl false)) (by rfl) (by rfl))) Yl)
 (ZI (Yz QJ (Ze (VF.cl (X9 (by rfl) (XS (Zc 0)) (Y9 0) Vp (Um (Zh ZgH (Zc 0) (Zg (d:=.str cs_MARK_SIGNS) (by rfl) (by rfl))) (Zh YH (Ua Zfx (Zc 1) (Ze (Zc 0) Zm)) (Zg (d:=(.int 1)) (by rfl) (by rfl)))))) Zm))))
theorem Zdv(T:Txt K mg t):FnOk P w K mg base CX0 1 t.a_Qh t.d_Qh ["marks", "text"] (spD ⟨t.c,K⟩ 2 XV):=by
 refine Yv (φ:=JN) T.p_Qh.f Zlu (by conv=>lhs;whnf) (by conv=>lhs;whnf) (λcdv A outer s H E hr => ?_) rfl rfl;refine⟨_,(Zr (ZJ (Ui (Xf (YG (cA:=⟨t.c,K⟩) (hr.units)) (Yq (YT (K:=K)) (by rfl) T.n_len boot_len (Zd (pv 1) Zj)) Zo (Yk _)) (VY (Xf (ZhV (K:=K)) (pv 1) (pv 0) (by rfl)))))),[],?_⟩;unfold JN;exact(ZI (Um (Zh YH (Yz YW (Ze (Zc 1) Zm)) (Zg (d:=(.int 1)) (by rfl) (by rfl))) (Zh ZgH (Zc 1) (Zc 0))))
theorem Ze1(T:Txt K mg t):FnOk P w K mg base CX0 1 t.a_Qg t.d_Qg ["number", "low", "high"] (spD ⟨t.c,K⟩ 3 Vx):=by
 refine Yv (φ:=Zju) T.p_Qg.f Zlv (by conv=>lhs;whnf) (by conv=>lhs;whnf) (λcdv A outer s H E hr => ?_) rfl rfl;refine⟨_,(Zp (Yo (PW.pt (ZgA (Xo (Yq (Jx (K:=K)) (by rfl) T.n_isinstance boot_isinstance (Zd (pv 0) (Zd (Qw (v:=.ty "bool") (by rfl) T.n_bool boot_bool rfl) Zj)))) (Zdx (XY (Xo (Yq (Jx (K:=K)) (by rfl) T.n_isinstance boot_isinstance (Zd (pv 0) (Zd (Qw (v:=.ty "int") (by rfl) T.n_int boot_int rfl) Zj)))))))) (Zr (ZJ Y8)) Yn)
 (Zr (ZJ (ZcG UG UG (pv 1) (pv 0) (pv 2))))),[],?_⟩
 unfold Zju;exact(Zq (Ym (ZgI (YD (Jy (λ_ h=>h) T.isi_bool (Zc 0))) (XG (YD (Jy (λ_ h=>h) T.isi_int (Zc 0))))) (ZI (Zg (d:=(.bl false)) (by rfl) (by rfl))) Yl)
 (ZI (Zbk (Zc 1) (Zc 0) (Zc 2))))
theorem Q2(T:Txt K mg t):FnOk P w K mg base CX0 1 t.a_Qi t.d_Qi ["holds", "words"] (spD ⟨t.c,K⟩ 2 Xe):=by
 refine Yv (φ:=Zjv) T.p_Qi.f Zlw (by conv=>lhs;whnf) (by conv=>lhs;whnf) (λcdv A outer s H E hr => ?_) rfl rfl;refine⟨_,(Zr (Yo (XY (Xo (pv 0))) (Zr Zbi) Yn)),[],?_⟩;unfold Zjv;exact(Ym (XG (YD (Zc 0))) Ju Yl)
theorem Qr(T:Txt K mg t):FnOk P w K mg base CX0 2 t.a_Q3 t.d_Q3 ["self", "marks"] (spI ⟨t.c,K⟩ 2 X4):=by
 have G_QL:=(Zmd (P:=P) (w:=w) (base:=base) T).mono (k:=1) (by decide);refine Qd (φ:=Zjw) T.p_Q3.f Zlx (by conv=>lhs;whnf) (by conv=>lhs;whnf) (λcdv A outer s H E self hr => ?_) rfl rfl;refine⟨_,(Zp (Yo (XY (Xo (ZV (G_QL) hr (by rfl) T.p_QL.g T.p_QL.k T.p_QL.b .nil ZB (Zd (pv 1) Zj)))) (Zr Zbi) Yn)
 (Zr (X8 (pv 0) (pv 1) (by rfl)))),?_⟩
 unfold Zjw;exact(Zq (Ym (XG (YD (ZT [] (by rfl) (Ze (Zc 1) Zm)))) Ju Yl)
 (Vb 0 (by rfl) T.fl_marks (Zc 1)))
theorem ZgN(T:Txt K mg t):FnOk P w K mg base CX0 1 t.a_QV t.d_QV ["self"] (spD ⟨t.c,K⟩ 1 XA):=by
 refine Yv (φ:=Qm) T.p_QV.f Zly (by conv=>lhs;whnf) (by conv=>lhs;whnf) (λcdv A outer s H E hr => ?_) rfl rfl;refine⟨_,(Zr (ZJ Zo)),[],?_⟩;unfold Qm;exact(ZI (Zg (d:=(.int 0)) (by rfl) (by rfl)))
theorem Zh8(T:Txt K mg t):FnOk P w K mg base CX0 1 t.a_QJ t.d_QJ ["self", "state", "mark"] (spD ⟨t.c,K⟩ 3 JO):=by
 refine Yv (φ:=Zjx) T.p_QJ.f Zlz (by conv=>lhs;whnf) (by conv=>lhs;whnf) (λcdv A outer s H E hr => ?_) rfl rfl;refine⟨_,(Zr (ZJ Zo)),[],?_⟩;unfold Zjx;exact(ZI (Zg (d:=(.int 0)) (by rfl) (by rfl)))
theorem Zh9(T:Txt K mg t):FnOk P w K mg base CX0 1 t.a_QX t.d_QX ["self", "state", "mark"] (spD ⟨t.c,K⟩ 3 UZ):=by
 refine Yv (φ:=QW) T.p_QX.f ZlA (by conv=>lhs;whnf) (by conv=>lhs;whnf) (λcdv A outer s H E hr => ?_) rfl rfl;refine⟨_,(Zp (Yo (Yx (YG (cA:=⟨t.c,K⟩) (hr.units)) (pv 2) (YU (K:=K) (pv 0)) (Yk _)) (Zr (ZJ (Jc (Yx Zlk (pv 1) (YU (K:=K) (pv 0)) (Yk _)) Zo X7))) Yn)
 (Zp (Yo (Vz (VW (YU (K:=K) (pv 0)))) (Zr (ZJ (Yq (ZbG (by rfl)) (by rfl) T.n_min boot_min (Zd (Zv YF (pv 1) Zo) (Zd (YU (K:=K) (pv 0)) Zj))))) Yn)
 (Zr (ZJ (Jc (Yx U7 (pv 1) (YU (K:=K) (pv 0)) (Yk _)) (Zv YF (pv 1) Zo) X7))))),[],?_⟩
 unfold QW;exact(Zq (Ym (Yt (Zh YH (Zc 2) (YR T.fl_mark (Zc 0)))) (ZI (Jq (Yt (Zh X0 (Zc 1) (YR T.fl_least (Zc 0)))) (Zg (d:=(.int 0)) (by rfl) (by rfl)) (Zg (d:=.non) (by rfl) (by rfl)))) Yl)
 (Zq (Ym (YD (Vq (YR T.fl_most (Zc 0)))) (ZI (Yz Zgh (Ze (Zh YI (Zc 1) (Zg (d:=(.int 1)) (by rfl) (by rfl))) (Ze (YR T.fl_least (Zc 0)) Zm)))) Yl)
 (ZI (Jq (Yt (Zh X0 (Zc 1) (YR T.fl_most (Zc 0)))) (Zh YI (Zc 1) (Zg (d:=(.int 1)) (by rfl) (by rfl))) (Zg (d:=.non) (by rfl) (by rfl))))))
theorem Zia(T:Txt K mg t):FnOk P w K mg base CX0 1 t.a_QF t.d_QF ["self", "state", "mark"] (spD ⟨t.c,K⟩ 3 Qn):=by
 refine Yv (φ:=Zjy) T.p_QF.f ZlB (by conv=>lhs;whnf) (by conv=>lhs;whnf) (λcdv A outer s H E hr => ?_) rfl rfl;refine⟨_,(Zp (Yh (i:=3) nd1 (by rfl) (by first|exact Or.inl rfl|exact Or.inr rfl) (Zv YF (XE (XF (K:=K)) (YU (K:=K) (pv 0)) XD (Xr (pv 1))) (pv 2)))
 (Zp (Yo (Yx (YG (cA:=⟨t.c,K⟩) (hr.units)) (pv 3) (YU (K:=K) (pv 0)) (Yk _)) (Zr (ZJ X7)) Yn)
 (Zp (Yh (i:=4) nd1 (by rfl) (by first|exact Or.inl rfl|exact Or.inr rfl) (Yq (YT (K:=K)) (by rfl) T.n_len boot_len (Zd (pv 3) Zj)))
 (Zp ((Ze7 PassesOwn.never (XY (Xo (Vn (K:=K) PySem.F.plainAttrs_str PySem.F.slot_str_endswith PySem.F.type_str_endswith Zam (pv 3) (Zd (XE (XF (K:=K)) (YU (K:=K) (pv 0)) XD (Xr (pv 4))) Zj)))) (Zr (Yh (i:=4) nd1 (by rfl) (by first|exact Or.inl rfl|exact Or.inr rfl) (Zv V1 (pv 4) Zo)))))
 (Zr (ZJ (pv 4))))))),[],?_⟩
 unfold Zjy;exact(Zq (show VS _ _ [] _ _ _ _ from(Yc 3 (Zh YI (XM (Or.inl rfl) (YR T.fl_word (Zc 0)) XI (XJ (Zc 1))) (Zc 2))))
 (Zq (Ym (Yt (Zh YH (Zc 3) (YR T.fl_word (Zc 0)))) (ZI (Zg (d:=.non) (by rfl) (by rfl))) Yl)
 (Zq (show VS _ _ [] _ _ _ _ from(Yc 4 (Yz YW (Ze (Zc 3) Zm))))
 (Zq (Zfr (ow:=[]) (XG (YD (Ua Zce (Zc 3) (Ze (XM (Or.inl rfl) (YR T.fl_word (Zc 0)) XI (XJ (Zc 4))) Zm)))) (show VS _ _ [] _ _ _ _ from(Yc 4 (Zh V7 (Zc 4) (Zg (d:=(.int 1)) (by rfl) (by rfl))))))
 (ZI (Zc 4))))))
theorem Zib(T:Txt K mg t):FnOk P w K mg base CX0 1 t.a_QS t.d_QS ["self", "state", "mark"] (spD ⟨t.c,K⟩ 3 U0):=by
 refine Yv (φ:=QX) T.p_QS.f ZlC (by conv=>lhs;whnf) (by conv=>lhs;whnf) (λcdv A outer s H E hr => ?_) rfl rfl;refine⟨_,(Zp (Yh (i:=3) nd2 (by rfl) (by first|exact Or.inl rfl|exact Or.inr rfl) (Zv YF (pv 1) (Z8 (Z9 (K:=K)) (YU (K:=K) (pv 0)) (Vn (K:=K) PySem.F.plainAttrs_str PySem.F.slot_str_index PySem.F.type_str_index Zbm (YU (K:=K) (pv 0)) (Zd (pv 2) Zj)) (λ_ _=>rfl))))
 (Zr (ZJ (Jc (Ze9 UG UG (YU (K:=K) (pv 0)) (pv 3) (YU (K:=K) (pv 0))) (pv 3) X7)))),[],?_⟩
 unfold QX;exact(Zq (show VS _ _ [] _ _ _ _ from(Yc 3 (Zh YI (Zc 1) (Zh Yb (YR T.fl_worths (Zc 0)) (Ua Zbn (YR T.fl_marks (Zc 0)) (Ze (Zc 2) Zm))))))
 (ZI (Jq (Yt (Zbk (YR T.fl_low (Zc 0)) (Zc 3) (YR T.fl_high (Zc 0)))) (Zc 3) (Zg (d:=.non) (by rfl) (by rfl)))))
theorem Zic(T:Txt K mg t):FnOk P w K mg base CX0 1 t.a_QI t.d_QI ["self", "state", "mark"] (spD ⟨t.c,K⟩ 3 U1):=by
 refine Yv (φ:=QY) T.p_QI.f ZlD (by conv=>lhs;whnf) (by conv=>lhs;whnf) (λcdv A outer s H E hr => ?_) rfl rfl;refine⟨_,(Zp (Yo (PW.pt (Qx (Yx (YG (cA:=⟨t.c,K⟩) (hr.units)) (pv 2) (YU (K:=K) (pv 0)) (Yk _)) (Jb (Yx (Jo (cA:=⟨t.c,K⟩) (hr.units)) (pv 1) (YU (K:=K) (pv 0)) (Yk _))))) (Zr (ZJ X7)) Yn)
 (Zr (ZJ (Zv Yw (Zv YF (pv 1) Zo) (YU (K:=K) (pv 0)))))),[],?_⟩
 unfold QY;exact(Zq (Ym (QH (Yt (Zh YH (Zc 2) (YR T.fl_mark (Zc 0)))) (Yt (Zh Jp (Zc 1) (YR T.fl_at (Zc 0))))) (ZI (Zg (d:=.non) (by rfl) (by rfl))) Yl)
 (ZI (Zh Yy (Zh YI (Zc 1) (Zg (d:=(.int 1)) (by rfl) (by rfl))) (YR T.fl_every (Zc 0)))))
theorem Zid(T:Txt K mg t):FnOk P w K mg base CX0 1 t.a_QG t.d_QG ["self", "state", "mark"] (spD ⟨t.c,K⟩ 3 Ue):=by
 refine Yv (φ:=Qo) T.p_QG.f ZlE (by conv=>lhs;whnf) (by conv=>lhs;whnf) (λcdv A outer s H E hr => ?_) rfl rfl;refine⟨_,(Zp (Yh (i:=3) nd3 (by rfl) (by first|exact Or.inl rfl|exact Or.inr rfl) (Vn (K:=K) PySem.F.plainAttrs_str PySem.F.slot_str_index PySem.F.type_str_index Zbm (YU (K:=K) (pv 0)) (Zd (pv 2) Zj)))
 (Zp (Yh (i:=4) nd3 (by rfl) (by first|exact Or.inl rfl|exact Or.inr rfl) (Jc (Yx (YG (cA:=⟨t.c,K⟩) (hr.units)) (pv 3) (Z8 (Z9 (K:=K)) (pv 1) Zo (λ_ _=>rfl)) (Yk _)) (Zv YF (Z8 (Z9 (K:=K)) (pv 1) Zo (λ_ _=>rfl)) Zo) Zo))
 (Zr (ZJ (Jc (Yx UG (pv 4) (YU (K:=K) (pv 0)) (Yk _)) (VD (Zd (pv 3) (Zd (pv 4) Zj))) X7))))),[],?_⟩
 unfold Qo;exact(Zq (show VS _ _ [] _ _ _ _ from(Yc 3 (Ua Zbn (YR T.fl_marks (Zc 0)) (Ze (Zc 2) Zm))))
 (Zq (show VS _ _ [] _ _ _ _ from(Yc 4 (Jq (Yt (Zh YH (Zc 3) (Zh Yb (Zc 1) (Zg (d:=(.int 0)) (by rfl) (by rfl))))) (Zh YI (Zh Yb (Zc 1) (Zg (d:=(.int 1)) (by rfl) (by rfl))) (Zg (d:=(.int 1)) (by rfl) (by rfl))) (Zg (d:=(.int 1)) (by rfl) (by rfl)))))
 (ZI (Jq (Yt (Zh X0 (Zc 4) (YR T.fl_most (Zc 0)))) (Uo (Ze (Zc 3) (Ze (Zc 4) Zm))) (Zg (d:=.non) (by rfl) (by rfl))))))
theorem Zme(T:Txt K mg t):FnOk P w K mg base CX0 2 t.a_Q7 t.d_Q7 ["self", "state", "mark"] (spD ⟨t.c,K⟩ 3 Us):=by
 have G_QJ:=(Zh8 (P:=P) (w:=w) (base:=base) T).mono (k:=1) (by decide);have G_QX:=(Zh9 (P:=P) (w:=w) (base:=base) T).mono (k:=1) (by decide);have G_QF:=(Zia (P:=P) (w:=w) (base:=base) T).mono (k:=1) (by decide);have G_QS:=(Zib (P:=P) (w:=w) (base:=base) T).mono (k:=1) (by decide);have G_QI:=(Zic (P:=P) (w:=w) (base:=base) T).mono (k:=1) (by decide)
 have G_QG:=(Zid (P:=P) (w:=w) (base:=base) T).mono (k:=1) (by decide);have G_Qh:=(Zdv (P:=P) (w:=w) (base:=base) T).mono (k:=1) (by decide);refine Yv (φ:=ZkX) T.p_Q7.f Zh7 (by conv=>lhs;whnf) (by conv=>lhs;whnf) (λcdv A outer s H E hr => ?_) rfl rfl;refine⟨_,(Zp (Yo (XY (Xo (ZV (G_Qh) hr (by rfl) T.p_Qh.g T.p_Qh.k T.p_Qh.b .nil ZB (Zd (YU (K:=K) (pv 0)) (Zd (pv 2) Zj))))) (Zr Zbi) Yn)
 (Zr (ZJ (Zbo (cA:=⟨t.c,K⟩) (tab:=tab_behind0) (m:="behind") ⟨⟨t.a_QJ,t.d_QJ,["self", "state", "mark"],T.cl_Rule,T.me_Rule_behind,G_QJ,T.p_QJ.b⟩,⟨⟨t.a_QX,t.d_QX,["self", "state", "mark"],T.cl_Gap,T.me_Gap_behind,G_QX,T.p_QX.b⟩,⟨⟨t.a_QF,t.d_QF,["self", "state", "mark"],T.cl_Never,T.me_Never_behind,G_QF,T.p_QF.b⟩,⟨⟨t.a_QS,t.d_QS,["self", "state", "mark"],T.cl_Sum,T.me_Sum_behind,G_QS,T.p_QS.b⟩,⟨⟨t.a_QI,t.d_QI,["self", "state", "mark"],T.cl_Turn,T.me_Turn_behind,G_QI,T.p_QI.b⟩,⟨⟨t.a_QG,t.d_QG,["self", "state", "mark"],T.cl_Alike,T.me_Alike_behind,G_QG,T.p_QG.b⟩,trivial⟩⟩⟩⟩⟩⟩ hr (pv 0) (Zd (pv 1) (Zd (pv 2) Zj)))))),[],?_⟩
 unfold ZkX;exact(Zq (Ym (XG (YD (ZT [] (by rfl) (Ze (YR T.fl_marks (Zc 0)) (Ze (Zc 2) Zm))))) Ju Yl)
 (ZI (UL (Zc 0) (Ze (Zc 1) (Ze (Zc 2) Zm)))))
theorem Zmf(T:Txt K mg t):FnOk P w K mg base CX0 3 t.a_QZ t.d_QZ ["self", "state", "mark"] (spD ⟨t.c,K⟩ 3 ZkY):=by
 have G_QU:=(Zme (P:=P) (w:=w) (base:=base) T).mono (k:=2) (by decide);refine Yv (φ:=Zjz) T.p_QZ.f ZlF (by conv=>lhs;whnf) (by conv=>lhs;whnf) (λcdv A outer s H E hr => ?_) rfl rfl;refine⟨_,(Zp (Yh (i:=3) nd4 (by rfl) (by first|exact Or.inl rfl|exact Or.inr rfl) (Vl Zj))
 (Zp ((V0 PassesOwn.never (by rfl) (Zhi (K:=K) (by rfl) T.n_zip (YU (K:=K) (pv 0)) (pv 1)) (ZgF (K:=K) (n:=2) (QA (YL (i:=4) nd4) (QA (YL (i:=5) nd4) Zb8))) (Zp (Yh (i:=6) nd4 (by rfl) (by first|exact Or.inl rfl|exact Or.inr rfl) (Zbo (cA:=⟨t.c,K⟩) (tab:=tab_step0) (m:="step") ⟨⟨t.a_Q7,t.d_Q7,["self", "state", "mark"],T.cl_Rule,T.me_Rule_step,G_QU,T.p_Q7.b⟩,⟨⟨t.a_Q7,t.d_Q7,["self", "state", "mark"],T.cl_Gap,T.me_Gap_step,G_QU,T.p_Q7.b⟩,⟨⟨t.a_Q7,t.d_Q7,["self", "state", "mark"],T.cl_Never,T.me_Never_step,G_QU,T.p_Q7.b⟩,⟨⟨t.a_Q7,t.d_Q7,["self", "state", "mark"],T.cl_Sum,T.me_Sum_step,G_QU,T.p_Q7.b⟩,⟨⟨t.a_Q7,t.d_Q7,["self", "state", "mark"],T.cl_Turn,T.me_Turn_step,G_QU,T.p_Q7.b⟩,⟨⟨t.a_Q7,t.d_Q7,["self", "state", "mark"],T.cl_Alike,T.me_Alike_step,G_QU,T.p_Q7.b⟩,trivial⟩⟩⟩⟩⟩⟩ hr (pv 4) (Zd (pv 5) (Zd (pv 2) Zj))))
 (Zp (Yo (Vz (VW (pv 6))) (Zr (ZJ X7)) Yn)
 (Zr (YS (Vn (K:=K) PySem.F.plainAttrs_list PySem.F.slot_list_append PySem.F.type_list_append ZbL (pv 3) (Zd (pv 6) Zj))))))))
 (Zr (ZJ (QC (Jm (K:=K)) (by rfl) T.n_tuple boot_tuple (Zd (pv 3) Zj)))))),[],?_⟩
 unfold Zjz;exact(Zq (show VS _ _ [3] _ _ _ _ from(ZdT 3 (V8 Zm)))
 (Zq (VL (Zhj (YR T.fl_rules (Zc 0)) (Zc 1)) (Jw (V9 4 (by rfl) (by rfl) (V9 5 (by rfl) (by rfl) Jv))) (Zq (show VS _ _ [3] _ _ _ _ from(Yc 6 (UL (Zc 4) (Ze (Zc 5) (Ze (Zc 2) Zm)))))
 (Zq (Ym (YD (Vq (Zc 6))) (ZI (Zg (d:=.non) (by rfl) (by rfl))) Yl)
 (Zgi 3 (by rfl) (Zc 6)))))
 (VS.frz (ow1:=[]) 3 (ZI (Jt (Ze (Zc 3) Zm))))))
theorem ZgO(T:Txt K mg t):FnOk P w K mg base (CX1 P w) 4 t.a_Q7 t.d_Q7 ["self", "state", "mark"] (spX ⟨t.c,K⟩ 3 VQ VP):=by
 have G_QJ:=(Zh8 (P:=P) (w:=w) (base:=base) T).mono (k:=3) (by decide);have G_QX:=(Zh9 (P:=P) (w:=w) (base:=base) T).mono (k:=3) (by decide);have G_QF:=(Zia (P:=P) (w:=w) (base:=base) T).mono (k:=3) (by decide);have G_QS:=(Zib (P:=P) (w:=w) (base:=base) T).mono (k:=3) (by decide);have G_QI:=(Zic (P:=P) (w:=w) (base:=base) T).mono (k:=3) (by decide)
 have G_QG:=(Zid (P:=P) (w:=w) (base:=base) T).mono (k:=3) (by decide);have G_QZ:=(Zmf (P:=P) (w:=w) (base:=base) T).mono (k:=3) (by decide);have G_Qh:=(Zdv (P:=P) (w:=w) (base:=base) T).mono (k:=3) (by decide);refine ZgL (φ:=ZkZ) (χ:=Zk0) T.p_Q7.f Zh7 (by conv=>lhs;whnf) (by conv=>lhs;whnf) (λcdv A outer s H E hr => ?_) rfl rfl rfl;refine⟨_,(Zp (Yo (XY (Xo (ZV (G_Qh) hr (by rfl) T.p_Qh.g T.p_Qh.k T.p_Qh.b .nil ZB (Zd (YU (K:=K) (pv 0)) (Zd (pv 2) Zj))))) (Zr (Zfz (by rfl) T.g_BadMark (T.ex_BadMark).ex Zb5 (Zd (Zhe (.cons (Zhd (pv 2)) (.cons (Yg [32,105,115,32,110,111,32,109,97,114,107] (by decide +kernel)) .nil))) Zj))) Yn)
 (Zr (ZJ (Zbo (cA:=⟨t.c,K⟩) (tab:=tab_behind) (m:="behind") ⟨⟨t.a_QJ,t.d_QJ,["self", "state", "mark"],T.cl_Rule,T.me_Rule_behind,G_QJ,T.p_QJ.b⟩,⟨⟨t.a_QX,t.d_QX,["self", "state", "mark"],T.cl_Gap,T.me_Gap_behind,G_QX,T.p_QX.b⟩,⟨⟨t.a_QF,t.d_QF,["self", "state", "mark"],T.cl_Never,T.me_Never_behind,G_QF,T.p_QF.b⟩,⟨⟨t.a_QS,t.d_QS,["self", "state", "mark"],T.cl_Sum,T.me_Sum_behind,G_QS,T.p_QS.b⟩,⟨⟨t.a_QI,t.d_QI,["self", "state", "mark"],T.cl_Turn,T.me_Turn_behind,G_QI,T.p_QI.b⟩,⟨⟨t.a_QG,t.d_QG,["self", "state", "mark"],T.cl_Alike,T.me_Alike_behind,G_QG,T.p_QG.b⟩,⟨⟨t.a_QZ,t.d_QZ,["self", "state", "mark"],T.cl_All,T.me_All_behind,G_QZ,T.p_QZ.b⟩,trivial⟩⟩⟩⟩⟩⟩⟩ hr (pv 0) (Zd (pv 1) (Zd (pv 2) Zj)))))),[],?_,?_⟩
 · unfold ZkZ
   exact(Zq (Ym (XG (YD (ZT [] (by rfl) (Ze (YR T.fl_marks (Zc 0)) (Ze (Zc 2) Zm))))) Ju Yl)
 (ZI (UL (Zc 0) (Ze (Zc 1) (Ze (Zc 2) Zm)))))
 · unfold Zk0
   exact(Zcy (owB:=[]) (owC:=[]) (Zlr (XG (YD (ZT [] (by rfl) (Ze (YR T.fl_marks (Zc 0)) (Ze (Zc 2) Zm))))) (ZfD "BadMark" (by rfl) (Ze (Zhg (.cons (Zhf (Zc 2)) (.cons (Zg (d:=(.str [32,105,115,32,110,111,32,109,97,114,107])) (by rfl) (by rfl)) .nil))) Zm)) Jz) (Ym (XG (YD (ZT [] (by rfl) (Ze (YR T.fl_marks (Zc 0)) (Ze (Zc 2) Zm))))) Ju Yl)
 Jz)
theorem ZgP(T:Txt K mg t):FnOk P w K mg base CX0 1 t.a_Q6 t.d_Q6 ["self"] (spD ⟨t.c,K⟩ 1 JP):=by
 refine Yv (φ:=ZjA) T.p_Q6.f ZlG (by conv=>lhs;whnf) (by conv=>lhs;whnf) (λcdv A outer s H E hr => ?_) rfl rfl;refine⟨_,(Zr (ZJ (YU (K:=K) (pv 0)))),[],?_⟩;unfold ZjA;exact(ZI (YR T.fl_least (Zc 0)))
theorem ZgQ(T:Txt K mg t):FnOk P w K mg base CX0 1 t.a_QM t.d_QM ["self"] (spD ⟨t.c,K⟩ 1 JQ):=by
 refine Yv (φ:=ZjB) T.p_QM.f ZlH (by conv=>lhs;whnf) (by conv=>lhs;whnf) (λcdv A outer s H E hr => ?_) rfl rfl;refine⟨_,(Zr (ZJ (VD (Zd Zo (Zd Zo Zj))))),[],?_⟩;unfold ZjB;exact(ZI (Uo (Ze (Zg (d:=(.int 0)) (by rfl) (by rfl)) (Ze (Zg (d:=(.int 0)) (by rfl) (by rfl)) Zm))))
theorem Zie(T:Txt K mg t):FnOk P w K mg base CX0 2 t.a_Q8 t.d_Q8 ["self"] (spD ⟨t.c,K⟩ 1 Zk2):=by
 have G_QV:=(ZgN (P:=P) (w:=w) (base:=base) T).mono (k:=1) (by decide);have G_Q6:=(ZgP (P:=P) (w:=w) (base:=base) T).mono (k:=1) (by decide);have G_QM:=(ZgQ (P:=P) (w:=w) (base:=base) T).mono (k:=1) (by decide);refine Yv (φ:=Zk1) T.p_Q8.f ZlI (by conv=>lhs;whnf) (by conv=>lhs;whnf) (λcdv A outer s H E hr => ?_) rfl rfl;refine⟨_,(Zr (ZJ (QC (Jm (K:=K)) (by rfl) T.n_tuple boot_tuple (Zd (Uc (by rfl) (CompSd.mk1 (tn:=["rule"]) (cn:=[]) (js:=[]) (osc:=defScope JY) (oN:=["self"]) (by rfl) (by rfl) (by rfl) (by decide +kernel)) (XR (K:=K) (YU (K:=K) (pv 0))) (λC s₂ H₂ fp=>YL (i:=0) nd5) (λC s₂ H₂ fp=>Vm) (λC s₂ H₂ fp=>(Zaq (cA:=⟨t.c,K⟩) (tab:=tab_begin0) (m:="begin") ⟨⟨t.a_QV,t.d_QV,["self"],T.cl_Rule,T.me_Rule_begin,G_QV,T.p_QV.b⟩,⟨⟨t.a_Q6,t.d_Q6,["self"],T.cl_Gap,T.me_Gap_begin,G_Q6,T.p_Q6.b⟩,⟨⟨t.a_QV,t.d_QV,["self"],T.cl_Never,T.me_Never_begin,G_QV,T.p_QV.b⟩,⟨⟨t.a_QV,t.d_QV,["self"],T.cl_Sum,T.me_Sum_begin,G_QV,T.p_QV.b⟩,⟨⟨t.a_QV,t.d_QV,["self"],T.cl_Turn,T.me_Turn_begin,G_QV,T.p_QV.b⟩,⟨⟨t.a_QM,t.d_QM,["self"],T.cl_Alike,T.me_Alike_begin,G_QM,T.p_QM.b⟩,trivial⟩⟩⟩⟩⟩⟩ hr (pv 0)))) Zj)))),[],?_⟩
 unfold Zk1;exact(ZI (Jt (Ze (VF.cl (X9 (by rfl) (XS (YR T.fl_rules (Zc 0))) (Y9 0) Vp (UL (Zc 0) Zm))) Zm)))
theorem Zif(T:Txt K mg t):FnOk P w K mg base (CX1 P w) 5 t.a_QD t.d_QD ["self", "row"] (spX ⟨t.c,K⟩ 2 XW Xn):=by
 have G_QV:=(ZgN (P:=P) (w:=w) (base:=base) T).mono (k:=4) (by decide);have G_Q6:=(ZgP (P:=P) (w:=w) (base:=base) T).mono (k:=4) (by decide);have G_QM:=(ZgQ (P:=P) (w:=w) (base:=base) T).mono (k:=4) (by decide);have G_Q8:=(Zie (P:=P) (w:=w) (base:=base) T).mono (k:=4) (by decide);have G_Q7:=(ZgO (P:=P) (w:=w) (base:=base) T).mono (k:=4) (by decide)
 refine ZgL (φ:=ZjC) (χ:=ZjD) T.p_QD.f ZlJ (by conv=>lhs;whnf) (by conv=>lhs;whnf) (λcdv A outer s H E hr => ?_) rfl rfl rfl;refine⟨_,(Zp (Yh (i:=2) nd6 (by rfl) (by first|exact Or.inl rfl|exact Or.inr rfl) (Zaq (cA:=⟨t.c,K⟩) (tab:=tab_begin) (m:="begin") ⟨⟨t.a_QV,t.d_QV,["self"],T.cl_Rule,T.me_Rule_begin,G_QV,T.p_QV.b⟩,⟨⟨t.a_Q6,t.d_Q6,["self"],T.cl_Gap,T.me_Gap_begin,G_Q6,T.p_Q6.b⟩,⟨⟨t.a_QV,t.d_QV,["self"],T.cl_Never,T.me_Never_begin,G_QV,T.p_QV.b⟩,⟨⟨t.a_QV,t.d_QV,["self"],T.cl_Sum,T.me_Sum_begin,G_QV,T.p_QV.b⟩,⟨⟨t.a_QV,t.d_QV,["self"],T.cl_Turn,T.me_Turn_begin,G_QV,T.p_QV.b⟩,⟨⟨t.a_QM,t.d_QM,["self"],T.cl_Alike,T.me_Alike_begin,G_QM,T.p_QM.b⟩,⟨⟨t.a_Q8,t.d_Q8,["self"],T.cl_All,T.me_All_begin,G_Q8,T.p_Q8.b⟩,trivial⟩⟩⟩⟩⟩⟩⟩ hr (pv 0)))
 (Zp (V0 PassesOwn.leaving (by rfl) (Zfy (by rfl) T.n_enumerate (pv 1)) (ZgF (K:=K) (n:=2) (QA (YL (i:=3) nd6) (QA (YL (i:=4) nd6) Zb8))) (Zp (Yh (i:=2) nd6 (by rfl) (by first|exact Or.inl rfl|exact Or.inr rfl) (Zbq (cA:=⟨t.c,K⟩) (tab:=tab_step) (m:="step") ⟨⟨t.a_Q7,t.d_Q7,["self", "state", "mark"],T.cl_Rule,T.me_Rule_step,G_Q7,T.p_Q7.b⟩,⟨⟨t.a_Q7,t.d_Q7,["self", "state", "mark"],T.cl_Gap,T.me_Gap_step,G_Q7,T.p_Q7.b⟩,⟨⟨t.a_Q7,t.d_Q7,["self", "state", "mark"],T.cl_Never,T.me_Never_step,G_Q7,T.p_Q7.b⟩,⟨⟨t.a_Q7,t.d_Q7,["self", "state", "mark"],T.cl_Sum,T.me_Sum_step,G_Q7,T.p_Q7.b⟩,⟨⟨t.a_Q7,t.d_Q7,["self", "state", "mark"],T.cl_Turn,T.me_Turn_step,G_Q7,T.p_Q7.b⟩,⟨⟨t.a_Q7,t.d_Q7,["self", "state", "mark"],T.cl_Alike,T.me_Alike_step,G_Q7,T.p_Q7.b⟩,⟨⟨t.a_Q7,t.d_Q7,["self", "state", "mark"],T.cl_All,T.me_All_step,G_Q7,T.p_Q7.b⟩,trivial⟩⟩⟩⟩⟩⟩⟩ hr ZaV (pv 0) (Zd (pv 2) (Zd (pv 4) Zj))))
 (Zr (Yo (Vz (VW (pv 2))) (Zr (ZJ (pv 3))) Yn))))
 (Zr (ZJ X7)))),[],?_,?_⟩
 · unfold ZjC
   exact(Zq (show VS _ _ [] _ _ _ _ from(Yc 2 (UL (Zc 0) Zm)))
 (Zq (VL (Zbp (Zc 1)) (Jw (V9 3 (by rfl) (by rfl) (V9 4 (by rfl) (by rfl) Jv))) (Zq (show VS _ _ [] _ _ _ _ from(Yc 2 (Up (Zc 0) (Ze (Zc 2) (Ze (Zc 4) Zm)))))
 (Ym (YD (Vq (Zc 2))) (ZI (Zc 3)) Yl)))
 (ZI (Zg (d:=.non) (by rfl) (by rfl)))))
 · unfold ZjD
   exact(Zcy (owB:=[]) (owC:=[]) Jz (show VS _ _ [] _ _ _ _ from(Yc 2 (UL (Zc 0) Zm)))
 (Zcy (owB:=[]) (owC:=[]) (ZiP (Zbp (Zc 1)) (Jw (V9 3 (by rfl) (by rfl) (V9 4 (by rfl) (by rfl) Jv))) (Zq (show VS _ _ [] _ _ _ _ from(Yc 2 (Up (Zc 0) (Ze (Zc 2) (Ze (Zc 4) Zm)))))
 (Ym (YD (Vq (Zc 2))) (ZI (Zc 3)) Yl)) (Zcy (owB:=[]) (owC:=[]) (VXs.vx (Zcf (JB (Zc 0) (Ze (Zc 2) (Ze (Zc 4) Zm))))) (show VS _ _ [] _ _ _ _ from(Yc 2 (Up (Zc 0) (Ze (Zc 2) (Ze (Zc 4) Zm)))))
 Jz)) (VL (Zbp (Zc 1)) (Jw (V9 3 (by rfl) (by rfl) (V9 4 (by rfl) (by rfl) Jv))) (Zq (show VS _ _ [] _ _ _ _ from(Yc 2 (Up (Zc 0) (Ze (Zc 2) (Ze (Zc 4) Zm)))))
 (Ym (YD (Vq (Zc 2))) (ZI (Zc 3)) Yl)))
 Jz))
theorem Zmg(T:Txt K mg t):FnOk P w K mg base (CX1 P w) 6 t.a_Q1 t.d_Q1 ["self", "row"] (spX ⟨t.c,K⟩ 2 Vh XX):=by
 have G_QD:=(Zif (P:=P) (w:=w) (base:=base) T).mono (k:=5) (by decide);refine ZgL (φ:=Zk3) (χ:=Zk4) T.p_Q1.f ZlK (by conv=>lhs;whnf) (by conv=>lhs;whnf) (λcdv A outer s H E hr => ?_) rfl rfl rfl;refine⟨_,(Zr (ZJ (Zcw (VW (Zbq (cA:=⟨t.c,K⟩) (tab:=tab_broken_at) (m:="broken_at") ⟨⟨t.a_QD,t.d_QD,["self", "row"],T.cl_Rule,T.me_Rule_broken_at,G_QD,T.p_QD.b⟩,⟨⟨t.a_QD,t.d_QD,["self", "row"],T.cl_Gap,T.me_Gap_broken_at,G_QD,T.p_QD.b⟩,⟨⟨t.a_QD,t.d_QD,["self", "row"],T.cl_Never,T.me_Never_broken_at,G_QD,T.p_QD.b⟩,⟨⟨t.a_QD,t.d_QD,["self", "row"],T.cl_Sum,T.me_Sum_broken_at,G_QD,T.p_QD.b⟩,⟨⟨t.a_QD,t.d_QD,["self", "row"],T.cl_Turn,T.me_Turn_broken_at,G_QD,T.p_QD.b⟩,⟨⟨t.a_QD,t.d_QD,["self", "row"],T.cl_Alike,T.me_Alike_broken_at,G_QD,T.p_QD.b⟩,⟨⟨t.a_QD,t.d_QD,["self", "row"],T.cl_All,T.me_All_broken_at,G_QD,T.p_QD.b⟩,trivial⟩⟩⟩⟩⟩⟩⟩ hr ZaV (pv 0) (Zd (pv 1) Zj)))))),[],?_,?_⟩
 · unfold Zk3
   exact(ZI (Vq (Up (Zc 0) (Ze (Zc 1) Zm))))
 · unfold Zk4
   exact(VXs.vx (Zha (Zhh (JB (Zc 0) (Ze (Zc 1) Zm)))))
theorem Zmh(T:Txt K mg t):FnOk P w K mg base CX0 3 t.a_Qc t.d_Qc ["self", "marks", "mark", "least", "most"] (spI ⟨t.c,K⟩ 5 QZ):=by
 have G_Q3:=(Qr (P:=P) (w:=w) (base:=base) T).mono (k:=2) (by decide);have G_Qi:=(Q2 (P:=P) (w:=w) (base:=base) T).mono (k:=2) (by decide);have G_Qh:=(Zdv (P:=P) (w:=w) (base:=base) T).mono (k:=2) (by decide);have G_Qg:=(Ze1 (P:=P) (w:=w) (base:=base) T).mono (k:=2) (by decide);refine Qd (φ:=f_Qc) T.f_Qc ZlL (by conv=>lhs;whnf) (by conv=>lhs;whnf) (λcdv A outer s H E self hr => ?_) rfl rfl
 refine⟨_,(Zp (YS (QN (by rfl) T.g_Rule T.cm_Rule_init G_Q3 hr T.p_Q3.b .nil ZB (Zd (pv 0) (Zd (pv 1) Zj))))
 (Zp (YS (ZV (G_Qi) hr (by rfl) T.p_Qi.g T.p_Qi.k T.p_Qi.b .nil ZB (Zd (ZV (G_Qh) hr (by rfl) T.p_Qh.g T.p_Qh.k T.p_Qh.b .nil ZB (Zd (pv 1) (Zd (pv 2) Zj))) (Zd (Yg [97,32,71,97,112,39,115,32,109,97,114,107,32,105,115,32,111,110,101,32,111,102,32,116,104,101,32,109,97,114,107,115] (by decide +kernel)) Zj))))
 (Zp (YS (ZV (G_Qi) hr (by rfl) T.p_Qi.g T.p_Qi.k T.p_Qi.b .nil ZB (Zd (ZV (G_Qg) hr (by rfl) T.p_Qg.g T.p_Qg.k T.p_Qg.b .nil ZB (Zd (pv 3) (Zd Zo (Zd Zo Zj)))) (Zd (Yg [97,32,71,97,112,39,115,32,108,101,97,115,116,32,105,115,32,102,114,111,109,32,48,32,116,111,32,56] (by decide +kernel)) Zj))))
 (Zp (YS (ZV (G_Qi) hr (by rfl) T.p_Qi.g T.p_Qi.k T.p_Qi.b .nil ZB (Zd (ZhQ (Zcw (VW (pv 4))) (VY (ZV (G_Qg) hr (by rfl) T.p_Qg.g T.p_Qg.k T.p_Qg.b .nil ZB (Zd (pv 4) (Zd (pv 3) (Zd Zo Zj)))))) (Zd (Yg [97,32,71,97,112,39,115,32,109,111,115,116,32,105,115,32,78,111,110,101,32,111,114,32,102,114,111,109,32,108,101,97,115,116,32,116,111,32,56] (by decide +kernel)) Zj))))
 (Zp (X8 (pv 0) (pv 2) (by rfl))
 (Zp (X8 (pv 0) (pv 3) (by rfl))
 (Zr (X8 (pv 0) (pv 4) (by rfl))))))))),?_⟩
 unfold f_Qc;exact(Zq (QO 0 (by rfl) [] (by rfl) (Ze (Zc 1) Zm))
 (Zq (Xu (ZT [] (by rfl) (Ze (ZT [] (by rfl) (Ze (Zc 1) (Ze (Zc 2) Zm))) (Ze (Zg (d:=(.str [97,32,71,97,112,39,115,32,109,97,114,107,32,105,115,32,111,110,101,32,111,102,32,116,104,101,32,109,97,114,107,115])) (by rfl) (by rfl)) Zm))))
 (Zq (Xu (ZT [] (by rfl) (Ze (ZT [] (by rfl) (Ze (Zc 3) (Ze (Zg (d:=(.int 0)) (by rfl) (by rfl)) (Ze (Zg (d:=(.int 8)) (by rfl) (by rfl)) Zm)))) (Ze (Zg (d:=(.str [97,32,71,97,112,39,115,32,108,101,97,115,116,32,105,115,32,102,114,111,109,32,48,32,116,111,32,56])) (by rfl) (by rfl)) Zm))))
 (Zq (Xu (ZT [] (by rfl) (Ze (ZhX (Vq (Zc 4)) (ZT [] (by rfl) (Ze (Zc 4) (Ze (Zc 3) (Ze (Zg (d:=(.int 8)) (by rfl) (by rfl)) Zm))))) (Ze (Zg (d:=(.str [97,32,71,97,112,39,115,32,109,111,115,116,32,105,115,32,78,111,110,101,32,111,114,32,102,114,111,109,32,108,101,97,115,116,32,116,111,32,56])) (by rfl) (by rfl)) Zm))))
 (Zq (Vb 0 (by rfl) T.fl_mark (Zc 2))
 (Zq (Vb 0 (by rfl) T.fl_least (Zc 3))
 (Vb 0 (by rfl) T.fl_most (Zc 4))))))))
theorem Zmi(T:Txt K mg t):FnOk P w K mg base CX0 3 t.a_QO t.d_QO ["self", "marks", "word"] (spI ⟨t.c,K⟩ 3 ZjF):=by
 have G_Q3:=(Qr (P:=P) (w:=w) (base:=base) T).mono (k:=2) (by decide);have G_Qi:=(Q2 (P:=P) (w:=w) (base:=base) T).mono (k:=2) (by decide);have G_Qh:=(Zdv (P:=P) (w:=w) (base:=base) T).mono (k:=2) (by decide);refine Qd (φ:=ZjE) T.p_QO.f ZlM (by conv=>lhs;whnf) (by conv=>lhs;whnf) (λcdv A outer s H E self hr => ?_) rfl rfl;refine⟨_,(Zp (YS (QN (by rfl) T.g_Rule T.cm_Rule_init G_Q3 hr T.p_Q3.b .nil ZB (Zd (pv 0) (Zd (pv 1) Zj))))
 (Zp (YS (ZV (G_Qi) hr (by rfl) T.p_Qi.g T.p_Qi.k T.p_Qi.b .nil ZB (Zd (ZcG UG UG Zo (Yq (YT (K:=K)) (by rfl) T.n_len boot_len (Zd (pv 2) Zj)) Zo) (Zd (Yg [97,32,78,101,118,101,114,39,115,32,119,111,114,100,32,104,97,115,32,49,32,116,111,32,54,32,115,105,103,110,115] (by decide +kernel)) Zj))))
 (Zp (YS (ZV (G_Qi) hr (by rfl) T.p_Qi.g T.p_Qi.k T.p_Qi.b .nil ZB (Zd (Yq (Ze0 (K:=K)) (by rfl) T.n_all boot_all (Zd (Uc (by rfl) (CompSd.mk1 (tn:=["sign"]) (cn:=["marks"]) (js:=[1]) (osc:=defScope JZ) (oN:=["self", "marks", "word"]) (by rfl) (by rfl) (by rfl) (by decide +kernel)) (XR (K:=K) (pv 2)) (λC s₂ H₂ fp=>YL (i:=0) nd0) (λC s₂ H₂ fp=>Vm) (λC s₂ H₂ fp=>(ZV (G_Qh) hr (by rfl) T.p_Qh.g T.p_Qh.k T.p_Qh.b .nil ZB (Zd (pv 1) (Zd (pv 0) Zj))))) Zj)) (Zd (Yg [97,32,78,101,118,101,114,39,115,32,119,111,114,100,32,105,115,32,111,102,32,109,97,114,107,115] (by decide +kernel)) Zj))))
 (Zr (X8 (pv 0) (pv 2) (by rfl)))))),?_⟩
 unfold ZjE;exact(Zq (QO 0 (by rfl) [] (by rfl) (Ze (Zc 1) Zm))
 (Zq (Xu (ZT [] (by rfl) (Ze (Zbk (Zg (d:=(.int 1)) (by rfl) (by rfl)) (Yz YW (Ze (Zc 2) Zm)) (Zg (d:=(.int 6)) (by rfl) (by rfl))) (Ze (Zg (d:=(.str [97,32,78,101,118,101,114,39,115,32,119,111,114,100,32,104,97,115,32,49,32,116,111,32,54,32,115,105,103,110,115])) (by rfl) (by rfl)) Zm))))
 (Zq (Xu (ZT [] (by rfl) (Ze (Yz QJ (Ze (VF.cl (X9 (by rfl) (XS (Zc 2)) (Y9 0) Vp (ZT [] (by rfl) (Ze (Zc 1) (Ze (Zc 0) Zm))))) Zm)) (Ze (Zg (d:=(.str [97,32,78,101,118,101,114,39,115,32,119,111,114,100,32,105,115,32,111,102,32,109,97,114,107,115])) (by rfl) (by rfl)) Zm))))
 (Vb 0 (by rfl) T.fl_word (Zc 2)))))
theorem Zmj(T:Txt K mg t):FnOk P w K mg base CX0 3 t.a_Qf t.d_Qf ["self", "marks", "worths", "low", "high"] (spI ⟨t.c,K⟩ 5 ZjH):=by
 have G_Q3:=(Qr (P:=P) (w:=w) (base:=base) T).mono (k:=2) (by decide);have G_Qi:=(Q2 (P:=P) (w:=w) (base:=base) T).mono (k:=2) (by decide);have G_Qg:=(Ze1 (P:=P) (w:=w) (base:=base) T).mono (k:=2) (by decide);refine Qd (φ:=ZjG) T.p_Qf.f ZlN (by conv=>lhs;whnf) (by conv=>lhs;whnf) (λcdv A outer s H E self hr => ?_) rfl rfl;refine⟨_,(Zp (YS (QN (by rfl) T.g_Rule T.cm_Rule_init G_Q3 hr T.p_Q3.b .nil ZB (Zd (pv 0) (Zd (pv 1) Zj))))
 (Zp (YS (ZV (G_Qi) hr (by rfl) T.p_Qi.g T.p_Qi.k T.p_Qi.b .nil ZB (Zd (Xf (YG (cA:=⟨t.c,K⟩) (hr.units)) (Yq (YT (K:=K)) (by rfl) T.n_len boot_len (Zd (pv 2) Zj)) (Yq (YT (K:=K)) (by rfl) T.n_len boot_len (Zd (pv 1) Zj)) (Yk _)) (Zd (Yg [97,32,83,117,109,32,104,97,115,32,97,115,32,109,97,110,121,32,119,111,114,116,104,115,32,97,115,32,116,104,101,114,101,32,97,114,101,32,109,97,114,107,115] (by decide +kernel)) Zj))))
 (Zp (YS (ZV (G_Qi) hr (by rfl) T.p_Qi.g T.p_Qi.k T.p_Qi.b .nil ZB (Zd (Yq (Ze0 (K:=K)) (by rfl) T.n_all boot_all (Zd (Uc (by rfl) (CompSd.mk1 (tn:=["worth"]) (cn:=[]) (js:=[]) (osc:=defScope J0) (oN:=["self", "marks", "worths", "low", "high"]) (by rfl) (by rfl) (by rfl) (by decide +kernel)) (XR (K:=K) (pv 2)) (λC s₂ H₂ fp=>YL (i:=0) nd7) (λC s₂ H₂ fp=>Vm) (λC s₂ H₂ fp=>(ZV (G_Qg) hr (by rfl) T.p_Qg.g T.p_Qg.k T.p_Qg.b .nil ZB (Zd (pv 0) (Zd (UE UF Zo) (Zd Zo Zj)))))) Zj)) (Zd (Yg [97,32,83,117,109,39,115,32,119,111,114,116,104,115,32,97,114,101,32,102,114,111,109,32,45,51,32,116,111,32,51] (by decide +kernel)) Zj))))
 (Zp (YS (ZV (G_Qi) hr (by rfl) T.p_Qi.g T.p_Qi.k T.p_Qi.b .nil ZB (Zd (ZV (G_Qg) hr (by rfl) T.p_Qg.g T.p_Qg.k T.p_Qg.b .nil ZB (Zd (pv 3) (Zd (UE UF Zo) (Zd Zo Zj)))) (Zd (Yg [97,32,83,117,109,39,115,32,108,111,119,32,105,115,32,102,114,111,109,32,45,56,32,116,111,32,48] (by decide +kernel)) Zj))))
 (Zp (YS (ZV (G_Qi) hr (by rfl) T.p_Qi.g T.p_Qi.k T.p_Qi.b .nil ZB (Zd (ZV (G_Qg) hr (by rfl) T.p_Qg.g T.p_Qg.k T.p_Qg.b .nil ZB (Zd (pv 4) (Zd Zo (Zd Zo Zj)))) (Zd (Yg [97,32,83,117,109,39,115,32,104,105,103,104,32,105,115,32,102,114,111,109,32,48,32,116,111,32,56] (by decide +kernel)) Zj))))
 (Zp (X8 (pv 0) (QC (Jm (K:=K)) (by rfl) T.n_tuple boot_tuple (Zd (pv 2) Zj)) (by rfl))
 (Zp (X8 (pv 0) (pv 3) (by rfl))
 (Zr (X8 (pv 0) (pv 4) (by rfl)))))))))),?_⟩
 unfold ZjG;exact(Zq (QO 0 (by rfl) [] (by rfl) (Ze (Zc 1) Zm))
 (Zq (Xu (ZT [] (by rfl) (Ze (Zh YH (Yz YW (Ze (Zc 2) Zm)) (Yz YW (Ze (Zc 1) Zm))) (Ze (Zg (d:=(.str [97,32,83,117,109,32,104,97,115,32,97,115,32,109,97,110,121,32,119,111,114,116,104,115,32,97,115,32,116,104,101,114,101,32,97,114,101,32,109,97,114,107,115])) (by rfl) (by rfl)) Zm))))
 (Zq (Xu (ZT [] (by rfl) (Ze (Yz QJ (Ze (VF.cl (X9 (by rfl) (XS (Zc 2)) (Y9 0) Vp (ZT [] (by rfl) (Ze (Zc 0) (Ze (U9 (Zg (d:=(.int 3)) (by rfl) (by rfl))) (Ze (Zg (d:=(.int 3)) (by rfl) (by rfl)) Zm)))))) Zm)) (Ze (Zg (d:=(.str [97,32,83,117,109,39,115,32,119,111,114,116,104,115,32,97,114,101,32,102,114,111,109,32,45,51,32,116,111,32,51])) (by rfl) (by rfl)) Zm))))
 (Zq (Xu (ZT [] (by rfl) (Ze (ZT [] (by rfl) (Ze (Zc 3) (Ze (U9 (Zg (d:=(.int 8)) (by rfl) (by rfl))) (Ze (Zg (d:=(.int 0)) (by rfl) (by rfl)) Zm)))) (Ze (Zg (d:=(.str [97,32,83,117,109,39,115,32,108,111,119,32,105,115,32,102,114,111,109,32,45,56,32,116,111,32,48])) (by rfl) (by rfl)) Zm))))
 (Zq (Xu (ZT [] (by rfl) (Ze (ZT [] (by rfl) (Ze (Zc 4) (Ze (Zg (d:=(.int 0)) (by rfl) (by rfl)) (Ze (Zg (d:=(.int 8)) (by rfl) (by rfl)) Zm)))) (Ze (Zg (d:=(.str [97,32,83,117,109,39,115,32,104,105,103,104,32,105,115,32,102,114,111,109,32,48,32,116,111,32,56])) (by rfl) (by rfl)) Zm))))
 (Zq (Vb 0 (by rfl) T.fl_worths (Jt (Ze (Zc 2) Zm)))
 (Zq (Vb 0 (by rfl) T.fl_low (Zc 3))
 (Vb 0 (by rfl) T.fl_high (Zc 4)))))))))
theorem Zmk(T:Txt K mg t):FnOk P w K mg base CX0 3 t.a_Qa t.d_Qa ["self", "marks", "mark", "every", "at"] (spI ⟨t.c,K⟩ 5 ZjJ):=by
 have G_Q3:=(Qr (P:=P) (w:=w) (base:=base) T).mono (k:=2) (by decide);have G_Qi:=(Q2 (P:=P) (w:=w) (base:=base) T).mono (k:=2) (by decide);have G_Qh:=(Zdv (P:=P) (w:=w) (base:=base) T).mono (k:=2) (by decide);have G_Qg:=(Ze1 (P:=P) (w:=w) (base:=base) T).mono (k:=2) (by decide);refine Qd (φ:=ZjI) T.p_Qa.f ZlO (by conv=>lhs;whnf) (by conv=>lhs;whnf) (λcdv A outer s H E self hr => ?_) rfl rfl
 refine⟨_,(Zp (YS (QN (by rfl) T.g_Rule T.cm_Rule_init G_Q3 hr T.p_Q3.b .nil ZB (Zd (pv 0) (Zd (pv 1) Zj))))
 (Zp (YS (ZV (G_Qi) hr (by rfl) T.p_Qi.g T.p_Qi.k T.p_Qi.b .nil ZB (Zd (ZV (G_Qh) hr (by rfl) T.p_Qh.g T.p_Qh.k T.p_Qh.b .nil ZB (Zd (pv 1) (Zd (pv 2) Zj))) (Zd (Yg [97,32,84,117,114,110,39,115,32,109,97,114,107,32,105,115,32,111,110,101,32,111,102,32,116,104,101,32,109,97,114,107,115] (by decide +kernel)) Zj))))
 (Zp (YS (ZV (G_Qi) hr (by rfl) T.p_Qi.g T.p_Qi.k T.p_Qi.b .nil ZB (Zd (ZV (G_Qg) hr (by rfl) T.p_Qg.g T.p_Qg.k T.p_Qg.b .nil ZB (Zd (pv 3) (Zd Zo (Zd Zo Zj)))) (Zd (Yg [97,32,84,117,114,110,39,115,32,101,118,101,114,121,32,105,115,32,102,114,111,109,32,49,32,116,111,32,54] (by decide +kernel)) Zj))))
 (Zp (YS (ZV (G_Qi) hr (by rfl) T.p_Qi.g T.p_Qi.k T.p_Qi.b .nil ZB (Zd (ZV (G_Qg) hr (by rfl) T.p_Qg.g T.p_Qg.k T.p_Qg.b .nil ZB (Zd (pv 4) (Zd Zo (Zd (Zv V1 (pv 3) Zo) Zj)))) (Zd (Yg [97,32,84,117,114,110,39,115,32,97,116,32,105,115,32,102,114,111,109,32,48,32,116,111,32,111,110,101,32,98,101,108,111,119,32,101,118,101,114,121] (by decide +kernel)) Zj))))
 (Zp (X8 (pv 0) (pv 2) (by rfl))
 (Zp (X8 (pv 0) (pv 3) (by rfl))
 (Zr (X8 (pv 0) (pv 4) (by rfl))))))))),?_⟩
 unfold ZjI;exact(Zq (QO 0 (by rfl) [] (by rfl) (Ze (Zc 1) Zm))
 (Zq (Xu (ZT [] (by rfl) (Ze (ZT [] (by rfl) (Ze (Zc 1) (Ze (Zc 2) Zm))) (Ze (Zg (d:=(.str [97,32,84,117,114,110,39,115,32,109,97,114,107,32,105,115,32,111,110,101,32,111,102,32,116,104,101,32,109,97,114,107,115])) (by rfl) (by rfl)) Zm))))
 (Zq (Xu (ZT [] (by rfl) (Ze (ZT [] (by rfl) (Ze (Zc 3) (Ze (Zg (d:=(.int 1)) (by rfl) (by rfl)) (Ze (Zg (d:=(.int 6)) (by rfl) (by rfl)) Zm)))) (Ze (Zg (d:=(.str [97,32,84,117,114,110,39,115,32,101,118,101,114,121,32,105,115,32,102,114,111,109,32,49,32,116,111,32,54])) (by rfl) (by rfl)) Zm))))
 (Zq (Xu (ZT [] (by rfl) (Ze (ZT [] (by rfl) (Ze (Zc 4) (Ze (Zg (d:=(.int 0)) (by rfl) (by rfl)) (Ze (Zh V7 (Zc 3) (Zg (d:=(.int 1)) (by rfl) (by rfl))) Zm)))) (Ze (Zg (d:=(.str [97,32,84,117,114,110,39,115,32,97,116,32,105,115,32,102,114,111,109,32,48,32,116,111,32,111,110,101,32,98,101,108,111,119,32,101,118,101,114,121])) (by rfl) (by rfl)) Zm))))
 (Zq (Vb 0 (by rfl) T.fl_mark (Zc 2))
 (Zq (Vb 0 (by rfl) T.fl_every (Zc 3))
 (Vb 0 (by rfl) T.fl_at (Zc 4))))))))
theorem Zml(T:Txt K mg t):FnOk P w K mg base CX0 3 t.a_QR t.d_QR ["self", "marks", "most"] (spI ⟨t.c,K⟩ 3 ZjL):=by
 have G_Q3:=(Qr (P:=P) (w:=w) (base:=base) T).mono (k:=2) (by decide);have G_Qi:=(Q2 (P:=P) (w:=w) (base:=base) T).mono (k:=2) (by decide);have G_Qg:=(Ze1 (P:=P) (w:=w) (base:=base) T).mono (k:=2) (by decide);refine Qd (φ:=ZjK) T.p_QR.f ZlP (by conv=>lhs;whnf) (by conv=>lhs;whnf) (λcdv A outer s H E self hr => ?_) rfl rfl;refine⟨_,(Zp (YS (QN (by rfl) T.g_Rule T.cm_Rule_init G_Q3 hr T.p_Q3.b .nil ZB (Zd (pv 0) (Zd (pv 1) Zj))))
 (Zp (YS (ZV (G_Qi) hr (by rfl) T.p_Qi.g T.p_Qi.k T.p_Qi.b .nil ZB (Zd (ZV (G_Qg) hr (by rfl) T.p_Qg.g T.p_Qg.k T.p_Qg.b .nil ZB (Zd (pv 2) (Zd Zo (Zd Zo Zj)))) (Zd (Yg [97,110,32,65,108,105,107,101,39,115,32,109,111,115,116,32,105,115,32,102,114,111,109,32,49,32,116,111,32,54] (by decide +kernel)) Zj))))
 (Zr (X8 (pv 0) (pv 2) (by rfl))))),?_⟩
 unfold ZjK;exact(Zq (QO 0 (by rfl) [] (by rfl) (Ze (Zc 1) Zm))
 (Zq (Xu (ZT [] (by rfl) (Ze (ZT [] (by rfl) (Ze (Zc 2) (Ze (Zg (d:=(.int 1)) (by rfl) (by rfl)) (Ze (Zg (d:=(.int 6)) (by rfl) (by rfl)) Zm)))) (Ze (Zg (d:=(.str [97,110,32,65,108,105,107,101,39,115,32,109,111,115,116,32,105,115,32,102,114,111,109,32,49,32,116,111,32,54])) (by rfl) (by rfl)) Zm))))
 (Vb 0 (by rfl) T.fl_most (Zc 2))))
theorem Zmm(T:Txt K mg t):FnOk P w K mg base CX0 3 t.a_Qb t.d_Qb ["self", "marks", "rules"] (spI ⟨t.c,K⟩ 3 ZjM):=by
 have G_Q3:=(Qr (P:=P) (w:=w) (base:=base) T).mono (k:=2) (by decide);have G_Qi:=(Q2 (P:=P) (w:=w) (base:=base) T).mono (k:=2) (by decide);refine Qd (φ:=JR) T.p_Qb.f ZlQ (by conv=>lhs;whnf) (by conv=>lhs;whnf) (λcdv A outer s H E self hr => ?_) rfl rfl;refine⟨_,(Zp (YS (QN (by rfl) T.g_Rule T.cm_Rule_init G_Q3 hr T.p_Q3.b .nil ZB (Zd (pv 0) (Zd (pv 1) Zj))))
 (Zp (YS (ZV (G_Qi) hr (by rfl) T.p_Qi.g T.p_Qi.k T.p_Qi.b .nil ZB (Zd (Xf UG (Yq (YT (K:=K)) (by rfl) T.n_len boot_len (Zd (pv 2) Zj)) Zo (Yk _)) (Zd (Yg [97,110,32,65,108,108,32,104,97,115,32,97,116,32,109,111,115,116,32,54,32,114,117,108,101,115] (by decide +kernel)) Zj))))
 (Zp (YS (ZV (G_Qi) hr (by rfl) T.p_Qi.g T.p_Qi.k T.p_Qi.b .nil ZB (Zd (Zf9 (Yq (ZhW (K:=K)) (by rfl) T.n_any boot_any (Zd (Uc (by rfl) (CompSd.mk1 (tn:=["rule"]) (cn:=[]) (js:=[]) (osc:=defScope Q1) (oN:=["self", "marks", "rules"]) (by rfl) (by rfl) (by rfl) (by decide +kernel)) (XR (K:=K) (pv 2)) (λC s₂ H₂ fp=>YL (i:=0) nd5) (λC s₂ H₂ fp=>Vm) (λC s₂ H₂ fp=>(Yq (Jx (K:=K)) (by rfl) T.n_isinstance boot_isinstance (Zd (pv 0) (Zd (UD (v:=.ref (t.c "All")) (by rfl) T.g_All (by rfl)) Zj))))) Zj))) (Zd (Yg [110,111,32,114,117,108,101,32,105,110,32,97,110,32,65,108,108,32,105,115,32,97,110,32,65,108,108] (by decide +kernel)) Zj))))
 (Zp (YS (ZV (G_Qi) hr (by rfl) T.p_Qi.g T.p_Qi.k T.p_Qi.b .nil ZB (Zd (Yq (Ze0 (K:=K)) (by rfl) T.n_all boot_all (Zd (Uc (by rfl) (CompSd.mk1 (tn:=["rule"]) (cn:=["marks"]) (js:=[1]) (osc:=defScope Q1) (oN:=["self", "marks", "rules"]) (by rfl) (by rfl) (by rfl) (by decide +kernel)) (XR (K:=K) (pv 2)) (λC s₂ H₂ fp=>YL (i:=0) nd8) (λC s₂ H₂ fp=>Vm) (λC s₂ H₂ fp=>(Xf (YG (cA:=⟨t.c,K⟩) (hr.units)) (YU (K:=K) (pv 0)) (pv 1) (Yk _)))) Zj)) (Zd (Yg [116,104,101,32,114,117,108,101,115,32,105,110,32,97,110,32,65,108,108,32,97,114,101,32,111,102,32,105,116,115,32,109,97,114,107,115] (by decide +kernel)) Zj))))
 (Zr (X8 (pv 0) (QC (Jm (K:=K)) (by rfl) T.n_tuple boot_tuple (Zd (pv 2) Zj)) (by rfl))))))),?_⟩
 unfold JR;exact(Zq (QO 0 (by rfl) [] (by rfl) (Ze (Zc 1) Zm))
 (Zq (Xu (ZT [] (by rfl) (Ze (Zh X0 (Yz YW (Ze (Zc 2) Zm)) (Zg (d:=(.int 6)) (by rfl) (by rfl))) (Ze (Zg (d:=(.str [97,110,32,65,108,108,32,104,97,115,32,97,116,32,109,111,115,116,32,54,32,114,117,108,101,115])) (by rfl) (by rfl)) Zm))))
 (Zq (Xu (ZT [] (by rfl) (Ze (Zgg (Yz QJ (Ze (VF.cl (X9 (by rfl) (XS (Zc 2)) (Y9 0) Vp (Jy (λ_ h=>h) T.isi_All (Zc 0)))) Zm))) (Ze (Zg (d:=(.str [110,111,32,114,117,108,101,32,105,110,32,97,110,32,65,108,108,32,105,115,32,97,110,32,65,108,108])) (by rfl) (by rfl)) Zm))))
 (Zq (Xu (ZT [] (by rfl) (Ze (Yz QJ (Ze (VF.cl (X9 (by rfl) (XS (Zc 2)) (Y9 0) Vp (Zh YH (YR T.fl_marks (Zc 0)) (Zc 1)))) Zm)) (Ze (Zg (d:=(.str [116,104,101,32,114,117,108,101,115,32,105,110,32,97,110,32,65,108,108,32,97,114,101,32,111,102,32,105,116,115,32,109,97,114,107,115])) (by rfl) (by rfl)) Zm))))
 (Vb 0 (by rfl) T.fl_rules (Jt (Ze (Zc 2) Zm)))))))
theorem Zig(T:Txt K mg t):FnOk P w K mg base CX0 1 t.a_QH t.d_QH ["script", "k"] (spD ⟨t.c,K⟩ 2 YZ):=by
 refine Yv (φ:=JS) T.p_QH.f ZlR (by conv=>lhs;whnf) (by conv=>lhs;whnf) (λcdv A outer s H E hr => ?_) rfl rfl;refine⟨_,(Zp (Yo (Yx U7 (pv 1) (Yq (YT (K:=K)) (by rfl) T.n_len boot_len (Zd (pv 0) Zj)) (Yk _)) (Zr (ZJ (Z8 (Z9 (K:=K)) (pv 0) (pv 1) (λ_ _=>rfl)))) Yn)
 (Zr (ZJ Zo))),[],?_⟩
 unfold JS;exact(Zq (Ym (Yt (Zh X0 (Zc 1) (Yz YW (Ze (Zc 0) Zm)))) (ZI (Zh Yb (Zc 0) (Zc 1))) Yl)
 (ZI (Zg (d:=(.int 0)) (by rfl) (by rfl))))
theorem Zmn(T:Txt K mg t):FnOk P w K mg base CX0 1 t.a_QQ t.d_QQ ["found"] (spD ⟨t.c,K⟩ 1 ZjO):=by
 refine Yv (φ:=ZjN) T.p_QQ.f ZlS (by conv=>lhs;whnf) (by conv=>lhs;whnf) (λcdv A outer s H E hr => ?_) rfl rfl;refine⟨_,(Zr (ZJ (Ui (Yq (Jx (K:=K)) (by rfl) T.n_isinstance boot_isinstance (Zd (pv 0) (Zd (Qw (v:=.ty "int") (by rfl) T.n_int boot_int rfl) Zj))) (VY (Zf9 (Yq (Jx (K:=K)) (by rfl) T.n_isinstance boot_isinstance (Zd (pv 0) (Zd (Qw (v:=.ty "bool") (by rfl) T.n_bool boot_bool rfl) Zj)))))))),[],?_⟩
 unfold ZjN;exact(ZI (Um (Jy (λ_ h=>h) T.isi_int (Zc 0)) (Zgg (Jy (λ_ h=>h) T.isi_bool (Zc 0)))))
theorem Zmo(T:Txt K mg t):FnOk P w K mg base CX0 1 t.a_QY t.d_QY ["cell"] (spD ⟨t.c,K⟩ 1 JT):=by
 refine Yv (φ:=ZjP) T.p_QY.f ZlT (by conv=>lhs;whnf) (by conv=>lhs;whnf) (λcdv A outer s H E hr => ?_) rfl rfl;refine⟨_,(Zp (Yh (i:=1) nd9 (by rfl) (by first|exact Or.inl rfl|exact Or.inr rfl) (Yg [97,98,99,100,101,102,103,104,105,106,107,108,109,110,111,112,113,114,115,116,117,118,119,120,121,122,48,49,50,51,52,53,54,55,56,57] (by decide +kernel)))
 (Zp (Yh (i:=2) nd9 (by rfl) (by first|exact Or.inl rfl|exact Or.inr rfl) (Zv YF Zo (Zv Yw (Zv Xp (pv 0) Zo) Zo)))
 (Zr (ZJ (Vn (K:=K) PySem.F.plainAttrs_str PySem.F.slot_str_join PySem.F.type_str_join (ZdV (K:=K)) (Yg [] (by decide +kernel)) (Zd (Uc (by rfl) (CompSd.mk1 (tn:=["k"]) (cn:=["some", "cell", "step"]) (js:=[1,0,2]) (osc:=defScope J4) (oN:=["cell", "some", "step"]) (by rfl) (by rfl) (by rfl) (by decide +kernel)) (QB (by rfl) T.n_range (Zd (Zv YF Zo (Zv Yw (Zv Xp (pv 0) Zo) Zo)) Zj)) (λC s₂ H₂ fp=>YL (i:=0) Zna) (λC s₂ H₂ fp=>Vm) (λC s₂ H₂ fp=>(Z8 (Z9 (K:=K)) (pv 1) (Zv Yw (Zv YF (pv 2) (Zv Zcb (pv 0) (pv 3))) Zo) (λ_ _=>rfl)))) Zj)))))),[],?_⟩
 unfold ZjP;exact(Zq (show VS _ _ [] _ _ _ _ from(Yc 1 (Zg (d:=(.str [97,98,99,100,101,102,103,104,105,106,107,108,109,110,111,112,113,114,115,116,117,118,119,120,121,122,48,49,50,51,52,53,54,55,56,57])) (by rfl) (by rfl))))
 (Zq (show VS _ _ [] _ _ _ _ from(Yc 2 (Zh YI (Zg (d:=(.int 1)) (by rfl) (by rfl)) (Zh Yy (Zh Xs (Zc 0) (Zg (d:=(.int 36)) (by rfl) (by rfl))) (Zg (d:=(.int 11)) (by rfl) (by rfl))))))
 (ZI (Ua ZdX (Zg (d:=(.str [])) (by rfl) (by rfl)) (Ze (VF.cl (X9 (by rfl) (QK (Ze (Zh YI (Zg (d:=(.int 2)) (by rfl) (by rfl)) (Zh Yy (Zh Xs (Zc 0) (Zg (d:=(.int 396)) (by rfl) (by rfl))) (Zg (d:=(.int 3)) (by rfl) (by rfl)))) Zm) QL) (Y9 0) Vp (Zh Yb (Zc 1) (Zh Yy (Zh YI (Zc 2) (Zh ZdB (Zc 0) (Zc 3))) (Zg (d:=(.int 36)) (by rfl) (by rfl)))))) Zm)))))
theorem Zmp(T:Txt K mg t):FnOk P w K mg base CX0 1 t.a_QN t.d_QN ["rule", "row"] (spD ⟨t.c,K⟩ 2 ZjR):=by
 refine Yv (φ:=ZjQ) T.p_QN.f ZlU (by conv=>lhs;whnf) (by conv=>lhs;whnf) (λcdv A outer s H E hr => ?_) rfl rfl;refine⟨_,(Zp (Yh (i:=2) Znb (by rfl) (by first|exact Or.inl rfl|exact Or.inr rfl) (Vn (K:=K) PySem.F.plainAttrs_str PySem.F.slot_str_rfind PySem.F.type_str_rfind Zfu (pv 1) (Zd (Z8 (Z9 (K:=K)) (pv 0) Zo (λ_ _=>rfl)) Zj)))
 (Zp (Yo (Yx U7 (pv 2) Zo (Yk _)) (Zr (ZJ (Zv YF (Yq (YT (K:=K)) (by rfl) T.n_len boot_len (Zd (pv 1) Zj)) (Z8 (Z9 (K:=K)) (pv 0) Zo (λ_ _=>rfl))))) Yn)
 (Zr (ZJ (Zv V1 (Zv V1 (Yq (YT (K:=K)) (by rfl) T.n_len boot_len (Zd (pv 1) Zj)) Zo) (pv 2)))))),[],?_⟩
 unfold ZjQ;exact(Zq (show VS _ _ [] _ _ _ _ from(Yc 2 (Ua Zfw (Zc 1) (Ze (Zh Yb (Zc 0) (Zg (d:=(.int 1)) (by rfl) (by rfl))) Zm))))
 (Zq (Ym (Yt (Zh X0 (Zc 2) (Zg (d:=(.int 0)) (by rfl) (by rfl)))) (ZI (Zh YI (Yz YW (Ze (Zc 1) Zm)) (Zh Yb (Zc 0) (Zg (d:=(.int 2)) (by rfl) (by rfl))))) Yl)
 (ZI (Zh V7 (Zh V7 (Yz YW (Ze (Zc 1) Zm)) (Zg (d:=(.int 1)) (by rfl) (by rfl))) (Zc 2)))))
theorem Zmq(T:Txt K mg t):FnOk P w K mg base CX0 1 t.a_QT t.d_QT ["marks", "rule", "row"] (spD ⟨t.c,K⟩ 3 Zk6):=by
 refine Yv (φ:=Zk5) T.p_QT.f ZlV (by conv=>lhs;whnf) (by conv=>lhs;whnf) (λcdv A outer s H E hr => ?_) rfl rfl;refine⟨_,(Zr (ZJ (Yq (ZiK (K:=K)) (by rfl) T.n_sum boot_sum (Zd (Uc (by rfl) (CompSd.mk1 (tn:=["mark"]) (cn:=["rule", "marks"]) (js:=[1,0]) (osc:=defScope J5) (oN:=["marks", "rule", "row"]) (by rfl) (by rfl) (by rfl) (by decide +kernel)) (XR (K:=K) (pv 2)) (λC s₂ H₂ fp=>YL (i:=0) Znc) (λC s₂ H₂ fp=>Vm) (λC s₂ H₂ fp=>(Z8 (Z9 (K:=K)) (Z8 (Z9 (K:=K)) (pv 1) Zo (λ_ _=>rfl)) (Vn (K:=K) PySem.F.plainAttrs_str PySem.F.slot_str_index PySem.F.type_str_index Zbm (pv 2) (Zd (pv 0) Zj)) (λ_ _=>rfl)))) Zj)))),[],?_⟩
 unfold Zk5;exact(ZI (Yz Zg8 (Ze (VF.cl (X9 (by rfl) (XS (Zc 2)) (Y9 0) Vp (Zh Yb (Zh Yb (Zc 1) (Zg (d:=(.int 1)) (by rfl) (by rfl))) (Ua Zbn (Zc 2) (Ze (Zc 0) Zm))))) Zm)))
theorem Zih(T:Txt K mg t):FnOk P w K mg base CX0 2 t.a_QK t.d_QK ["marks", "rule", "row"] (spD ⟨t.c,K⟩ 3 Xj):=by
 have G_QN:=(Zmp (P:=P) (w:=w) (base:=base) T).mono (k:=1) (by decide);have G_QT:=(Zmq (P:=P) (w:=w) (base:=base) T).mono (k:=1) (by decide);refine Yv (φ:=Vi) T.p_QK.f ZlW (by conv=>lhs;whnf) (by conv=>lhs;whnf) (λcdv A outer s H E hr => ?_) rfl rfl;refine⟨_,(Zp (Yo (Yx (YG (cA:=⟨t.c,K⟩) (hr.units)) (Z8 (Z9 (K:=K)) (pv 1) Zo (λ_ _=>rfl)) (Yg [103,97,112] (by decide +kernel)) (Yk _)) (Zp (Yh (i:=3) ZmX (by rfl) (by first|exact Or.inl rfl|exact Or.inr rfl) (ZV (G_QN) hr (by rfl) T.p_QN.g T.p_QN.k T.p_QN.b .nil ZB (Zd (pv 1) (Zd (XE (XF (K:=K)) (pv 2) XD (Xr (UE UF Zo))) Zj))))
 (Zp (Yo (Yx (YG (cA:=⟨t.c,K⟩) (hr.units)) (Z8 (Z9 (K:=K)) (pv 2) (UE UF Zo) (λ_ _=>rfl)) (Z8 (Z9 (K:=K)) (pv 1) Zo (λ_ _=>rfl)) (Yk _)) (Zr (ZJ (Xf U7 (pv 3) (Z8 (Z9 (K:=K)) (pv 1) Zo (λ_ _=>rfl)) (Yk _)))) Yn)
 (Zr (ZJ (Ui (Zcw (Ja (Z8 (Z9 (K:=K)) (pv 1) Zo (λ_ _=>rfl)))) (VY (Xf ZeY (Zv YF (pv 3) Zo) (Z8 (Z9 (K:=K)) (pv 1) Zo (λ_ _=>rfl)) (Yk _)))))))) Yn)
 (Zp (Yo (Yx (YG (cA:=⟨t.c,K⟩) (hr.units)) (Z8 (Z9 (K:=K)) (pv 1) Zo (λ_ _=>rfl)) (Yg [110,101,118,101,114] (by decide +kernel)) (Yk _)) (Zr (ZJ (Vn (K:=K) PySem.F.plainAttrs_str PySem.F.slot_str_endswith PySem.F.type_str_endswith Zam (pv 2) (Zd (Z8 (Z9 (K:=K)) (pv 1) Zo (λ_ _=>rfl)) Zj)))) Yn)
 (Zp (Yo (Yx (YG (cA:=⟨t.c,K⟩) (hr.units)) (Z8 (Z9 (K:=K)) (pv 1) Zo (λ_ _=>rfl)) (Yg [115,117,109] (by decide +kernel)) (Yk _)) (Zp (Yh (i:=4) ZmX (by rfl) (by first|exact Or.inl rfl|exact Or.inr rfl) (ZV (G_QT) hr (by rfl) T.p_QT.g T.p_QT.k T.p_QT.b .nil ZB (Zd (pv 0) (Zd (pv 1) (Zd (pv 2) Zj)))))
 (Zr (ZJ (ZhQ (Xf U7 (pv 4) (Z8 (Z9 (K:=K)) (pv 1) Zo (λ_ _=>rfl)) (Yk _)) (VY (Xf ZeY (pv 4) (Z8 (Z9 (K:=K)) (pv 1) Zo (λ_ _=>rfl)) (Yk _))))))) Yn)
 (Zp (Yo (Yx (YG (cA:=⟨t.c,K⟩) (hr.units)) (Z8 (Z9 (K:=K)) (pv 1) Zo (λ_ _=>rfl)) (Yg [116,117,114,110] (by decide +kernel)) (Yk _)) (Zr (ZJ (Ui (Xf (YG (cA:=⟨t.c,K⟩) (hr.units)) (Z8 (Z9 (K:=K)) (pv 2) (UE UF Zo) (λ_ _=>rfl)) (Z8 (Z9 (K:=K)) (pv 1) Zo (λ_ _=>rfl)) (Yk _)) (VY (Xf (Jo (cA:=⟨t.c,K⟩) (hr.units)) (Zv Yw (Zv V1 (Yq (YT (K:=K)) (by rfl) T.n_len boot_len (Zd (pv 2) Zj)) Zo) (Z8 (Z9 (K:=K)) (pv 1) Zo (λ_ _=>rfl))) (Z8 (Z9 (K:=K)) (pv 1) Zo (λ_ _=>rfl)) (Yk _)))))) Yn)
 (Zr (ZJ (Vn (K:=K) PySem.F.plainAttrs_str PySem.F.slot_str_endswith PySem.F.type_str_endswith Zam (pv 2) (Zd (Zv Zcb (Z8 (Z9 (K:=K)) (pv 2) (UE UF Zo) (λ_ _=>rfl)) (Zv YF (Z8 (Z9 (K:=K)) (pv 1) Zo (λ_ _=>rfl)) Zo)) Zj)))))))),[],?_⟩
 unfold Vi;exact(Zq (Ym (Yt (Zh YH (Zh Yb (Zc 1) (Zg (d:=(.int 0)) (by rfl) (by rfl))) (Zg (d:=(.str [103,97,112])) (by rfl) (by rfl)))) (Zq (show VS _ _ [] _ _ _ _ from(Yc 3 (ZT [] (by rfl) (Ze (Zc 1) (Ze (XM (Or.inl rfl) (Zc 2) XI (XJ (U9 (Zg (d:=(.int 1)) (by rfl) (by rfl))))) Zm)))))
 (Zq (Ym (Yt (Zh YH (Zh Yb (Zc 2) (U9 (Zg (d:=(.int 1)) (by rfl) (by rfl)))) (Zh Yb (Zc 1) (Zg (d:=(.int 1)) (by rfl) (by rfl))))) (ZI (Zh X0 (Zc 3) (Zh Yb (Zc 1) (Zg (d:=(.int 2)) (by rfl) (by rfl))))) Yl)
 (ZI (Um (Jr (Zh Yb (Zc 1) (Zg (d:=(.int 3)) (by rfl) (by rfl)))) (Zh X0 (Zh YI (Zc 3) (Zg (d:=(.int 1)) (by rfl) (by rfl))) (Zh Yb (Zc 1) (Zg (d:=(.int 3)) (by rfl) (by rfl)))))))) Yl)
 (Zq (Ym (Yt (Zh YH (Zh Yb (Zc 1) (Zg (d:=(.int 0)) (by rfl) (by rfl))) (Zg (d:=(.str [110,101,118,101,114])) (by rfl) (by rfl)))) (ZI (Ua Zce (Zc 2) (Ze (Zh Yb (Zc 1) (Zg (d:=(.int 1)) (by rfl) (by rfl))) Zm))) Yl)
 (Zq (Ym (Yt (Zh YH (Zh Yb (Zc 1) (Zg (d:=(.int 0)) (by rfl) (by rfl))) (Zg (d:=(.str [115,117,109])) (by rfl) (by rfl)))) (Zq (show VS _ _ [] _ _ _ _ from(Yc 4 (ZT [] (by rfl) (Ze (Zc 0) (Ze (Zc 1) (Ze (Zc 2) Zm))))))
 (ZI (ZhX (Zh X0 (Zc 4) (Zh Yb (Zc 1) (Zg (d:=(.int 2)) (by rfl) (by rfl)))) (Zh X0 (Zc 4) (Zh Yb (Zc 1) (Zg (d:=(.int 3)) (by rfl) (by rfl))))))) Yl)
 (Zq (Ym (Yt (Zh YH (Zh Yb (Zc 1) (Zg (d:=(.int 0)) (by rfl) (by rfl))) (Zg (d:=(.str [116,117,114,110])) (by rfl) (by rfl)))) (ZI (Um (Zh YH (Zh Yb (Zc 2) (U9 (Zg (d:=(.int 1)) (by rfl) (by rfl)))) (Zh Yb (Zc 1) (Zg (d:=(.int 1)) (by rfl) (by rfl)))) (Zh Jp (Zh Yy (Zh V7 (Yz YW (Ze (Zc 2) Zm)) (Zg (d:=(.int 1)) (by rfl) (by rfl))) (Zh Yb (Zc 1) (Zg (d:=(.int 2)) (by rfl) (by rfl)))) (Zh Yb (Zc 1) (Zg (d:=(.int 3)) (by rfl) (by rfl)))))) Yl)
 (ZI (Ua Zce (Zc 2) (Ze (Zh ZdB (Zh Yb (Zc 2) (U9 (Zg (d:=(.int 1)) (by rfl) (by rfl)))) (Zh YI (Zh Yb (Zc 1) (Zg (d:=(.int 1)) (by rfl) (by rfl))) (Zg (d:=(.int 1)) (by rfl) (by rfl)))) Zm)))))))
theorem Zmr(T:Txt K mg t):FnOk P w K mg base CX0 1 t.a_Q5 t.d_Q5 ["marks", "kind", "one", "two", "three"] (spD ⟨t.c,K⟩ 5 ZjT):=by
 refine Yv (φ:=ZjS) T.p_Q5.f ZlX (by conv=>lhs;whnf) (by conv=>lhs;whnf) (λcdv A outer s H E hr => ?_) rfl rfl;refine⟨_,(Zp (Yh (i:=5) ZhG (by rfl) (by first|exact Or.inl rfl|exact Or.inr rfl) (Z8 (Z9 (K:=K)) (pv 0) (Zv Yw (pv 2) (Yq (YT (K:=K)) (by rfl) T.n_len boot_len (Zd (pv 0) Zj))) (λ_ _=>rfl)))
 (Zp (Yo (Yx (YG (cA:=⟨t.c,K⟩) (hr.units)) (Zv Yw (pv 1) Zo) Zo (Yk _)) (Zp (Yh (i:=6) ZhG (by rfl) (by first|exact Or.inl rfl|exact Or.inr rfl) (Z8 (Z9 (K:=K)) (Vl (Zd (Zv Yw (pv 3) Zo) (Zd (Zv Yw (pv 3) Zo) Zj))) (Zv Yw (pv 4) Zo) (λ_ _=>rfl)))
 (Zp (Yo (Yx (YG (cA:=⟨t.c,K⟩) (hr.units)) (Zv Yw (Zv Xp (pv 4) Zo) Zo) Zo (Yk _)) (Zr (ZJ (VD (Zd (Yg [103,97,112] (by decide +kernel)) (Zd (pv 5) (Zd (pv 6) (Zd X7 Zj))))))) Yn)
 (Zr (ZJ (VD (Zd (Yg [103,97,112] (by decide +kernel)) (Zd (pv 5) (Zd (pv 6) (Zd (Yq (ZbG (by rfl)) (by rfl) T.n_min boot_min (Zd Zo (Zd (Zv YF (pv 6) (Zv Yw (Zv Xp (pv 4) Zo) Zo)) Zj))) Zj))))))))) Yn)
 (Zp (Yo (Yx (YG (cA:=⟨t.c,K⟩) (hr.units)) (Zv Yw (pv 1) Zo) Zo (Yk _)) (Zp (Yh (i:=7) ZhG (by rfl) (by first|exact Or.inl rfl|exact Or.inr rfl) (Zv YF Zo (Zv Yw (pv 3) Zo)))
 (Zr (ZJ (VD (Zd (Yg [110,101,118,101,114] (by decide +kernel)) (Zd (Vn (K:=K) PySem.F.plainAttrs_str PySem.F.slot_str_join PySem.F.type_str_join (ZdV (K:=K)) (Yg [] (by decide +kernel)) (Zd (Uc (by rfl) (CompSd.mk1 (tn:=["k"]) (cn:=["marks", "one"]) (js:=[0,2]) (osc:=defScope J6) (oN:=["marks", "kind", "one", "two", "three", "mark", "lowest", "size", "worths", "every"]) (by rfl) (by rfl) (by rfl) (by decide +kernel)) (QB (by rfl) T.n_range (Zd (pv 7) Zj)) (λC s₂ H₂ fp=>YL (i:=0) Znd) (λC s₂ H₂ fp=>Vm) (λC s₂ H₂ fp=>(Z8 (Z9 (K:=K)) (pv 1) (Zv Yw (Zv Xp (pv 2) (Z8 (Z9 (K:=K)) (Vl (Zd Zo (Zd Zo (Zd Zo (Zd Zo (Zd Zo (Zd Zo Zj))))))) (pv 0) (λ_ _=>rfl))) (Yq (YT (K:=K)) (by rfl) T.n_len boot_len (Zd (pv 1) Zj))) (λ_ _=>rfl)))) Zj)) Zj)))))) Yn)
 (Zp (Yo (Yx (YG (cA:=⟨t.c,K⟩) (hr.units)) (Zv Yw (pv 1) Zo) Zo (Yk _)) (Zp (Yh (i:=8) ZhG (by rfl) (by first|exact Or.inl rfl|exact Or.inr rfl) (Vl (Zd (Zv V1 (Zv Yw (pv 2) Zo) Zo) (Zd (Zv V1 (Zv Yw (pv 3) Zo) Zo) (Zd (Zv V1 (Zv Yw (Zv Xp (pv 2) Zo) Zo) Zo) (Zd (Zv V1 (Zv Yw (Zv Xp (pv 3) Zo) Zo) Zo) Zj))))))
 (Zr (ZJ (VD (Zd (Yg [115,117,109] (by decide +kernel)) (Zd (QC (Jm (K:=K)) (by rfl) T.n_tuple boot_tuple (Zd (XE (XF (K:=K)) (pv 8) XD (Xr (Yq (YT (K:=K)) (by rfl) T.n_len boot_len (Zd (pv 0) Zj)))) Zj)) (Zd (UE UF (Zv Yw (pv 4) Zo)) (Zd (Zv Yw (Zv Xp (pv 4) Zo) Zo) Zj)))))))) Yn)
 (Zp (Yo (Yx (YG (cA:=⟨t.c,K⟩) (hr.units)) (Zv Yw (pv 1) Zo) Zo (Yk _)) (Zp (Yh (i:=9) ZhG (by rfl) (by first|exact Or.inl rfl|exact Or.inr rfl) (Zv YF Zo (Zv Yw (pv 3) Zo)))
 (Zr (ZJ (VD (Zd (Yg [116,117,114,110] (by decide +kernel)) (Zd (pv 5) (Zd (pv 9) (Zd (Zv Yw (pv 4) (pv 9)) Zj)))))))) Yn)
 (Zr (ZJ (VD (Zd (Yg [97,108,105,107,101] (by decide +kernel)) (Zd (Zv YF Zo (Zv Yw (pv 4) Zo)) Zj)))))))))),[],?_⟩
 unfold ZjS;exact(Zq (show VS _ _ [] _ _ _ _ from(Yc 5 (Zh Yb (Zc 0) (Zh Yy (Zc 2) (Yz YW (Ze (Zc 0) Zm))))))
 (Zq (Ym (Yt (Zh YH (Zh Yy (Zc 1) (Zg (d:=(.int 5)) (by rfl) (by rfl))) (Zg (d:=(.int 0)) (by rfl) (by rfl)))) (Zq (show VS _ _ [] _ _ _ _ from(Yc 6 (Zh Yb (VF.cl (V8 (Ze (Zh Yy (Zc 3) (Zg (d:=(.int 3)) (by rfl) (by rfl))) (Ze (Zh Yy (Zc 3) (Zg (d:=(.int 9)) (by rfl) (by rfl))) Zm)))) (Zh Yy (Zc 4) (Zg (d:=(.int 2)) (by rfl) (by rfl))))))
 (Zq (Ym (Yt (Zh YH (Zh Yy (Zh Xs (Zc 4) (Zg (d:=(.int 2)) (by rfl) (by rfl))) (Zg (d:=(.int 3)) (by rfl) (by rfl))) (Zg (d:=(.int 0)) (by rfl) (by rfl)))) (ZI (Uo (Ze (Zg (d:=(.str [103,97,112])) (by rfl) (by rfl)) (Ze (Zc 5) (Ze (Zc 6) (Ze (Zg (d:=.non) (by rfl) (by rfl)) Zm)))))) Yl)
 (ZI (Uo (Ze (Zg (d:=(.str [103,97,112])) (by rfl) (by rfl)) (Ze (Zc 5) (Ze (Zc 6) (Ze (Yz Zgh (Ze (Zg (d:=(.int 8)) (by rfl) (by rfl)) (Ze (Zh YI (Zc 6) (Zh Yy (Zh Xs (Zc 4) (Zg (d:=(.int 6)) (by rfl) (by rfl))) (Zg (d:=(.int 5)) (by rfl) (by rfl)))) Zm))) Zm)))))))) Yl)
 (Zq (Ym (Yt (Zh YH (Zh Yy (Zc 1) (Zg (d:=(.int 5)) (by rfl) (by rfl))) (Zg (d:=(.int 1)) (by rfl) (by rfl)))) (Zq (show VS _ _ [] _ _ _ _ from(Yc 7 (Zh YI (Zg (d:=(.int 1)) (by rfl) (by rfl)) (Zh Yy (Zc 3) (Zg (d:=(.int 6)) (by rfl) (by rfl))))))
 (ZI (Uo (Ze (Zg (d:=(.str [110,101,118,101,114])) (by rfl) (by rfl)) (Ze (Ua ZdX (Zg (d:=(.str [])) (by rfl) (by rfl)) (Ze (VF.cl (X9 (by rfl) (QK (Ze (Zc 7) Zm) QL) (Y9 0) Vp (Zh Yb (Zc 1) (Zh Yy (Zh Xs (Zc 2) (Zh Yb (VF.cl (V8 (Ze (Zg (d:=(.int 1)) (by rfl) (by rfl)) (Ze (Zg (d:=(.int 3)) (by rfl) (by rfl)) (Ze (Zg (d:=(.int 7)) (by rfl) (by rfl)) (Ze (Zg (d:=(.int 11)) (by rfl) (by rfl)) (Ze (Zg (d:=(.int 17)) (by rfl) (by rfl)) (Ze (Zg (d:=(.int 23)) (by rfl) (by rfl)) Zm)))))))) (Zc 0))) (Yz YW (Ze (Zc 1) Zm)))))) Zm)) Zm))))) Yl)
 (Zq (Ym (Yt (Zh YH (Zh Yy (Zc 1) (Zg (d:=(.int 5)) (by rfl) (by rfl))) (Zg (d:=(.int 2)) (by rfl) (by rfl)))) (Zq (show VS _ _ [] _ _ _ _ from(Yc 8 (VF.cl (V8 (Ze (Zh V7 (Zh Yy (Zc 2) (Zg (d:=(.int 7)) (by rfl) (by rfl))) (Zg (d:=(.int 3)) (by rfl) (by rfl))) (Ze (Zh V7 (Zh Yy (Zc 3) (Zg (d:=(.int 7)) (by rfl) (by rfl))) (Zg (d:=(.int 3)) (by rfl) (by rfl))) (Ze (Zh V7 (Zh Yy (Zh Xs (Zc 2) (Zg (d:=(.int 7)) (by rfl) (by rfl))) (Zg (d:=(.int 7)) (by rfl) (by rfl))) (Zg (d:=(.int 3)) (by rfl) (by rfl))) (Ze (Zh V7 (Zh Yy (Zh Xs (Zc 3) (Zg (d:=(.int 7)) (by rfl) (by rfl))) (Zg (d:=(.int 7)) (by rfl) (by rfl))) (Zg (d:=(.int 3)) (by rfl) (by rfl))) Zm))))))))
 (ZI (Uo (Ze (Zg (d:=(.str [115,117,109])) (by rfl) (by rfl)) (Ze (Jt (Ze (XM (Or.inl rfl) (Zc 8) XI (XJ (Yz YW (Ze (Zc 0) Zm)))) Zm)) (Ze (U9 (Zh Yy (Zc 4) (Zg (d:=(.int 9)) (by rfl) (by rfl)))) (Ze (Zh Yy (Zh Xs (Zc 4) (Zg (d:=(.int 9)) (by rfl) (by rfl))) (Zg (d:=(.int 9)) (by rfl) (by rfl))) Zm))))))) Yl)
 (Zq (Ym (Yt (Zh YH (Zh Yy (Zc 1) (Zg (d:=(.int 5)) (by rfl) (by rfl))) (Zg (d:=(.int 3)) (by rfl) (by rfl)))) (Zq (show VS _ _ [] _ _ _ _ from(Yc 9 (Zh YI (Zg (d:=(.int 1)) (by rfl) (by rfl)) (Zh Yy (Zc 3) (Zg (d:=(.int 6)) (by rfl) (by rfl))))))
 (ZI (Uo (Ze (Zg (d:=(.str [116,117,114,110])) (by rfl) (by rfl)) (Ze (Zc 5) (Ze (Zc 9) (Ze (Zh Yy (Zc 4) (Zc 9)) Zm))))))) Yl)
 (ZI (Uo (Ze (Zg (d:=(.str [97,108,105,107,101])) (by rfl) (by rfl)) (Ze (Zh YI (Zg (d:=(.int 1)) (by rfl) (by rfl)) (Zh Yy (Zc 4) (Zg (d:=(.int 6)) (by rfl) (by rfl)))) Zm)))))))))
theorem Zii(T:Txt K mg t):FnOk P w K mg base CX0 5 t.a_Q4 t.d_Q4 ["marks", "rule"] (spD ⟨t.c,K⟩ 2 XN):=by
 have GM_QR:=(Zml (P:=P) (w:=w) (base:=base) T).mono (k:=3) (by decide);have GM_Qc:=(Zmh (P:=P) (w:=w) (base:=base) T).mono (k:=3) (by decide);have GM_QO:=(Zmi (P:=P) (w:=w) (base:=base) T).mono (k:=3) (by decide);have GM_Qf:=(Zmj (P:=P) (w:=w) (base:=base) T).mono (k:=3) (by decide);have GM_Qa:=(Zmk (P:=P) (w:=w) (base:=base) T).mono (k:=3) (by decide)
 refine Yv (φ:=Ut) T.p_Q4.f ZlY (by conv=>lhs;whnf) (by conv=>lhs;whnf) (λcdv A outer s H E hr => ?_) rfl rfl;refine⟨_,(Zp (Yo (Yx (YG (cA:=⟨t.c,K⟩) (hr.units)) (Z8 (Z9 (K:=K)) (pv 1) Zo (λ_ _=>rfl)) (Yg [103,97,112] (by decide +kernel)) (Yk _)) (Zp (Yo (Vz (VW (Z8 (Z9 (K:=K)) (pv 1) Zo (λ_ _=>rfl)))) (Zr (ZJ (V2 T.mk_Gap (GM_Qc) hr (by rfl) T.g_Gap T.b1_Gap_init (.cons (show RelV .non Value.none from rfl) .nil) ZB (Zd (pv 0) (Zd (Z8 (Z9 (K:=K)) (pv 1) Zo (λ_ _=>rfl)) (Zd (Z8 (Z9 (K:=K)) (pv 1) Zo (λ_ _=>rfl)) Zj)))))) Yn)
 (Zr (ZJ (V2 T.mk_Gap (GM_Qc) hr (by rfl) T.g_Gap T.b_Qc .nil ZB (Zd (pv 0) (Zd (Z8 (Z9 (K:=K)) (pv 1) Zo (λ_ _=>rfl)) (Zd (Z8 (Z9 (K:=K)) (pv 1) Zo (λ_ _=>rfl)) (Zd (Z8 (Z9 (K:=K)) (pv 1) Zo (λ_ _=>rfl)) Zj)))))))) Yn)
 (Zp (Yo (Yx (YG (cA:=⟨t.c,K⟩) (hr.units)) (Z8 (Z9 (K:=K)) (pv 1) Zo (λ_ _=>rfl)) (Yg [110,101,118,101,114] (by decide +kernel)) (Yk _)) (Zr (ZJ (V2 T.mk_Never (GM_QO) hr (by rfl) T.g_Never T.p_QO.b .nil ZB (Zd (pv 0) (Zd (Z8 (Z9 (K:=K)) (pv 1) Zo (λ_ _=>rfl)) Zj))))) Yn)
 (Zp (Yo (Yx (YG (cA:=⟨t.c,K⟩) (hr.units)) (Z8 (Z9 (K:=K)) (pv 1) Zo (λ_ _=>rfl)) (Yg [115,117,109] (by decide +kernel)) (Yk _)) (Zr (ZJ (V2 T.mk_Sum (GM_Qf) hr (by rfl) T.g_Sum T.p_Qf.b .nil ZB (Zd (pv 0) (Zd (Z8 (Z9 (K:=K)) (pv 1) Zo (λ_ _=>rfl)) (Zd (Z8 (Z9 (K:=K)) (pv 1) Zo (λ_ _=>rfl)) (Zd (Z8 (Z9 (K:=K)) (pv 1) Zo (λ_ _=>rfl)) Zj))))))) Yn)
 (Zp (Yo (Yx (YG (cA:=⟨t.c,K⟩) (hr.units)) (Z8 (Z9 (K:=K)) (pv 1) Zo (λ_ _=>rfl)) (Yg [116,117,114,110] (by decide +kernel)) (Yk _)) (Zr (ZJ (V2 T.mk_Turn (GM_Qa) hr (by rfl) T.g_Turn T.p_Qa.b .nil ZB (Zd (pv 0) (Zd (Z8 (Z9 (K:=K)) (pv 1) Zo (λ_ _=>rfl)) (Zd (Z8 (Z9 (K:=K)) (pv 1) Zo (λ_ _=>rfl)) (Zd (Z8 (Z9 (K:=K)) (pv 1) Zo (λ_ _=>rfl)) Zj))))))) Yn)
 (Zr (ZJ (V2 T.mk_Alike (GM_QR) hr (by rfl) T.g_Alike T.p_QR.b .nil ZB (Zd (pv 0) (Zd (Z8 (Z9 (K:=K)) (pv 1) Zo (λ_ _=>rfl)) Zj))))))))),[],?_⟩
 unfold Ut;exact(Zq (Ym (Yt (Zh YH (Zh Yb (Zc 1) (Zg (d:=(.int 0)) (by rfl) (by rfl))) (Zg (d:=(.str [103,97,112])) (by rfl) (by rfl)))) (Zq (Ym (YD (Vq (Zh Yb (Zc 1) (Zg (d:=(.int 3)) (by rfl) (by rfl))))) (ZI (Ub (c:="Gap") [.non] (by rfl) (Ze (Zc 0) (Ze (Zh Yb (Zc 1) (Zg (d:=(.int 1)) (by rfl) (by rfl))) (Ze (Zh Yb (Zc 1) (Zg (d:=(.int 2)) (by rfl) (by rfl))) Zm))))) Yl)
 (ZI (Ub (c:="Gap") [] (by rfl) (Ze (Zc 0) (Ze (Zh Yb (Zc 1) (Zg (d:=(.int 1)) (by rfl) (by rfl))) (Ze (Zh Yb (Zc 1) (Zg (d:=(.int 2)) (by rfl) (by rfl))) (Ze (Zh Yb (Zc 1) (Zg (d:=(.int 3)) (by rfl) (by rfl))) Zm))))))) Yl)
 (Zq (Ym (Yt (Zh YH (Zh Yb (Zc 1) (Zg (d:=(.int 0)) (by rfl) (by rfl))) (Zg (d:=(.str [110,101,118,101,114])) (by rfl) (by rfl)))) (ZI (Ub (c:="Never") [] (by rfl) (Ze (Zc 0) (Ze (Zh Yb (Zc 1) (Zg (d:=(.int 1)) (by rfl) (by rfl))) Zm)))) Yl)
 (Zq (Ym (Yt (Zh YH (Zh Yb (Zc 1) (Zg (d:=(.int 0)) (by rfl) (by rfl))) (Zg (d:=(.str [115,117,109])) (by rfl) (by rfl)))) (ZI (Ub (c:="Sum") [] (by rfl) (Ze (Zc 0) (Ze (Zh Yb (Zc 1) (Zg (d:=(.int 1)) (by rfl) (by rfl))) (Ze (Zh Yb (Zc 1) (Zg (d:=(.int 2)) (by rfl) (by rfl))) (Ze (Zh Yb (Zc 1) (Zg (d:=(.int 3)) (by rfl) (by rfl))) Zm)))))) Yl)
 (Zq (Ym (Yt (Zh YH (Zh Yb (Zc 1) (Zg (d:=(.int 0)) (by rfl) (by rfl))) (Zg (d:=(.str [116,117,114,110])) (by rfl) (by rfl)))) (ZI (Ub (c:="Turn") [] (by rfl) (Ze (Zc 0) (Ze (Zh Yb (Zc 1) (Zg (d:=(.int 1)) (by rfl) (by rfl))) (Ze (Zh Yb (Zc 1) (Zg (d:=(.int 2)) (by rfl) (by rfl))) (Ze (Zh Yb (Zc 1) (Zg (d:=(.int 3)) (by rfl) (by rfl))) Zm)))))) Yl)
 (ZI (Ub (c:="Alike") [] (by rfl) (Ze (Zc 0) (Ze (Zh Yb (Zc 1) (Zg (d:=(.int 1)) (by rfl) (by rfl))) Zm))))))))
theorem Zms(T:Txt K mg t):FnOk P w K mg base CX0 2 t.a_QW t.d_QW ["script", "marks"] (spD ⟨t.c,K⟩ 2 ZjV):=by
 have G_QH:=(Zig (P:=P) (w:=w) (base:=base) T).mono (k:=1) (by decide);have G_Q5:=(Zmr (P:=P) (w:=w) (base:=base) T).mono (k:=1) (by decide);refine Yv (φ:=ZjU) T.p_QW.f ZlZ (by conv=>lhs;whnf) (by conv=>lhs;whnf) (λcdv A outer s H E hr => ?_) rfl rfl;refine⟨_,(Zp (Yh (i:=2) Zld (by rfl) (by first|exact Or.inl rfl|exact Or.inr rfl) (Vl Zj))
 (Zp ((V0 PassesOwn.never (by rfl) (QB (by rfl) T.n_range (Zd (Zv Yw (ZV (G_QH) hr (by rfl) T.p_QH.g T.p_QH.k T.p_QH.b .nil ZB (Zd (pv 0) (Zd Zo Zj))) Zo) Zj)) (YL (i:=3) Zld) (Zp (Zch (i:=4) Zld (by rfl) (by rfl) (by rfl) (CompSd.mk1 (tn:=["step"]) (cn:=["script", "k"]) (js:=[0,3]) (osc:=defScope J7) (oN:=["script", "marks", "rules", "k", "cells"]) (by rfl) (by rfl) (by rfl) (by decide +kernel)) (QB (by rfl) T.n_range (Zd Zo Zj)) (λC s₂ H₂ fp=>YL (i:=0) Zne) (λC s₂ H₂ fp=>Vm) (λC s₂ H₂ fp=>(ZV (G_QH) hr (by rfl) T.p_QH.g T.p_QH.k T.p_QH.b .nil ZB (Zd (pv 1) (Zd (Zv YF (Zv YF Zo (Zv Zcb Zo (pv 2))) (pv 0)) Zj)))))
 (Zr (YS (Vn (K:=K) PySem.F.plainAttrs_list PySem.F.slot_list_append PySem.F.type_list_append ZbL (pv 2) (Zd (ZV (G_Q5) hr (by rfl) T.p_Q5.g T.p_Q5.k T.p_Q5.b .nil ZB (Zd (pv 1) (Zd (Zv YF (Zv Xp (Z8 (Z9 (K:=K)) (pv 4) Zo (λ_ _=>rfl)) Zo) (Zv Xp (Z8 (Z9 (K:=K)) (pv 4) Zo (λ_ _=>rfl)) Zo)) (Zd (Z8 (Z9 (K:=K)) (pv 4) Zo (λ_ _=>rfl)) (Zd (Z8 (Z9 (K:=K)) (pv 4) Zo (λ_ _=>rfl)) (Zd (Z8 (Z9 (K:=K)) (pv 4) Zo (λ_ _=>rfl)) Zj)))))) Zj)))))))
 (Zr (ZJ (pv 2))))),[],?_⟩
 unfold ZjU;exact(Zq (show VS _ _ [2] _ _ _ _ from(ZdT 2 (V8 Zm)))
 (Zq (VL (QK (Ze (Zh Yy (ZT [] (by rfl) (Ze (Zc 0) (Ze (Zg (d:=(.int 1)) (by rfl) (by rfl)) Zm))) (Zg (d:=(.int 7)) (by rfl) (by rfl))) Zm) QL) (Y9 3) (Zq (show VS _ _ [2] _ _ _ _ from(Yc 4 (VF.cl (X9 (by rfl) (QK (Ze (Zg (d:=(.int 3)) (by rfl) (by rfl)) Zm) QL) (Y9 0) Vp (ZT [] (by rfl) (Ze (Zc 1) (Ze (Zh YI (Zh YI (Zg (d:=(.int 2)) (by rfl) (by rfl)) (Zh ZdB (Zg (d:=(.int 3)) (by rfl) (by rfl)) (Zc 2))) (Zc 0)) Zm)))))))
 (Zgi 2 (by rfl) (ZT [] (by rfl) (Ze (Zc 1) (Ze (Zh YI (Zh Xs (Zh Yb (Zc 4) (Zg (d:=(.int 1)) (by rfl) (by rfl))) (Zg (d:=(.int 60)) (by rfl) (by rfl))) (Zh Xs (Zh Yb (Zc 4) (Zg (d:=(.int 2)) (by rfl) (by rfl))) (Zg (d:=(.int 90)) (by rfl) (by rfl)))) (Ze (Zh Yb (Zc 4) (Zg (d:=(.int 0)) (by rfl) (by rfl))) (Ze (Zh Yb (Zc 4) (Zg (d:=(.int 1)) (by rfl) (by rfl))) (Ze (Zh Yb (Zc 4) (Zg (d:=(.int 2)) (by rfl) (by rfl))) Zm)))))))))
 (VS.frz (ow1:=[]) 2 (ZI (Zc 2)))))
theorem Zmt(T:Txt K mg t):FnOk P w K mg base CX0 3 t.a_Qd t.d_Qd ["marks", "rules", "row"] (spD ⟨t.c,K⟩ 3 U2):=by
 have G_QK:=(Zih (P:=P) (w:=w) (base:=base) T).mono (k:=2) (by decide);refine Yv (φ:=Zk7) T.p_Qd.f Zl0 (by conv=>lhs;whnf) (by conv=>lhs;whnf) (λcdv A outer s H E hr => ?_) rfl rfl;refine⟨_,(Zr (ZJ (Yq (ZhW (K:=K)) (by rfl) T.n_any boot_any (Zd (Uc (by rfl) (CompSd.mk1 (tn:=["rule"]) (cn:=["marks", "row"]) (js:=[0,2]) (osc:=defScope J8) (oN:=["marks", "rules", "row"]) (by rfl) (by rfl) (by rfl) (by decide +kernel)) (XR (K:=K) (pv 1)) (λC s₂ H₂ fp=>YL (i:=0) Znf) (λC s₂ H₂ fp=>Vm) (λC s₂ H₂ fp=>(ZV (G_QK) hr (by rfl) T.p_QK.g T.p_QK.k T.p_QK.b .nil ZB (Zd (pv 1) (Zd (pv 0) (Zd (pv 2) Zj)))))) Zj)))),[],?_⟩
 unfold Zk7;exact(ZI (Yz QJ (Ze (VF.cl (X9 (by rfl) (XS (Zc 1)) (Y9 0) Vp (ZT [] (by rfl) (Ze (Zc 1) (Ze (Zc 0) (Ze (Zc 2) Zm)))))) Zm)))
theorem Zmu(T:Txt K mg t):FnOk P w K mg base CX0 4 t.a_Qe t.d_Qe ["script", "marks", "rules"] (spD ⟨t.c,K⟩ 3 ZjX):=by
 have G_Qd:=(Zmt (P:=P) (w:=w) (base:=base) T).mono (k:=3) (by decide);refine Yv (φ:=ZjW) T.p_Qe.f Zl1 (by conv=>lhs;whnf) (by conv=>lhs;whnf) (λcdv A outer s H E hr => ?_) rfl rfl;refine⟨_,(Zp (Yh (i:=3) Uv (by rfl) (by first|exact Or.inl rfl|exact Or.inr rfl) (Yg [] (by decide +kernel)))
 (Zp (Yh (i:=4) Uv (by rfl) (by first|exact Or.inl rfl|exact Or.inr rfl) X7)
 (Zp ((V0 PassesOwn.never (by rfl) (XR (K:=K) (XE (XF (K:=K)) (pv 0) XD (Xr Zo))) (YL (i:=5) Uv) (Zp (Yh (i:=6) Uv (by rfl) (by first|exact Or.inl rfl|exact Or.inr rfl) (Zv YF (pv 3) (Z8 (Z9 (K:=K)) (pv 1) (Zv Yw (Zv Xp (pv 5) Zo) (Yq (YT (K:=K)) (by rfl) T.n_len boot_len (Zd (pv 1) Zj))) (λ_ _=>rfl))))
 (Zp ((V0 PassesOwn.never (by rfl) (QB (by rfl) T.n_range (Zd (Yq (YT (K:=K)) (by rfl) T.n_len boot_len (Zd (pv 1) Zj)) Zj)) (YL (i:=7) Uv) (Zp (Yh (i:=8) Uv (by rfl) (by first|exact Or.inl rfl|exact Or.inr rfl) (Zv YF (pv 3) (Z8 (Z9 (K:=K)) (pv 1) (Zv Yw (Zv YF (Zv Xp (pv 5) Zo) (pv 7)) (Yq (YT (K:=K)) (by rfl) T.n_len boot_len (Zd (pv 1) Zj))) (λ_ _=>rfl))))
 (Zr (Yo (PW.pt (Qx (Yx ZeY (Zv Yw (pv 5) Zo) Zo (Yk _)) (Qx (Vz (VW (pv 4))) (Jb (XY (Xo (ZV (G_Qd) hr (by rfl) T.p_Qd.g T.p_Qd.k T.p_Qd.b .nil ZB (Zd (pv 1) (Zd (pv 2) (Zd (pv 8) Zj)))))))))) (Zp (Yh (i:=6) Uv (by rfl) (by first|exact Or.inl rfl|exact Or.inr rfl) (pv 8))
 (Zr Ze6)) Yn)))))
 (Zp (Yh (i:=3) Uv (by rfl) (by first|exact Or.inl rfl|exact Or.inr rfl) (pv 6))
 (Zr (Yo (PW.pt (Qx (Vz (VW (pv 4))) (Jb (Xo (ZV (G_Qd) hr (by rfl) T.p_Qd.g T.p_Qd.k T.p_Qd.b .nil ZB (Zd (pv 1) (Zd (pv 2) (Zd (pv 3) Zj)))))))) (Zr (Yh (i:=4) Uv (by rfl) (by first|exact Or.inl rfl|exact Or.inr rfl) (Zv V1 (Yq (YT (K:=K)) (by rfl) T.n_len boot_len (Zd (pv 3) Zj)) Zo))) Yn)))))))
 (Zr (ZJ (VD (Zd (pv 3) (Zd (pv 4) Zj)))))))),[],?_⟩
 unfold ZjW;exact(Zq (show VS _ _ [] _ _ _ _ from(Yc 3 (Zg (d:=(.str [])) (by rfl) (by rfl))))
 (Zq (show VS _ _ [] _ _ _ _ from(Yc 4 (Zg (d:=.non) (by rfl) (by rfl))))
 (Zq (VL (XS (XM (Or.inl rfl) (Zc 0) XI (XJ (Zg (d:=(.int 90)) (by rfl) (by rfl))))) (Y9 5) (Zq (show VS _ _ [] _ _ _ _ from(Yc 6 (Zh YI (Zc 3) (Zh Yb (Zc 1) (Zh Yy (Zh Xs (Zc 5) (Zg (d:=(.int 7)) (by rfl) (by rfl))) (Yz YW (Ze (Zc 1) Zm)))))))
 (Zq (VL (QK (Ze (Yz YW (Ze (Zc 1) Zm)) Zm) QL) (Y9 7) (Zq (show VS _ _ [] _ _ _ _ from(Yc 8 (Zh YI (Zc 3) (Zh Yb (Zc 1) (Zh Yy (Zh YI (Zh Xs (Zc 5) (Zg (d:=(.int 7)) (by rfl) (by rfl))) (Zc 7)) (Yz YW (Ze (Zc 1) Zm)))))))
 (Ym (QH (Yt (Zh X0 (Zh Yy (Zc 5) (Zg (d:=(.int 7)) (by rfl) (by rfl))) (Zg (d:=(.int 0)) (by rfl) (by rfl)))) (QH (YD (Vq (Zc 4))) (XG (YD (ZT [] (by rfl) (Ze (Zc 1) (Ze (Zc 2) (Ze (Zc 8) Zm)))))))) (Zq (show VS _ _ [] _ _ _ _ from(Yc 6 (Zc 8)))
 Zfp) Yl)))
 (Zq (show VS _ _ [] _ _ _ _ from(Yc 3 (Zc 6)))
 (Ym (QH (YD (Vq (Zc 4))) (YD (ZT [] (by rfl) (Ze (Zc 1) (Ze (Zc 2) (Ze (Zc 3) Zm)))))) (show VS _ _ [] _ _ _ _ from(Yc 4 (Zh V7 (Yz YW (Ze (Zc 3) Zm)) (Zg (d:=(.int 1)) (by rfl) (by rfl))))) Yl)))))
 (ZI (Uo (Ze (Zc 3) (Ze (Zc 4) Zm)))))))
theorem Zmv(T:Txt K mg t):FnOk P w K mg base CX0 6 t.a_QP t.d_QP ["rule", "row"] (spD ⟨t.c,K⟩ 2 Qp):=by
 have G_QD:=(Zif (P:=P) (w:=w) (base:=base) T).mono (k:=5) (by decide);refine Yv (φ:=Zk8) T.p_QP.f Zl2 (by conv=>lhs;whnf) (by conv=>lhs;whnf) (λcdv A outer s H E hr => ?_) rfl rfl;refine⟨_,(Zp (Yh (i:=2) ZhH (by rfl) (by first|exact Or.inl rfl|exact Or.inr rfl) (Yg [110,111,32,109,97,114,107] (by decide +kernel)))
 (Zp (Zgk (i:=3) (n:="e") (ts:=λC ea=>Qy (VC (Jf (JC [Uq K 3 (.ref (t.c "GrooveError")),Uq K 3 (.ty "ValueError"),JD K 3 [(.ref (t.c "BadMarks")),(.ref (t.c "BadRule"))]] C ea)) (VB 4)) _) ZhH (by rfl) (by rfl) ⟨rfl,rfl⟩ (by rfl) T.g_BadMark (λE=>(Zd1 (i:=2) ZhH (by rfl) (by first|exact Or.inl rfl|exact Or.inr rfl) (Zbr (cA:=⟨t.c,K⟩) (tab:=tab_broken_at) (m:="broken_at") ⟨⟨t.a_QD,t.d_QD,["self", "row"],T.cl_Rule,T.me_Rule_broken_at,G_QD,T.p_QD.b⟩,⟨⟨t.a_QD,t.d_QD,["self", "row"],T.cl_Gap,T.me_Gap_broken_at,G_QD,T.p_QD.b⟩,⟨⟨t.a_QD,t.d_QD,["self", "row"],T.cl_Never,T.me_Never_broken_at,G_QD,T.p_QD.b⟩,⟨⟨t.a_QD,t.d_QD,["self", "row"],T.cl_Sum,T.me_Sum_broken_at,G_QD,T.p_QD.b⟩,⟨⟨t.a_QD,t.d_QD,["self", "row"],T.cl_Turn,T.me_Turn_broken_at,G_QD,T.p_QD.b⟩,⟨⟨t.a_QD,t.d_QD,["self", "row"],T.cl_Alike,T.me_Alike_broken_at,G_QD,T.p_QD.b⟩,⟨⟨t.a_QD,t.d_QD,["self", "row"],T.cl_All,T.me_All_broken_at,G_QD,T.p_QD.b⟩,trivial⟩⟩⟩⟩⟩⟩⟩ hr (λ_ _ z=>z) (pv 0) (Zd (pv 1) Zj)))) (λC ea TC=>Zp (Yh (i:=4) ZhH (by rfl) (by first|exact Or.inl rfl|exact Or.inr rfl) (Vl (Zd (Yq (Zcz (K:=K) TC) (by rfl) T.n_isinstance boot_isinstance (Zd (pv 3) (Zd (UD (v:=.ref (t.c "GrooveError")) (by rfl) T.g_GrooveError (by rfl)) Zj))) (Zd (Yq (Zcz (K:=K) TC) (by rfl) T.n_isinstance boot_isinstance (Zd (pv 3) (Zd (Qw (v:=.ty "ValueError") (by rfl) T.n_ValueError PyProof.Rows.Boot.«ValueError» rfl) Zj))) (Zd (Yq (Zgl (K:=K)) (by rfl) T.n_isinstance boot_isinstance (Zd (pv 3) (Zd (VD (Zd (UD (v:=.ref (t.c "BadMarks")) (by rfl) T.g_BadMarks (by rfl)) (Zd (UD (v:=.ref (t.c "BadRule")) (by rfl) T.g_BadRule (by rfl)) Zj))) Zj))) Zj))))) (Zr (Yo (Yx (Jo (cA:=⟨t.c,K⟩) (hr.units)) (pv 4) (Vl (Zd Y8 (Zd Y8 (Zd Y8 Zj)))) (Yk _)) (Zr (Yh (i:=2) ZhH (by rfl) (by first|exact Or.inl rfl|exact Or.inr rfl) (Yg [97,110,111,116,104,101,114] (by decide +kernel)))) Yn))))
 (Zr (ZJ (pv 2))))),[],?_⟩
 unfold Zk8;exact(Zq (show VS _ _ [] _ _ _ _ from(Yc 2 (Zg (d:=(.str [110,111,32,109,97,114,107])) (by rfl) (by rfl))))
 (Zq (Zd3 (ms:=[Uq K 3 (.ref (t.c "GrooveError")),Uq K 3 (.ty "ValueError"),JD K 3 [(.ref (t.c "BadMarks")),(.ref (t.c "BadRule"))]]) ["BadMark"] 3 4 (by rfl) (by rfl) (by rfl) (by rfl) T.xm_BadMark (.cons (ZaJ T.ie_GrooveError) (.cons (ZaJ T.ie_ValueError) (.cons (ZcW (.cons T.ie_BadMarks (.cons T.ie_BadRule .nil)) (Nat.le_of_ble_eq_true rfl) (by decide +kernel)) .nil))) (λE=>(show VS _ _ [] _ _ _ _ from(Yc 2 (Up (Zc 0) (Ze (Zc 1) Zm))))) (λE=>(Zcf (JB (Zc 0) (Ze (Zc 1) Zm)))) (Ym (Yt (Zh Jp (Zc 4) (VF.cl (V8 (Ze (Zg (d:=(.bl true)) (by rfl) (by rfl)) (Ze (Zg (d:=(.bl true)) (by rfl) (by rfl)) (Ze (Zg (d:=(.bl false)) (by rfl) (by rfl)) Zm))))))) (show VS _ _ [] _ _ _ _ from(Yc 2 (Zg (d:=(.str [97,110,111,116,104,101,114])) (by rfl) (by rfl)))) Yl))
 (ZI (Zc 2))))
theorem Zmw(T:Txt K mg t):FnOk P w K mg base CX0 7 t.a_Q2 t.d_Q2 ["rule", "row"] (spD ⟨t.c,K⟩ 2 Qq):=by
 have G_Q1:=(Zmg (P:=P) (w:=w) (base:=base) T).mono (k:=6) (by decide);refine Yv (φ:=Zk9) T.p_Q2.f Zl3 (by conv=>lhs;whnf) (by conv=>lhs;whnf) (λcdv A outer s H E hr => ?_) rfl rfl;refine⟨_,(Zp (Yh (i:=2) Zle (by rfl) (by first|exact Or.inl rfl|exact Or.inr rfl) (Yg [110,111,32,109,97,114,107] (by decide +kernel)))
 (Zp (Zhl ⟨rfl,rfl⟩ (by rfl) T.g_BadMark (λE=>(Zd1 (i:=2) Zle (by rfl) (by first|exact Or.inl rfl|exact Or.inr rfl) (Zbr (cA:=⟨t.c,K⟩) (tab:=tab_keeps) (m:="keeps") ⟨⟨t.a_Q1,t.d_Q1,["self", "row"],T.cl_Rule,T.me_Rule_keeps,G_Q1,T.p_Q1.b⟩,⟨⟨t.a_Q1,t.d_Q1,["self", "row"],T.cl_Gap,T.me_Gap_keeps,G_Q1,T.p_Q1.b⟩,⟨⟨t.a_Q1,t.d_Q1,["self", "row"],T.cl_Never,T.me_Never_keeps,G_Q1,T.p_Q1.b⟩,⟨⟨t.a_Q1,t.d_Q1,["self", "row"],T.cl_Sum,T.me_Sum_keeps,G_Q1,T.p_Q1.b⟩,⟨⟨t.a_Q1,t.d_Q1,["self", "row"],T.cl_Turn,T.me_Turn_keeps,G_Q1,T.p_Q1.b⟩,⟨⟨t.a_Q1,t.d_Q1,["self", "row"],T.cl_Alike,T.me_Alike_keeps,G_Q1,T.p_Q1.b⟩,⟨⟨t.a_Q1,t.d_Q1,["self", "row"],T.cl_All,T.me_All_keeps,G_Q1,T.p_Q1.b⟩,trivial⟩⟩⟩⟩⟩⟩⟩ hr (λ_ _ z=>z) (pv 0) (Zd (pv 1) Zj)))) (λea=>(Zr (Yh (i:=2) Zle (by rfl) (by first|exact Or.inl rfl|exact Or.inr rfl) (Yg [110,111,32,109,97,114,107] (by decide +kernel))))))
 (Zr (ZJ (pv 2))))),[],?_⟩
 unfold Zk9;exact(Zq (show VS _ _ [] _ _ _ _ from(Yc 2 (Zg (d:=(.str [110,111,32,109,97,114,107])) (by rfl) (by rfl))))
 (Zq (Zhm ["BadMark"] T.xm_BadMark (λE=>(show VS _ _ [] _ _ _ _ from(Yc 2 (Up (Zc 0) (Ze (Zc 1) Zm))))) (λE=>(Zcf (JB (Zc 0) (Ze (Zc 1) Zm)))) (show VS _ _ [] _ _ _ _ from(Yc 2 (Zg (d:=(.str [110,111,32,109,97,114,107])) (by rfl) (by rfl)))))
 (ZI (Zc 2))))
theorem Zij(T:Txt K mg t):FnOk P w K mg base CX0 8 t.a_Q9 t.d_Q9 ["rule", "row", "due"] (spD ⟨t.c,K⟩ 3 XB):=by
 have G_QP:=(Zmv (P:=P) (w:=w) (base:=base) T).mono (k:=7) (by decide);have G_Q2:=(Zmw (P:=P) (w:=w) (base:=base) T).mono (k:=7) (by decide);have G_QQ:=(Zmn (P:=P) (w:=w) (base:=base) T).mono (k:=7) (by decide);refine Yv (φ:=Zla) T.p_Q9.f Zl4 (by conv=>lhs;whnf) (by conv=>lhs;whnf) (λcdv A outer s H E hr => ?_) rfl rfl;refine⟨_,(Zp (Yh (i:=3) ZmY (by rfl) (by first|exact Or.inl rfl|exact Or.inr rfl) (ZV (G_QP) hr (by rfl) T.p_QP.g T.p_QP.k T.p_QP.b .nil ZB (Zd (pv 0) (Zd (pv 1) Zj))))
 (Zp (Yh (i:=4) ZmY (by rfl) (by first|exact Or.inl rfl|exact Or.inr rfl) (ZV (G_Q2) hr (by rfl) T.p_Q2.g T.p_Q2.k T.p_Q2.b .nil ZB (Zd (pv 0) (Zd (pv 1) Zj))))
 (Zp (Yo (Yx (YG (cA:=⟨t.c,K⟩) (hr.units)) (pv 2) (Yg [110,111,32,109,97,114,107] (by decide +kernel)) (Yk _)) (Zr (ZJ (Ui (Xf (YG (cA:=⟨t.c,K⟩) (hr.units)) (pv 3) (Yg [110,111,32,109,97,114,107] (by decide +kernel)) (Yk _)) (VY (Xf (YG (cA:=⟨t.c,K⟩) (hr.units)) (pv 4) (Yg [110,111,32,109,97,114,107] (by decide +kernel)) (Yk _)))))) Yn)
 (Zp (Yo (Vz (VW (pv 2))) (Zr (ZJ (Ui (Zcw (VW (pv 3))) (VY (Xf ZcO (pv 4) Y8 (Yk _)))))) Yn)
 (Zr (ZJ (Ui (ZV (G_QQ) hr (by rfl) T.p_QQ.g T.p_QQ.k T.p_QQ.b .nil ZB (Zd (pv 3) Zj)) (Ui (Xf (YG (cA:=⟨t.c,K⟩) (hr.units)) (pv 3) (pv 2) (Yk _)) (VY (Xf ZcO (pv 4) Y8 (Yk _))))))))))),[],?_⟩
 unfold Zla;exact(Zq (show VS _ _ [] _ _ _ _ from(Yc 3 (ZT [] (by rfl) (Ze (Zc 0) (Ze (Zc 1) Zm)))))
 (Zq (show VS _ _ [] _ _ _ _ from(Yc 4 (ZT [] (by rfl) (Ze (Zc 0) (Ze (Zc 1) Zm)))))
 (Zq (Ym (Yt (Zh YH (Zc 2) (Zg (d:=(.str [110,111,32,109,97,114,107])) (by rfl) (by rfl)))) (ZI (Um (Zh YH (Zc 3) (Zg (d:=(.str [110,111,32,109,97,114,107])) (by rfl) (by rfl))) (Zh YH (Zc 4) (Zg (d:=(.str [110,111,32,109,97,114,107])) (by rfl) (by rfl))))) Yl)
 (Zq (Ym (YD (Vq (Zc 2))) (ZI (Um (Vq (Zc 3)) (Zh ZhY (Zc 4) (Zg (d:=(.bl true)) (by rfl) (by rfl))))) Yl)
 (ZI (Um (ZT [] (by rfl) (Ze (Zc 3) Zm)) (Um (Zh YH (Zc 3) (Zc 2)) (Zh ZhY (Zc 4) (Zg (d:=(.bl false)) (by rfl) (by rfl))))))))))
theorem Zmx(T:Txt K mg t):FnOk P w K mg base CX0 1 t.a_QE t.d_QE ["marks", "cell"] (spD ⟨t.c,K⟩ 2 U3):=by
 refine Yv (φ:=Zlb) T.p_QE.f Zl5 (by conv=>lhs;whnf) (by conv=>lhs;whnf) (λcdv A outer s H E hr => ?_) rfl rfl;refine⟨_,(Zp (Yh (i:=2) ZmZ (by rfl) (by first|exact Or.inl rfl|exact Or.inr rfl) (Yg [45,65,32,95,10,33,126,90,91,123] (by decide +kernel)))
 (Zp (Zch (i:=3) ZmZ (by rfl) (by rfl) (by rfl) (CompSd.mk1 (tn:=["sign"]) (cn:=["marks"]) (js:=[0]) (osc:=defScope J9) (oN:=["marks", "cell", "odd", "near"]) (by rfl) (by rfl) (by rfl) (by decide +kernel)) (XR (K:=K) (Yg [97,98,99,100,101,102,103,104,105,106,107,108,109,110,111,112,113,114,115,116,117,118,119,120,121,122,48,49,50,51,52,53,54,55,56,57] (by decide +kernel))) (λC s₂ H₂ fp=>YL (i:=0) nd0) (λC s₂ H₂ fp=>(Zg1 (Yx (Zfn (K:=K)) (pv 0) (pv 1) (by rfl)))) (λC s₂ H₂ fp=>(pv 0)))
 (Zp (Yo (Yx (YG (cA:=⟨t.c,K⟩) (hr.units)) (Zv Yw (pv 1) Zo) Zo (Yk _)) (Zr (ZJ (Z8 (Z9 (K:=K)) (pv 2) (Zv Yw (Zv Xp (pv 1) Zo) (Yq (YT (K:=K)) (by rfl) T.n_len boot_len (Zd (pv 2) Zj))) (λ_ _=>rfl)))) Yn)
 (Zr (ZJ (Z8 (Z9 (K:=K)) (pv 3) (Zv Yw (Zv Xp (pv 1) Zo) (Yq (YT (K:=K)) (by rfl) T.n_len boot_len (Zd (pv 3) Zj))) (λ_ _=>rfl))))))),[],?_⟩
 unfold Zlb;exact(Zq (show VS _ _ [] _ _ _ _ from(Yc 2 (Zg (d:=(.str [45,65,32,95,10,33,126,90,91,123])) (by rfl) (by rfl))))
 (Zq (show VS _ _ [] _ _ _ _ from(Yc 3 (VF.cl (X9 (by rfl) (XS (Zg (d:=(.str [97,98,99,100,101,102,103,104,105,106,107,108,109,110,111,112,113,114,115,116,117,118,119,120,121,122,48,49,50,51,52,53,54,55,56,57])) (by rfl) (by rfl))) (Y9 0) (Yt (Zh ZgH (Zc 0) (Zc 1))) (Zc 0)))))
 (Zq (Ym (Yt (Zh YH (Zh Yy (Zc 1) (Zg (d:=(.int 3)) (by rfl) (by rfl))) (Zg (d:=(.int 0)) (by rfl) (by rfl)))) (ZI (Zh Yb (Zc 2) (Zh Yy (Zh Xs (Zc 1) (Zg (d:=(.int 3)) (by rfl) (by rfl))) (Yz YW (Ze (Zc 2) Zm))))) Yl)
 (ZI (Zh Yb (Zc 3) (Zh Yy (Zh Xs (Zc 1) (Zg (d:=(.int 3)) (by rfl) (by rfl))) (Yz YW (Ze (Zc 3) Zm))))))))
theorem Zmy(T:Txt K mg t):FnOk P w K mg base CX0 5 t.a_QC t.d_QC ["rule", "state", "sign"] (spD ⟨t.c,K⟩ 3 Q0):=by
 have G_Q7:=(ZgO (P:=P) (w:=w) (base:=base) T).mono (k:=4) (by decide);refine Yv (φ:=Zlc) T.p_QC.f Zl6 (by conv=>lhs;whnf) (by conv=>lhs;whnf) (λcdv A outer s H E hr => ?_) rfl rfl;refine⟨_,(Zp (Yh (i:=3) Zkz (by rfl) (by first|exact Or.inl rfl|exact Or.inr rfl) (Yg [108,101,100] (by decide +kernel)))
 (Zp (Zgk (i:=4) (n:="e") (ts:=λC ea=>Qy (VC (Jf (JC [Uq K 4 (.ref (t.c "GrooveError")),Uq K 4 (.ty "ValueError"),JD K 4 [(.ref (t.c "BadMarks")),(.ref (t.c "BadRule"))]] C ea)) (VB 5)) _) Zkz (by rfl) (by rfl) ⟨rfl,rfl⟩ (by rfl) T.g_BadMark (λE=>(ZfC (Zbr (cA:=⟨t.c,K⟩) (tab:=tab_step) (m:="step") ⟨⟨t.a_Q7,t.d_Q7,["self", "state", "mark"],T.cl_Rule,T.me_Rule_step,G_Q7,T.p_Q7.b⟩,⟨⟨t.a_Q7,t.d_Q7,["self", "state", "mark"],T.cl_Gap,T.me_Gap_step,G_Q7,T.p_Q7.b⟩,⟨⟨t.a_Q7,t.d_Q7,["self", "state", "mark"],T.cl_Never,T.me_Never_step,G_Q7,T.p_Q7.b⟩,⟨⟨t.a_Q7,t.d_Q7,["self", "state", "mark"],T.cl_Sum,T.me_Sum_step,G_Q7,T.p_Q7.b⟩,⟨⟨t.a_Q7,t.d_Q7,["self", "state", "mark"],T.cl_Turn,T.me_Turn_step,G_Q7,T.p_Q7.b⟩,⟨⟨t.a_Q7,t.d_Q7,["self", "state", "mark"],T.cl_Alike,T.me_Alike_step,G_Q7,T.p_Q7.b⟩,⟨⟨t.a_Q7,t.d_Q7,["self", "state", "mark"],T.cl_All,T.me_All_step,G_Q7,T.p_Q7.b⟩,trivial⟩⟩⟩⟩⟩⟩⟩ hr (λ_ _ z=>z) (pv 0) (Zd (pv 1) (Zd (pv 2) Zj))))) (λC ea TC=>Zp (Yh (i:=5) Zkz (by rfl) (by first|exact Or.inl rfl|exact Or.inr rfl) (Vl (Zd (Yq (Zcz (K:=K) TC) (by rfl) T.n_isinstance boot_isinstance (Zd (pv 4) (Zd (UD (v:=.ref (t.c "GrooveError")) (by rfl) T.g_GrooveError (by rfl)) Zj))) (Zd (Yq (Zcz (K:=K) TC) (by rfl) T.n_isinstance boot_isinstance (Zd (pv 4) (Zd (Qw (v:=.ty "ValueError") (by rfl) T.n_ValueError PyProof.Rows.Boot.«ValueError» rfl) Zj))) (Zd (Yq (Zgl (K:=K)) (by rfl) T.n_isinstance boot_isinstance (Zd (pv 4) (Zd (VD (Zd (UD (v:=.ref (t.c "BadMarks")) (by rfl) T.g_BadMarks (by rfl)) (Zd (UD (v:=.ref (t.c "BadRule")) (by rfl) T.g_BadRule (by rfl)) Zj))) Zj))) Zj))))) (Zr (Yh (i:=3) Zkz (by rfl) (by first|exact Or.inl rfl|exact Or.inr rfl) (Z8 (Z9 (K:=K)) (Vl (Zd (Yg [97,110,111,116,104,101,114] (by decide +kernel)) (Zd (Yg [110,111,32,109,97,114,107] (by decide +kernel)) Zj))) (QC Zev (by rfl) T.n_int boot_int (Zd (Xf (YG (cA:=⟨t.c,K⟩) (hr.units)) (pv 5) (Vl (Zd Y8 (Zd Y8 (Zd Y8 Zj)))) (Yk _)) Zj)) (λ_ _=>rfl))))))
 (Zr (ZJ (pv 3))))),[],?_⟩
 unfold Zlc;exact(Zq (show VS _ _ [] _ _ _ _ from(Yc 3 (Zg (d:=(.str [108,101,100])) (by rfl) (by rfl))))
 (Zq (Zd3 (ms:=[Uq K 4 (.ref (t.c "GrooveError")),Uq K 4 (.ty "ValueError"),JD K 4 [(.ref (t.c "BadMarks")),(.ref (t.c "BadRule"))]]) ["BadMark"] 4 5 (by rfl) (by rfl) (by rfl) (by rfl) T.xm_BadMark (.cons (ZaJ T.ie_GrooveError) (.cons (ZaJ T.ie_ValueError) (.cons (ZcW (.cons T.ie_BadMarks (.cons T.ie_BadRule .nil)) (Nat.le_of_ble_eq_true rfl) (by decide +kernel)) .nil))) (λE=>(Xu (Up (Zc 0) (Ze (Zc 1) (Ze (Zc 2) Zm))))) (λE=>(ZfE (JB (Zc 0) (Ze (Zc 1) (Ze (Zc 2) Zm))))) (show VS _ _ [] _ _ _ _ from(Yc 3 (Zh Yb (VF.cl (V8 (Ze (Zg (d:=(.str [97,110,111,116,104,101,114])) (by rfl) (by rfl)) (Ze (Zg (d:=(.str [110,111,32,109,97,114,107])) (by rfl) (by rfl)) Zm)))) (Yz ZiJ (Ze (Zh YH (Zc 5) (VF.cl (V8 (Ze (Zg (d:=(.bl true)) (by rfl) (by rfl)) (Ze (Zg (d:=(.bl true)) (by rfl) (by rfl)) (Ze (Zg (d:=(.bl false)) (by rfl) (by rfl)) Zm)))))) Zm))))))
 (ZI (Zc 3))))
theorem Zmz(T:Txt K mg t):FnOk P w K mg base CX0 6 t.a_QA t.d_QA ["marks", "rule", "row", "strange"] (spD ⟨t.c,K⟩ 4 JU):=by
 have G_QV:=(ZgN (P:=P) (w:=w) (base:=base) T).mono (k:=5) (by decide);have G_Q6:=(ZgP (P:=P) (w:=w) (base:=base) T).mono (k:=5) (by decide);have G_QM:=(ZgQ (P:=P) (w:=w) (base:=base) T).mono (k:=5) (by decide);have G_Q8:=(Zie (P:=P) (w:=w) (base:=base) T).mono (k:=5) (by decide);have G_Q7:=(ZgO (P:=P) (w:=w) (base:=base) T).mono (k:=5) (by decide)
 have G_QC:=(Zmy (P:=P) (w:=w) (base:=base) T).mono (k:=5) (by decide);refine Yv (φ:=ZjY) T.p_QA.f Zl7 (by conv=>lhs;whnf) (by conv=>lhs;whnf) (λcdv A outer s H E hr => ?_) rfl rfl;refine⟨_,(Zp (Yh (i:=4) ZkA (by rfl) (by first|exact Or.inl rfl|exact Or.inr rfl) (Zaq (cA:=⟨t.c,K⟩) (tab:=tab_begin) (m:="begin") ⟨⟨t.a_QV,t.d_QV,["self"],T.cl_Rule,T.me_Rule_begin,G_QV,T.p_QV.b⟩,⟨⟨t.a_Q6,t.d_Q6,["self"],T.cl_Gap,T.me_Gap_begin,G_Q6,T.p_Q6.b⟩,⟨⟨t.a_QV,t.d_QV,["self"],T.cl_Never,T.me_Never_begin,G_QV,T.p_QV.b⟩,⟨⟨t.a_QV,t.d_QV,["self"],T.cl_Sum,T.me_Sum_begin,G_QV,T.p_QV.b⟩,⟨⟨t.a_QV,t.d_QV,["self"],T.cl_Turn,T.me_Turn_begin,G_QV,T.p_QV.b⟩,⟨⟨t.a_QM,t.d_QM,["self"],T.cl_Alike,T.me_Alike_begin,G_QM,T.p_QM.b⟩,⟨⟨t.a_Q8,t.d_Q8,["self"],T.cl_All,T.me_All_begin,G_Q8,T.p_Q8.b⟩,trivial⟩⟩⟩⟩⟩⟩⟩ hr (pv 1)))
 (Zp ((V0 PassesOwn.never (by rfl) (XR (K:=K) (pv 2)) (YL (i:=5) ZkA) (Zr (Yh (i:=4) ZkA (by rfl) (by first|exact Or.inl rfl|exact Or.inr rfl) (Zbq (cA:=⟨t.c,K⟩) (tab:=tab_step) (m:="step") ⟨⟨t.a_Q7,t.d_Q7,["self", "state", "mark"],T.cl_Rule,T.me_Rule_step,G_Q7,T.p_Q7.b⟩,⟨⟨t.a_Q7,t.d_Q7,["self", "state", "mark"],T.cl_Gap,T.me_Gap_step,G_Q7,T.p_Q7.b⟩,⟨⟨t.a_Q7,t.d_Q7,["self", "state", "mark"],T.cl_Never,T.me_Never_step,G_Q7,T.p_Q7.b⟩,⟨⟨t.a_Q7,t.d_Q7,["self", "state", "mark"],T.cl_Sum,T.me_Sum_step,G_Q7,T.p_Q7.b⟩,⟨⟨t.a_Q7,t.d_Q7,["self", "state", "mark"],T.cl_Turn,T.me_Turn_step,G_Q7,T.p_Q7.b⟩,⟨⟨t.a_Q7,t.d_Q7,["self", "state", "mark"],T.cl_Alike,T.me_Alike_step,G_Q7,T.p_Q7.b⟩,⟨⟨t.a_Q7,t.d_Q7,["self", "state", "mark"],T.cl_All,T.me_All_step,G_Q7,T.p_Q7.b⟩,trivial⟩⟩⟩⟩⟩⟩⟩ hr ZiN (pv 1) (Zd (pv 4) (Zd (pv 5) Zj)))))))
 (Zp ((V0 PassesOwn.never (by rfl) (XR (K:=K) (Vl (Zd (Yg [] (by decide +kernel)) (Zd (Yg [45] (by decide +kernel)) (Zd (Yg [32] (by decide +kernel)) (Zd (XE (XF (K:=K)) (pv 0) XD (Xr Zo)) (Zd (ZiS (pv 0) (Xr (UE UF Zo))) (Zd (pv 3) Zj)))))))) (YL (i:=6) ZkA) (Zp (Yo (Yx (Jo (cA:=⟨t.c,K⟩) (hr.units)) (ZV (G_QC) hr (by rfl) T.p_QC.g T.p_QC.k T.p_QC.b .nil ZB (Zd (pv 1) (Zd (Zaq (cA:=⟨t.c,K⟩) (tab:=tab_begin) (m:="begin") ⟨⟨t.a_QV,t.d_QV,["self"],T.cl_Rule,T.me_Rule_begin,G_QV,T.p_QV.b⟩,⟨⟨t.a_Q6,t.d_Q6,["self"],T.cl_Gap,T.me_Gap_begin,G_Q6,T.p_Q6.b⟩,⟨⟨t.a_QV,t.d_QV,["self"],T.cl_Never,T.me_Never_begin,G_QV,T.p_QV.b⟩,⟨⟨t.a_QV,t.d_QV,["self"],T.cl_Sum,T.me_Sum_begin,G_QV,T.p_QV.b⟩,⟨⟨t.a_QV,t.d_QV,["self"],T.cl_Turn,T.me_Turn_begin,G_QV,T.p_QV.b⟩,⟨⟨t.a_QM,t.d_QM,["self"],T.cl_Alike,T.me_Alike_begin,G_QM,T.p_QM.b⟩,⟨⟨t.a_Q8,t.d_Q8,["self"],T.cl_All,T.me_All_begin,G_Q8,T.p_Q8.b⟩,trivial⟩⟩⟩⟩⟩⟩⟩ hr (pv 1)) (Zd (pv 6) Zj)))) (Yg [110,111,32,109,97,114,107] (by decide +kernel)) (Yk _)) (Zr (ZJ Y8)) Yn)
 (Zr (Yo (Yx (Jo (cA:=⟨t.c,K⟩) (hr.units)) (ZV (G_QC) hr (by rfl) T.p_QC.g T.p_QC.k T.p_QC.b .nil ZB (Zd (pv 1) (Zd (pv 4) (Zd (pv 6) Zj)))) (Yg [110,111,32,109,97,114,107] (by decide +kernel)) (Yk _)) (Zr (ZJ Y8)) Yn)))))
 (Zr (ZJ Y8))))),[],?_⟩
 unfold ZjY;exact(Zq (show VS _ _ [] _ _ _ _ from(Yc 4 (UL (Zc 1) Zm)))
 (Zq (VL (XS (Zc 2)) (Y9 5) (show VS _ _ [] _ _ _ _ from(Yc 4 (Up (Zc 1) (Ze (Zc 4) (Ze (Zc 5) Zm))))))
 (Zq (VL (XS (VF.cl (V8 (Ze (Zg (d:=(.str [])) (by rfl) (by rfl)) (Ze (Zg (d:=(.str [45])) (by rfl) (by rfl)) (Ze (Zg (d:=(.str [32])) (by rfl) (by rfl)) (Ze (XM (Or.inl rfl) (Zc 0) XI (XJ (Zg (d:=(.int 2)) (by rfl) (by rfl)))) (Ze (ZiT (Zc 0) (λ_ _ _ q=>⟨_,rfl,_,rfl,q⟩)) (Ze (Zc 3) Zm))))))))) (Y9 6) (Zq (Ym (Yt (Zh Jp (ZT [] (by rfl) (Ze (Zc 1) (Ze (UL (Zc 1) Zm) (Ze (Zc 6) Zm)))) (Zg (d:=(.str [110,111,32,109,97,114,107])) (by rfl) (by rfl)))) (ZI (Zg (d:=(.bl false)) (by rfl) (by rfl))) Yl)
 (Ym (Yt (Zh Jp (ZT [] (by rfl) (Ze (Zc 1) (Ze (Zc 4) (Ze (Zc 6) Zm)))) (Zg (d:=(.str [110,111,32,109,97,114,107])) (by rfl) (by rfl)))) (ZI (Zg (d:=(.bl false)) (by rfl) (by rfl))) Yl)))
 (ZI (Zg (d:=(.bl true)) (by rfl) (by rfl))))))
theorem ZmA(T:Txt K mg t):FnOk P w K mg base CX0 3 t.a_Q0 t.d_Q0 ["marks", "rule", "row"] (spD ⟨t.c,K⟩ 3 JV):=by
 have G_QK:=(Zih (P:=P) (w:=w) (base:=base) T).mono (k:=2) (by decide);refine Yv (φ:=ZjZ) T.p_Q0.f Zl8 (by conv=>lhs;whnf) (by conv=>lhs;whnf) (λcdv A outer s H E hr => ?_) rfl rfl;refine⟨_,(Zp ((V0 PassesOwn.never (by rfl) (QB (by rfl) T.n_range (Zd (Yq (YT (K:=K)) (by rfl) T.n_len boot_len (Zd (pv 2) Zj)) Zj)) (YL (i:=3) Zng) (Zr (Yo (Xo (ZV (G_QK) hr (by rfl) T.p_QK.g T.p_QK.k T.p_QK.b .nil ZB (Zd (pv 0) (Zd (pv 1) (Zd (XE (XF (K:=K)) (pv 2) XD (Xr (Zv YF (pv 3) Zo))) Zj))))) (Zr (ZJ (pv 3))) Yn))))
 (Zr (ZJ X7))),[],?_⟩
 unfold ZjZ;exact(Zq (VL (QK (Ze (Yz YW (Ze (Zc 2) Zm)) Zm) QL) (Y9 3) (Ym (YD (ZT [] (by rfl) (Ze (Zc 0) (Ze (Zc 1) (Ze (XM (Or.inl rfl) (Zc 2) XI (XJ (Zh YI (Zc 3) (Zg (d:=(.int 1)) (by rfl) (by rfl))))) Zm))))) (ZI (Zc 3)) Yl))
 (ZI (Zg (d:=.non) (by rfl) (by rfl))))
theorem ZmB(T:Txt K mg t):FnOk P w K mg base CX0 9 t.a_QB t.d_QB ["marks", "rules", "row", "at", "sign"] (spD ⟨t.c,K⟩ 5 Zj1):=by
 have G_Q9:=(Zij (P:=P) (w:=w) (base:=base) T).mono (k:=8) (by decide);have G_Q0:=(ZmA (P:=P) (w:=w) (base:=base) T).mono (k:=8) (by decide);have G_Q4:=(Zii (P:=P) (w:=w) (base:=base) T).mono (k:=8) (by decide);refine Yv (φ:=Zj0) T.p_QB.f Zl9 (by conv=>lhs;whnf) (by conv=>lhs;whnf) (λcdv A outer s H E hr => ?_) rfl rfl;refine⟨_,(Zp ((V0 PassesOwn.never (by rfl) (XR (K:=K) (pv 1)) (YL (i:=5) ZkB) (Zp (Yh (i:=6) ZkB (by rfl) (by first|exact Or.inl rfl|exact Or.inr rfl) (Yg [110,111,32,109,97,114,107] (by decide +kernel)))
 (Zp (Yh (i:=7) ZkB (by rfl) (by first|exact Or.inl rfl|exact Or.inr rfl) (ZV (G_Q0) hr (by rfl) T.p_Q0.g T.p_Q0.k T.p_Q0.b .nil ZB (Zd (pv 0) (Zd (pv 5) (Zd (XE (XF (K:=K)) (pv 2) XD (Xr (pv 3))) Zj)))))
 (Zp (Yo (Vz (Ja (pv 7))) (Zr (Yh (i:=6) ZkB (by rfl) (by first|exact Or.inl rfl|exact Or.inr rfl) (pv 7))) Yn)
 (Zr (Yo (XY (Xo (ZV (G_Q9) hr (by rfl) T.p_Q9.g T.p_Q9.k T.p_Q9.b .nil ZB (Zd (ZV (G_Q4) hr (by rfl) T.p_Q4.g T.p_Q4.k T.p_Q4.b .nil ZB (Zd (pv 0) (Zd (pv 5) Zj))) (Zd (Zv YF (Zv YF (XE (XF (K:=K)) (pv 2) XD (Xr (pv 3))) (pv 4)) (XE (XF (K:=K)) (pv 2) (Xr (pv 3)) XD)) (Zd (pv 6) Zj)))))) (Zr (ZJ Y8)) Yn)))))))
 (Zr (ZJ Y8))),[],?_⟩
 unfold Zj0;exact(Zq (VL (XS (Zc 1)) (Y9 5) (Zq (show VS _ _ [] _ _ _ _ from(Yc 6 (Zg (d:=(.str [110,111,32,109,97,114,107])) (by rfl) (by rfl))))
 (Zq (show VS _ _ [] _ _ _ _ from(Yc 7 (ZT [] (by rfl) (Ze (Zc 0) (Ze (Zc 5) (Ze (XM (Or.inl rfl) (Zc 2) XI (XJ (Zc 3))) Zm))))))
 (Zq (Ym (YD (Jr (Zc 7))) (show VS _ _ [] _ _ _ _ from(Yc 6 (Zc 7))) Yl)
 (Ym (XG (YD (ZT [] (by rfl) (Ze (ZT [] (by rfl) (Ze (Zc 0) (Ze (Zc 5) Zm))) (Ze (Zh YI (Zh YI (XM (Or.inl rfl) (Zc 2) XI (XJ (Zc 3))) (Zc 4)) (XM (Or.inl rfl) (Zc 2) (XJ (Zc 3)) XI)) (Ze (Zc 6) Zm)))))) (ZI (Zg (d:=(.bl false)) (by rfl) (by rfl))) Yl)))))
 (ZI (Zg (d:=(.bl true)) (by rfl) (by rfl))))
theorem ZmC(T:Txt K mg t):FnOk P w K mg base CX0 10 t.a_Qj t.d_Qj ["script"] (spD ⟨t.c,K⟩ 1 JW):=by
 have GM_Qb:=(Zmm (P:=P) (w:=w) (base:=base) T).mono (k:=8) (by decide);have GM_Q3:=(Qr (P:=P) (w:=w) (base:=base) T).mono (k:=8) (by decide);have G_QH:=(Zig (P:=P) (w:=w) (base:=base) T).mono (k:=9) (by decide);have G_Q9:=(Zij (P:=P) (w:=w) (base:=base) T).mono (k:=9) (by decide);have G_Q4:=(Zii (P:=P) (w:=w) (base:=base) T).mono (k:=9) (by decide)
 have G_QY:=(Zmo (P:=P) (w:=w) (base:=base) T).mono (k:=9) (by decide);have G_Qe:=(Zmu (P:=P) (w:=w) (base:=base) T).mono (k:=9) (by decide);have G_QW:=(Zms (P:=P) (w:=w) (base:=base) T).mono (k:=9) (by decide);have G_QB:=(ZmB (P:=P) (w:=w) (base:=base) T).mono (k:=9) (by decide);have G_QA:=(Zmz (P:=P) (w:=w) (base:=base) T).mono (k:=9) (by decide)
 have G_QE:=(Zmx (P:=P) (w:=w) (base:=base) T).mono (k:=9) (by decide);refine Yv (φ:=Zj2) T.p_Qj.f Zma (by conv=>lhs;whnf) (by conv=>lhs;whnf) (λcdv A outer s H E hr => ?_) rfl rfl;refine⟨_,(Zp (Yh (i:=1) X5 (by rfl) (by first|exact Or.inl rfl|exact Or.inr rfl) (ZV (G_QY) hr (by rfl) T.p_QY.g T.p_QY.k T.p_QY.b .nil ZB (Zd (ZV (G_QH) hr (by rfl) T.p_QH.g T.p_QH.k T.p_QH.b .nil ZB (Zd (pv 0) (Zd Zo Zj))) Zj)))
 (Zp (Yh (i:=2) X5 (by rfl) (by first|exact Or.inl rfl|exact Or.inr rfl) (ZV (G_QW) hr (by rfl) T.p_QW.g T.p_QW.k T.p_QW.b .nil ZB (Zd (pv 0) (Zd (pv 1) Zj))))
 (Zp (Zix (ZV (G_Qe) hr (by rfl) T.p_Qe.g T.p_Qe.k T.p_Qe.b .nil ZB (Zd (pv 0) (Zd (pv 1) (Zd (pv 2) Zj)))) (ZgF (K:=K) (n:=2) (QA (YL (i:=3) X5) (QA (YL (i:=4) X5) Zb8))))
 (Zp (Zch (i:=5) X5 (by rfl) (by rfl) (by rfl) (CompSd.mk1 (tn:=["rule"]) (cn:=["marks"]) (js:=[1]) (osc:=defScope ZhF) (oN:=["script", "marks", "rules", "row", "broken", "singles", "every", "kept", "strange", "rule", "at", "sign", "due"]) (by rfl) (by rfl) (by rfl) (by decide +kernel)) (XR (K:=K) (pv 2)) (λC s₂ H₂ fp=>YL (i:=0) nd8) (λC s₂ H₂ fp=>Vm) (λC s₂ H₂ fp=>(ZV (G_Q4) hr (by rfl) T.p_Q4.g T.p_Q4.k T.p_Q4.b .nil ZB (Zd (pv 1) (Zd (pv 0) Zj)))))
 (Zp (Yh (i:=6) X5 (by rfl) (by first|exact Or.inl rfl|exact Or.inr rfl) (V2 T.mk_All (GM_Qb) hr (by rfl) T.g_All T.p_Qb.b .nil ZB (Zd (pv 1) (Zd (pv 5) Zj))))
 (Zp (Yh (i:=7) X5 (by rfl) (by first|exact Or.inl rfl|exact Or.inr rfl) (pv 3))
 (Zp (Yo (Vz (Ja (pv 4))) (Zr (Yh (i:=7) X5 (by rfl) (by first|exact Or.inl rfl|exact Or.inr rfl) (XE (XF (K:=K)) (pv 3) XD (Xr (pv 4))))) Yn)
 (Zp (Yh (i:=8) X5 (by rfl) (by first|exact Or.inl rfl|exact Or.inr rfl) (ZV (G_QE) hr (by rfl) T.p_QE.g T.p_QE.k T.p_QE.b .nil ZB (Zd (pv 1) (Zd (Zv Xp (ZV (G_QH) hr (by rfl) T.p_QH.g T.p_QH.k T.p_QH.b .nil ZB (Zd (pv 0) (Zd Zo Zj))) Zo) Zj))))
 (Zp ((V0 PassesOwn.never (by rfl) (XR (K:=K) (Zv (ZiM (K:=K)) (pv 5) (Vl (Zd (pv 6) (Zd (V2 T.mk_Rule (GM_Q3) hr (by rfl) T.g_Rule T.p_Q3.b .nil ZB (Zd (pv 1) Zj)) Zj))))) (YL (i:=9) X5) (Zr (Yo (XY (Xo (ZV (G_QA) hr (by rfl) T.p_QA.g T.p_QA.k T.p_QA.b .nil ZB (Zd (pv 1) (Zd (pv 9) (Zd (pv 7) (Zd (pv 8) Zj))))))) (Zr (ZJ Y8)) Yn))))
 (Zp (Yo (PW.pt (ZgA (XY (Xo (ZV (G_Q9) hr (by rfl) T.p_Q9.g T.p_Q9.k T.p_Q9.b .nil ZB (Zd (pv 6) (Zd (pv 3) (Zd (pv 4) Zj)))))) (Zdx (XY (Xo (ZV (G_Q9) hr (by rfl) T.p_Q9.g T.p_Q9.k T.p_Q9.b .nil ZB (Zd (V2 T.mk_Rule (GM_Q3) hr (by rfl) T.g_Rule T.p_Q3.b .nil ZB (Zd (pv 1) Zj)) (Zd (pv 3) (Zd X7 Zj))))))))) (Zr (ZJ Y8)) Yn)
 (Zp (Yo (PW.pt (Qx (Vz (Ja (pv 4))) (Jb (XY (Xo (ZV (G_Q9) hr (by rfl) T.p_Q9.g T.p_Q9.k T.p_Q9.b .nil ZB (Zd (pv 6) (Zd (XE (XF (K:=K)) (pv 3) XD (Xr (pv 4))) (Zd X7 Zj))))))))) (Zr (ZJ Y8)) Yn)
 (Zp (Yo (Yx (YG (cA:=⟨t.c,K⟩) (hr.units)) (Zv Yw (Zv Xp (ZV (G_QH) hr (by rfl) T.p_QH.g T.p_QH.k T.p_QH.b .nil ZB (Zd (pv 0) (Zd Zo Zj))) Zo) Zo) Zo (Yk _)) (Zp (Yh (i:=10) X5 (by rfl) (by first|exact Or.inl rfl|exact Or.inr rfl) (Zv Yw (ZV (G_QH) hr (by rfl) T.p_QH.g T.p_QH.k T.p_QH.b .nil ZB (Zd (pv 0) (Zd Zo Zj))) (Zv YF (Yq (YT (K:=K)) (by rfl) T.n_len boot_len (Zd (pv 3) Zj)) Zo)))
 (Zp (Yh (i:=11) X5 (by rfl) (by first|exact Or.inl rfl|exact Or.inr rfl) (ZV (G_QE) hr (by rfl) T.p_QE.g T.p_QE.k T.p_QE.b .nil ZB (Zd (pv 1) (Zd (Zv Xp (ZV (G_QH) hr (by rfl) T.p_QH.g T.p_QH.k T.p_QH.b .nil ZB (Zd (pv 0) (Zd Zo Zj))) Zo) Zj))))
 (Zp (Yh (i:=12) X5 (by rfl) (by first|exact Or.inl rfl|exact Or.inr rfl) (Yg [110,111,32,109,97,114,107] (by decide +kernel)))
 (Zp (Yo (PW.pt (Qx (Vz (Ja (pv 4))) (Jb (Yx U7 (pv 4) (pv 10) (Yk _))))) (Zr (Yh (i:=12) X5 (by rfl) (by first|exact Or.inl rfl|exact Or.inr rfl) (pv 4))) Yn)
 (Zp (Yo (XY (Xo (ZV (G_Q9) hr (by rfl) T.p_Q9.g T.p_Q9.k T.p_Q9.b .nil ZB (Zd (pv 6) (Zd (Zv YF (Zv YF (XE (XF (K:=K)) (pv 3) XD (Xr (pv 10))) (pv 11)) (XE (XF (K:=K)) (pv 3) (Xr (pv 10)) XD)) (Zd (pv 12) Zj)))))) (Zr (ZJ Y8)) Yn)
 (Zp (Yo (XY (Xo (ZV (G_QB) hr (by rfl) T.p_QB.g T.p_QB.k T.p_QB.b .nil ZB (Zd (pv 1) (Zd (pv 2) (Zd (pv 3) (Zd (pv 10) (Zd (pv 11) Zj)))))))) (Zr (ZJ Y8)) Yn)
 (Zr (ZJ (ZV (G_Q9) hr (by rfl) T.p_Q9.g T.p_Q9.k T.p_Q9.b .nil ZB (Zd (V2 T.mk_Rule (GM_Q3) hr (by rfl) T.g_Rule T.p_Q3.b .nil ZB (Zd (pv 1) Zj)) (Zd (Zv YF (Zv YF (XE (XF (K:=K)) (pv 3) XD (Xr (pv 10))) (pv 11)) (XE (XF (K:=K)) (pv 3) (Xr (pv 10)) XD)) (Zd (Yg [110,111,32,109,97,114,107] (by decide +kernel)) Zj)))))))))))) Yn)
 (Zr (ZJ Y8)))))))))))))),[],?_⟩
 unfold Zj2;exact(Zq (show VS _ _ [] _ _ _ _ from(Yc 1 (ZT [] (by rfl) (Ze (ZT [] (by rfl) (Ze (Zc 0) (Ze (Zg (d:=(.int 0)) (by rfl) (by rfl)) Zm))) Zm))))
 (Zq (show VS _ _ [] _ _ _ _ from(Yc 2 (ZT [] (by rfl) (Ze (Zc 0) (Ze (Zc 1) Zm)))))
 (Zq (Zhk (ZT [] (by rfl) (Ze (Zc 0) (Ze (Zc 1) (Ze (Zc 2) Zm)))) (Jw (V9 3 (by rfl) (by rfl) (V9 4 (by rfl) (by rfl) Jv))))
 (Zq (show VS _ _ [] _ _ _ _ from(Yc 5 (VF.cl (X9 (by rfl) (XS (Zc 2)) (Y9 0) Vp (ZT [] (by rfl) (Ze (Zc 1) (Ze (Zc 0) Zm)))))))
 (Zq (show VS _ _ [] _ _ _ _ from(Yc 6 (Ub (c:="All") [] (by rfl) (Ze (Zc 1) (Ze (Zc 5) Zm)))))
 (Zq (show VS _ _ [] _ _ _ _ from(Yc 7 (Zc 3)))
 (Zq (Ym (YD (Jr (Zc 4))) (show VS _ _ [] _ _ _ _ from(Yc 7 (XM (Or.inl rfl) (Zc 3) XI (XJ (Zc 4))))) Yl)
 (Zq (show VS _ _ [] _ _ _ _ from(Yc 8 (ZT [] (by rfl) (Ze (Zc 1) (Ze (Zh Xs (ZT [] (by rfl) (Ze (Zc 0) (Ze (Zg (d:=(.int 4)) (by rfl) (by rfl)) Zm))) (Zg (d:=(.int 11)) (by rfl) (by rfl))) Zm)))))
 (Zq (VL (XS (VF.cl (ZiR (Zc 5) (VF.cl (V8 (Ze (Zc 6) (Ze (Ub (c:="Rule") [] (by rfl) (Ze (Zc 1) Zm)) Zm))))))) (Y9 9) (Ym (XG (YD (ZT [] (by rfl) (Ze (Zc 1) (Ze (Zc 9) (Ze (Zc 7) (Ze (Zc 8) Zm))))))) (ZI (Zg (d:=(.bl false)) (by rfl) (by rfl))) Yl))
 (Zq (Ym (ZgI (XG (YD (ZT [] (by rfl) (Ze (Zc 6) (Ze (Zc 3) (Ze (Zc 4) Zm)))))) (XG (YD (ZT [] (by rfl) (Ze (Ub (c:="Rule") [] (by rfl) (Ze (Zc 1) Zm)) (Ze (Zc 3) (Ze (Zg (d:=.non) (by rfl) (by rfl)) Zm))))))) (ZI (Zg (d:=(.bl false)) (by rfl) (by rfl))) Yl)
 (Zq (Ym (QH (YD (Jr (Zc 4))) (XG (YD (ZT [] (by rfl) (Ze (Zc 6) (Ze (XM (Or.inl rfl) (Zc 3) XI (XJ (Zc 4))) (Ze (Zg (d:=.non) (by rfl) (by rfl)) Zm))))))) (ZI (Zg (d:=(.bl false)) (by rfl) (by rfl))) Yl)
 (Zq (Ym (Yt (Zh YH (Zh Yy (Zh Xs (ZT [] (by rfl) (Ze (Zc 0) (Ze (Zg (d:=(.int 2)) (by rfl) (by rfl)) Zm))) (Zg (d:=(.int 11)) (by rfl) (by rfl))) (Zg (d:=(.int 3)) (by rfl) (by rfl))) (Zg (d:=(.int 1)) (by rfl) (by rfl)))) (Zq (show VS _ _ [] _ _ _ _ from(Yc 10 (Zh Yy (ZT [] (by rfl) (Ze (Zc 0) (Ze (Zg (d:=(.int 3)) (by rfl) (by rfl)) Zm))) (Zh YI (Yz YW (Ze (Zc 3) Zm)) (Zg (d:=(.int 1)) (by rfl) (by rfl))))))
 (Zq (show VS _ _ [] _ _ _ _ from(Yc 11 (ZT [] (by rfl) (Ze (Zc 1) (Ze (Zh Xs (ZT [] (by rfl) (Ze (Zc 0) (Ze (Zg (d:=(.int 3)) (by rfl) (by rfl)) Zm))) (Zg (d:=(.int 97)) (by rfl) (by rfl))) Zm)))))
 (Zq (show VS _ _ [] _ _ _ _ from(Yc 12 (Zg (d:=(.str [110,111,32,109,97,114,107])) (by rfl) (by rfl))))
 (Zq (Ym (QH (YD (Jr (Zc 4))) (Yt (Zh X0 (Zc 4) (Zc 10)))) (show VS _ _ [] _ _ _ _ from(Yc 12 (Zc 4))) Yl)
 (Zq (Ym (XG (YD (ZT [] (by rfl) (Ze (Zc 6) (Ze (Zh YI (Zh YI (XM (Or.inl rfl) (Zc 3) XI (XJ (Zc 10))) (Zc 11)) (XM (Or.inl rfl) (Zc 3) (XJ (Zc 10)) XI)) (Ze (Zc 12) Zm)))))) (ZI (Zg (d:=(.bl false)) (by rfl) (by rfl))) Yl)
 (Zq (Ym (XG (YD (ZT [] (by rfl) (Ze (Zc 1) (Ze (Zc 2) (Ze (Zc 3) (Ze (Zc 10) (Ze (Zc 11) Zm)))))))) (ZI (Zg (d:=(.bl false)) (by rfl) (by rfl))) Yl)
 (ZI (ZT [] (by rfl) (Ze (Ub (c:="Rule") [] (by rfl) (Ze (Zc 1) Zm)) (Ze (Zh YI (Zh YI (XM (Or.inl rfl) (Zc 3) XI (XJ (Zc 10))) (Zc 11)) (XM (Or.inl rfl) (Zc 3) (XJ (Zc 10)) XI)) (Ze (Zg (d:=(.str [110,111,32,109,97,114,107])) (by rfl) (by rfl)) Zm))))))))))) Yl)
 (ZI (Zg (d:=(.bl true)) (by rfl) (by rfl)))))))))))))))
end
end K06
namespace K06
open DL L2
theorem Q3(ns:List Int)(k:Nat):YZ [.lst (ns.map D.int),.int k]=some (.int (ns.getD k 0)):=by
 by_cases h:k<ns.length
 · have hz : atI (ns.map D.int) (k : Int) = some (.int (ns.getD k 0)) := by
    refine Zbb ?_;rw [List.getElem?_map,List.getElem?_eq_getElem h,List.getD_eq_getElem?_getD,List.getElem?_eq_getElem h];rfl
   simp [YZ,JS,h,hz,DL.run,DL.runI,Zf,sIf,Zn,Z2,sNext,Zi,Zy,ZG,ZO,sNever,xB,bD,Zu,ZC,xOr,Za,eC,eOp,ZH,eOr,ZP,eIf,Zz,ZD,ZM,ZR,eUn,ZN,eNil,Zb,Zx,ZF,eCB,lenD,minD,Z1,Zk,ZE,ZA,Zs,eSl,xP,xNoP,addD,subD,mulD,fdivD,modD,Zw,ixD,isD,eBM,ZL,ZQ,kind,plainKinds,ZS,ZU,Z3,ZW,ZX,ZY,Z4,ZZ,Z5,Z6,Z7,List.lookup,ZK,CMul,PySem.sizeLine_eq,List.replicate]
 · have hz:ns.getD k 0=0:=by rw [List.getD_eq_getElem?_getD,List.getElem?_eq_none (by omega)];rfl
   simp [YZ,JS,h,hz,DL.run,DL.runI,Zf,sIf,Zn,Z2,sNext,Zi,Zy,ZG,ZO,sNever,xB,bD,Zu,ZC,xOr,Za,eC,eOp,ZH,eOr,ZP,eIf,Zz,ZD,ZM,ZR,eUn,ZN,eNil,Zb,Zx,ZF,eCB,lenD,minD,Z1,Zk,ZE,ZA,Zs,eSl,xP,xNoP,addD,subD,mulD,fdivD,modD,Zw,ixD,isD,eBM,ZL,ZQ,kind,plainKinds,ZS,ZU,Z3,ZW,ZX,ZY,Z4,ZZ,Z5,Z6,Z7,List.lookup,ZK,CMul,PySem.sizeLine_eq,List.replicate]
def Uw:Option Int->D
 |none => .non
 |some i => .int i
theorem is_mark(ms:List Nat)(c:Nat)(h:ms.length<=4):XV [.str ms,.str [c]]=some (.bl (decide (c∈ms))):=by
 simp [XV,JN,inD,DL.run,DL.runI,Zf,sIf,Zn,Z2,sNext,Zi,Zy,ZG,ZO,sNever,xB,bD,Zu,ZC,xOr,Za,eC,eOp,ZH,eOr,ZP,eIf,Zz,ZD,ZM,ZR,eUn,ZN,eNil,Zb,Zx,ZF,eCB,lenD,minD,Z1,Zk,ZE,ZA,Zs,eSl,xP,xNoP,addD,subD,mulD,fdivD,modD,Zw,ixD,isD,eBM,ZL,ZQ,kind,plainKinds,ZS,ZU,Z3,ZW,ZX,ZY,Z4,ZZ,Z5,Z6,Z7,List.lookup,ZK,CMul,PySem.sizeLine_eq,List.replicate]
theorem is_whole(i lo hi:Int):Vx [.int i,.int lo,.int hi]=some (.bl (decide (lo<=i/\i<=hi))):=by
 by_cases h:lo<=i<;>simp [Vx,Zju,QV,QU,h,DL.run,DL.runI,Zf,sIf,Zn,Z2,sNext,Zi,Zy,ZG,ZO,sNever,xB,bD,Zu,ZC,xOr,Za,eC,eOp,ZH,eOr,ZP,eIf,Zz,ZD,ZM,ZR,eUn,ZN,eNil,Zb,Zx,ZF,eCB,lenD,minD,Z1,Zk,ZE,ZA,Zs,eSl,xP,xNoP,addD,subD,mulD,fdivD,modD,Zw,ixD,isD,eBM,ZL,ZQ,kind,plainKinds,ZS,ZU,Z3,ZW,ZX,ZY,Z4,ZZ,Z5,Z6,Z7,List.lookup,ZK,CMul,PySem.sizeLine_eq,List.replicate]
theorem demand(cs:List Nat):Xe [.bl true,.str cs]=some .non:=by
 simp [Xe,Zjv,DL.run,DL.runI,Zf,sIf,Zn,Z2,sNext,Zi,Zy,ZG,ZO,sNever,xB,bD,Zu,ZC,xOr,Za,eC,eOp,ZH,eOr,ZP,eIf,Zz,ZD,ZM,ZR,eUn,ZN,eNil,Zb,Zx,ZF,eCB,lenD,minD,Z1,Zk,ZE,ZA,Zs,eSl,xP,xNoP,addD,subD,mulD,fdivD,modD,Zw,ixD,isD,eBM,ZL,ZQ,kind,plainKinds,ZS,ZU,Z3,ZW,ZX,ZY,Z4,ZZ,Z5,Z6,Z7,List.lookup,ZK,CMul,PySem.sizeLine_eq,List.replicate]
theorem Vj:Uw none = .non:=rfl
theorem XC(i:Int):Uw (some i) = .int i:=rfl
structure Ms(ms:List Nat):Prop where
 lo:2<=ms.length
 hi:ms.length<=4
 st:JM [.str ms]=some (.bl true)
def SG:List Nat:=[97,98,99,100,101,102,103,104,105,106,107,108,109,110,111,112,113,114,115,116,117,118,119,120,121,122,48,49,50,51,52,53,54,55,56,57]
def many(c:Int):Nat:=2+(c / 396 % 3).toNat
def sgn(c:Int)(k:Nat):Nat:=SG.getD ((c+k*(1+c / 36 % 11)) % 36).toNat 0
def Ux(c:Int):List Nat:=(List.range (many c)).map (sgn c)
theorem ZmD{i:Int}(h0:0<=i)(h1:i<36):atI SG i=some (SG.getD i.toNat 0):=by
 obtain⟨x,h2,h3⟩:=Zgp (xs:=SG) h0 (by simpa [SG]using h1);rw [h2,List.getD_eq_getElem?_getD,h3];rfl
theorem Zgs:SG.length=36:=rfl
theorem ZcC{f:D->D->Option D}{a b:Env->Option D}{δ:Env}{x y:D}{r:Option D}(ha:a δ=some x)(hb:b δ=some y)(h:f x y=r):eOp f a b δ=r:=by
 unfold eOp;rw [ha,hb];exact h
def mkF(sg:List Nat)(c:Int):D->D
 | .int k => .str [sg.getD ((c+k*(1+c / 36 % 11)) % 36).toNat 0]
 |_ => .non
theorem ZeO{sg:List Nat}{c s k x:Int}{z:Nat}(hk:CMul k s)(hs:sg.length<=PySem.sizeLine)(hz:atI sg ((c+k*s) % 36)=some z):eOp ixD (Za 1) (eOp modD (eOp addD (Za 2) (eOp mulD (Za 0) (Za 3))) (eC (.int 36))) [some (.int k),some (.str sg),some (.int c),some (.int s)]=some (.str [z]):=
 ZcC (x:=.str sg) (y:=.int ((c+k*s) % 36)) rfl (ZcC (x:=.int (c+k*s)) (y:=.int 36) (ZcC (x:=.int c) (y:=.int (k*s)) rfl (ZcC (x:=.int k) (y:=.int s) rfl rfl (Zc0 hk)) rfl) rfl (Vd (by omega))) (JJ hs hz)
theorem Zdp(c:Int):Xh (Yd 0) (λ_=>some true) (eOp ixD (Za 1) (eOp modD (eOp addD (Za 2) (eOp mulD (Za 0) (Za 3))) (eC (.int 36)))) [none,some (.str SG),some (.int c),some (.int (1+c / 36 % 11))] (YA 0 1 (many c))=some ((List.range (many c)).map λk => .str [sgn c k]):=by
 rw [Vc (mkF SG c)]
 · unfold YA
   rw [List.map_map]
   congr 1
   refine List.map_congr_left λk _ => ?_
   have e:(0+(k:Int)*1)=k:=by omega
   show mkF SG c (.int (0+(k:Int)*1))=_;rw [e];rfl
 · intro x hx
   obtain⟨i,hi,rfl⟩:=Zbt hx;have hi4:i<5:=by unfold many at hi;omega
   have e:(0+(i:Int)*1)=i:=by omega
   rw [e];exact⟨_,rfl,ZeO (x:=0) (Za6 (by omega) (by omega)) (by rw [Zgs,PySem.sizeLine_eq];omega) (ZmD (by omega) (by omega))⟩
theorem ZfL(c:Int):JT [.int c]=some (.str (Ux c)):=by
 have hm:(2+c / 396 % 3).toNat=many c:=by unfold many;omega
 have hb : -(2 ^ 62)<=2+c / 396 % 3/\2+c / 396 % 3<2 ^ 62:=by omega
 have hc:=Zdp c;have hj:=ZbW (sgn c) (List.range (many c)) (by rw [List.length_range,PySem.sizeLine_eq];unfold many;omega);have hl:(List.range (many c)).length<=PySem.sizeLine:=by rw [List.length_range,PySem.sizeLine_eq];unfold many;omega
 have e0:[97,98,99,100,101,102,103,104,105,106,107,108,109,110,111,112,113,114,115,116,117,118,119,120,121,122,48,49,50,51,52,53,54,55,56,57]=SG:=rfl;have d1:ZK c 36:=⟨by omega,by omega⟩
 have d2:ZK c 396:=⟨by omega,by omega⟩
 have e1:Ux c=(List.range (many c)).map (sgn c):=rfl;rw [e1];unfold JT ZjP;rw [e0];generalize SG=sg at hc ⊢;generalize sgn c=sg2 at hc hj ⊢;simp only [DL.run,Zf,Zi,eC,eOp,addD,modD,fdivD,Za,Zn,eBM,Zb,eNil,YJ,Xg,List.map_cons,List.map_nil,List.length_cons,List.length_nil,List.cons_append,List.nil_append,Nat.reduceAdd,Nat.reduceSub,List.replicate,List.set_cons_zero,List.set_cons_succ,List.getElem?_cons_zero,List.getElem?_cons_succ,if_pos d1,if_pos d2,if_pos (show(0:Int)<11 by omega),if_pos (show(0:Int)<3 by omega),if_pos hb,hm,X1,Option.getD_some,hc,List.length_map,if_pos hl,hj]
theorem ZiW:∀i j:Fin 36,SG.getD i.val 0=SG.getD j.val 0->i=j:=by decide
theorem Zhp(c:Int){i j:Nat}(hi:i<4)(hj:j<4)(h:sgn c i=sgn c j):i=j:=by
 unfold sgn at h;have h1:((c+i*(1+c / 36 % 11)) % 36).toNat<36:=by omega
 have h2:((c+j*(1+c / 36 % 11)) % 36).toNat<36:=by omega
 have:=ZiW ⟨_,h1⟩ ⟨_,h2⟩ h;have e:((c+i*(1+c / 36 % 11)) % 36).toNat=((c+j*(1+c / 36 % 11)) % 36).toNat:=congrArg Fin.val this;have hs:∃t:Int,c / 36 % 11=t/\0<=t/\t<=10:=⟨_,rfl,by omega,by omega⟩
 obtain⟨t,ht,ht0,ht1⟩:=hs;rw [ht]at e;rcases(show i=0\/i=1\/i=2\/i=3 by omega)with rfl|rfl|rfl|rfl<;>rcases(show j=0\/j=1\/j=2\/j=3 by omega)with rfl|rfl|rfl|rfl<;>first|rfl|(exfalso;omega)
theorem Zau(c:Int):2<=(Ux c).length/\(Ux c).length<=4:=by
 unfold Ux many;rw [List.length_map,List.length_range];omega
theorem ZbX{α β:Type}{f:α->β}:∀{l:List α},l.Nodup->(∀x∈l,∀y∈l,f x=f y->x=y)->(l.map f).Nodup
 | [],_,_=>List.nodup_nil
 |a::l,h,hf=>by
  rw [List.map_cons,List.nodup_cons];obtain⟨h1,h2⟩:=List.nodup_cons.mp h;refine⟨λhm => ?_,ZbX h2 λx hx y hy=>hf x (List.mem_cons_of_mem _ hx) y (List.mem_cons_of_mem _ hy)⟩;obtain⟨b,hb,e⟩:=List.mem_map.mp hm;have:=hf b (List.mem_cons_of_mem _ hb) a List.mem_cons_self e;exact h1 (this▸hb)
theorem Zct(c:Int):(Ux c).Nodup:=by
 have hl:many c<=4:=by unfold many;omega
 refine ZbX List.nodup_range λx hx y hy h=>Zhp c ?_ ?_ h
 · have:=List.mem_range.mp hx;omega
 · have:=List.mem_range.mp hy;omega
theorem Zc2(c:Int):∀x∈Ux c,x∈cs_MARK_SIGNS:=by
 intro x hx;obtain⟨k,_,rfl⟩:=List.mem_map.mp hx;unfold sgn;have h:((c+k*(1+c / 36 % 11)) % 36).toNat<36:=by omega
 generalize ((c+k*(1+c / 36 % 11)) % 36).toNat=i at h;have:∀i:Fin 36,SG.getD i.val 0∈cs_MARK_SIGNS:=by decide
 exact this ⟨i,h⟩
theorem ZmE{ms:List Nat}(h2:2<=ms.length)(h4:ms.length<=4)(hs:∀x∈ms,x∈cs_MARK_SIGNS)(hn:ms.Nodup):JM [.str ms]=some (.bl true):=by
 have hc:Xh (Yd 0) (λ_=>some true) (ZH (eOp (inD false) (Za 0) (eC (.str cs_MARK_SIGNS))) (eOp eqD (eBM countD (Za 1) (Zb (Za 0) eNil)) (eC (.int 1)))) [none,some (.str ms)] (ms.map λc => .str [c])=some (ms.map λ_ => .bl true):=by
  rw [Vc (λ_ => .bl true)]
  · rw [List.map_map];rfl
  · intro x hx
    obtain⟨c,hcm,rfl⟩:=List.mem_map.mp hx;have h1:ms.count c=1:=hn.count.trans (if_pos hcm);have h3:=hs c hcm;exact⟨_,rfl,by simp [Yd,inD,countD,h1,h3,DL.run,DL.runI,Zf,sIf,Zn,Z2,sNext,Zi,Zy,ZG,ZO,sNever,xB,bD,Zu,ZC,xOr,Za,eC,eOp,ZH,eOr,ZP,eIf,Zz,ZD,ZM,ZR,eUn,ZN,eNil,Zb,Zx,ZF,eCB,lenD,minD,Z1,Zk,ZE,ZA,Zs,eSl,xP,xNoP,addD,subD,mulD,fdivD,modD,Zw,ixD,isD,eBM,ZL,ZQ,kind,plainKinds,ZS,ZU,Z3,ZW,ZX,ZY,Z4,ZZ,Z5,Z6,Z7,List.lookup,ZK,CMul,PySem.sizeLine_eq,List.replicate]⟩
 have hb:Vr (ms.map λ_=>D.bl true)=some (ms.map λ_=>true):=by
  have:=Js (ms.map λ_=>true);rw [List.map_map]at this;exact this
 have ha:(ms.map λ_=>true).all id=true:=List.all_eq_true.mpr λb hb=>by
  obtain⟨_,_,rfl⟩:=List.mem_map.mp hb;rfl
 have hz:ms.length<=16777216:=by omega
 have g1:¬(ms.length:Int)<2:=by omega
 have g2:¬(4:Int)<ms.length:=by omega
 simp [JM,Zjt,YJ,Yu,X1,hc,hb,ha,XH,hz,g1,g2,DL.run,DL.runI,Zf,sIf,Zn,Z2,sNext,Zi,Zy,ZG,ZO,sNever,xB,bD,Zu,ZC,xOr,Za,eC,eOp,ZH,eOr,ZP,eIf,Zz,ZD,ZM,ZR,eUn,ZN,eNil,Zb,Zx,ZF,eCB,lenD,minD,Z1,Zk,ZE,ZA,Zs,eSl,xP,xNoP,addD,subD,mulD,fdivD,modD,Zw,ixD,isD,eBM,ZL,ZQ,kind,plainKinds,ZS,ZU,Z3,ZW,ZX,ZY,Z4,ZZ,Z5,Z6,Z7,List.lookup,ZK,CMul,PySem.sizeLine_eq,List.replicate]
theorem ZfM(c:Int):Ms (Ux c):=⟨(Zau c).1,(Zau c).2,ZmE (Zau c).1 (Zau c).2 (Zc2 c) (Zct c)⟩
theorem ZcD{ms:List Nat}(hm:0<ms.length)(i:Int):∃z,atI ms (i % ms.length)=some z/\z∈ms:=by
 obtain⟨x,h1,h2⟩:=Zgp (xs:=ms) (i:=i % ms.length) (Int.emod_nonneg _ (by omega)) (Int.emod_lt_of_pos _ (by omega));exact⟨x,h1,List.mem_of_getElem? h2⟩
theorem Zhq{α β:Type}(f:α->β)(xs:List α)(lo hi:Option Int):cutL (xs.map f) lo hi=(cutL xs lo hi).map f:=by
 unfold cutL;rw [List.length_map,List.map_take,List.map_drop]
theorem Zhr{α:Type}(xs:List α)(lo hi:Option Int):(cutL xs lo hi).length<=xs.length:=by
 unfold cutL;rw [List.length_take,List.length_drop];omega
def VR(tab:MTab)(m:String)(o:D)(ds:List D):Option D:=match o with
 | .obj c ks xs=>if ks.contains m then none else match tab.lookup c with
  |some (n,mm)=>if(D.obj c ks xs::ds).length=n then mm (.obj c ks xs::ds)else none
  |none=>none
 |_=>none
theorem U4{m:String}{tab:MTab}{a:DL.Env->Option D}{α:DL.Env->Option (List D)}{δ:DL.Env}{o:D}{ds:List D}(h1:a δ=some o)(h2:α δ=some ds):ZA m tab a α δ=VR tab m o ds:=by
 unfold ZA VR;rw [h1];cases o<;>try rfl
 dsimp only;rw [h2]<;>(split<;>first|rfl|(cases tab.lookup _<;>rfl))
theorem Zao{nm:String}{tab:MTab}{n:Nat}{c:String}{ks:List String}{vs:List D}{mm:List D->Option D}{ds:List D}(h2:ks.contains nm=false)(h3:tab.lookup c=some (n,mm))(h5:ds.length+1=n):VR tab nm (.obj c ks vs) ds=mm (.obj c ks vs::ds):=by
 unfold VR;dsimp only;rw [h2,if_neg Bool.false_ne_true,h3];dsimp only;rw [if_pos (show(D.obj c ks vs::ds).length=n by simpa using h5)]
def U5(tab:XTab)(m:String)(o:D)(ds:List D):Option D:=match o with
 | .obj c ks xs=>if ks.contains m then none else match tab.lookup c with
  |some (n,mm,_)=>if(D.obj c ks xs::ds).length=n then mm (.obj c ks xs::ds)else none
  |none=>none
 |_=>none
def Uy(tab:XTab)(m:String)(o:D)(ds:List D):Option String:=match o with
 | .obj c ks xs=>if ks.contains m then none else match tab.lookup c with
  |some (n,_,xm)=>if(D.obj c ks xs::ds).length=n then xm (.obj c ks xs::ds)else none
  |none=>none
 |_=>none
theorem Zap{m:String}{tab:XTab}{a:DL.Env->Option D}{α:DL.Env->Option (List D)}{δ:DL.Env}{o:D}{ds:List D}(h1:a δ=some o)(h2:α δ=some ds):Xw m tab a α δ=U5 tab m o ds:=by
 unfold Xw U5;rw [h1];cases o<;>try rfl
 dsimp only;rw [h2]<;>(split<;>first|rfl|(cases tab.lookup _<;>rfl))
theorem Uz{m:String}{tab:XTab}{a:DL.Env->Option D}{α:DL.Env->Option (List D)}{δ:DL.Env}{o:D}{ds:List D}(h1:a δ=some o)(h2:α δ=some ds):Vu m tab a α δ=Uy tab m o ds:=by
 unfold Vu Uy;rw [h1];cases o<;>try rfl
 dsimp only;rw [h2]<;>(split<;>first|rfl|(cases tab.lookup _<;>rfl))
theorem Zbu{nm:String}{tab:XTab}{n:Nat}{c:String}{ks:List String}{vs:List D}{mm:List D->Option D}{xm:List D->Option String}{ds:List D}(h2:ks.contains nm=false)(h3:tab.lookup c=some (n,mm,xm))(h5:ds.length+1=n):U5 tab nm (.obj c ks vs) ds=mm (.obj c ks vs::ds)/\Uy tab nm (.obj c ks vs) ds=xm (.obj c ks vs::ds):=by
 unfold U5 Uy;dsimp only;rw [h2,if_neg Bool.false_ne_true,if_neg Bool.false_ne_true,h3];dsimp only;rw [if_pos (show(D.obj c ks vs::ds).length=n by simpa using h5),if_pos (show(D.obj c ks vs::ds).length=n by simpa using h5)];exact⟨rfl,rfl⟩
structure Ob(ms:List Nat)(o:D)(S:List Nat->D)(B:List Nat->Nat->Bool):Prop where
 fm:∀{a:DL.Env->Option D}{δ:DL.Env},a δ=some o->Zs fc_marks "marks" a δ=some (.str ms)
 bg:VR tab_begin "begin" o []=some (S [])
 bh:∀r c,(∀x∈r,x∈ms)->c∈ms->VR tab_behind "behind" o [S r,.str [c]]=some (if B r c=true then .non else S (r++[c]))
 tb:∀ds,ds.length=2->U5 tab_step "step" o ds=VQ (o::ds)/\Uy tab_step "step" o ds=VP (o::ds)
 br:∀ds,ds.length=1->U5 tab_broken_at "broken_at" o ds=XW (o::ds)/\Uy tab_broken_at "broken_at" o ds=Xn (o::ds)
 kp:∀ds,ds.length=1->U5 tab_keeps "keeps" o ds=Vh (o::ds)/\Uy tab_keeps "keeps" o ds=XX (o::ds)
 vn:∀r,ZM (S r)=false
structure Sg(ms:List Nat)(o:D)(S:List Nat->D)(B:List Nat->Nat->Bool):Prop where
 ob:Ob ms o S B
 al:ZQ it_All o=some false
 b0:VR tab_begin0 "begin" o []=some (S [])
 s0:∀r c,(∀x∈r,x∈ms)->c∈ms->VR tab_step0 "step" o [S r,.str [c]]=some (if B r c=true then .non else S (r++[c]))
theorem ZfN {ms:List Nat} {o s x:D} {c:Nat} (h4:ms.length<=4) (hc:c∈ms) (mk:∀{a:DL.Env->Option D}{δ:DL.Env},a δ=some o->Zs fc_marks "marks" a δ=some (.str ms)) (h:VR tab_behind0 "behind" o [s,.str [c]]=some x):Us [o,s,.str [c]]=some x:=by
 have e:=is_mark ms c h4;rw [decide_eq_true hc]at e;exact YB rfl ((Zt ((YE (VN (Yj ((Ys (Zl (mk rfl) (Zl rfl nil_of)) rfl).trans e)))).trans rfl)).trans (YY ((U4 rfl (Zl rfl (Zl rfl nil_of))).trans h)))
theorem Ob.of {ms:List Nat} {c:String} {ks:List String} {xs:List D} {mb bh:List D->Option D} {S:List Nat->D} {B:List Nat->Nat->Bool} (hk:(["begin", "behind", "step", "broken_at", "keeps"].all λn => !("marks" :: ks).contains n)=true)
 (l1:tab_begin.lookup c=some (1,mb)) (l3:tab_step.lookup c=some (3,VQ,VP)) (l5:tab_behind.lookup c=some (3,bh)) (l7:tab_broken_at.lookup c=some (2,XW,Xn)) (l8:tab_keeps.lookup c=some (2,Vh,XX)) (l9:fc_marks.contains c=true)
 (hb:mb [.obj c ("marks" :: ks) (.str ms::xs)]=some (S [])) (hv:∀r,ZM (S r)=false) (hs:∀r m,(∀x∈r,x∈ms)->m∈ms->bh [.obj c ("marks" :: ks) (.str ms::xs),S r,.str [m]]=some (if B r m=true then .non else S (r++[m]))):Ob ms (.obj c ("marks" :: ks) (.str ms::xs)) S B:=by
 simp only [List.all_cons,List.all_nil,Bool.and_true,Bool.and_eq_true,Bool.not_eq_true']at hk;obtain⟨k1,k2,k3,k4,k5⟩:=hk;refine⟨λ{a δ} h => ?_,(Zao k1 l1 rfl).trans hb,λr m hr hm=>(Zao k2 l5 rfl).trans (hs r m hr hm),λds hd=>Zbu k3 l3 (by rw [hd]),λds hd=>Zbu k4 l7 (by rw [hd]),λds hd=>Zbu k5 l8 (by rw [hd]),hv⟩;unfold Zs;rw [h];dsimp only;rw [if_pos l9];simp
theorem Sg.of {ms:List Nat} {c:String} {ks:List String} {xs:List D} {mb bh:List D->Option D} {S:List Nat->D} {B:List Nat->Nat->Bool} (h4:ms.length<=4) (hk:(["begin", "behind", "step", "broken_at", "keeps"].all λn => !("marks" :: ks).contains n)=true) (hp:plainKinds.contains c=false)
 (l1:tab_begin.lookup c=some (1,mb)) (l2:tab_begin0.lookup c=some (1,mb)) (l3:tab_step.lookup c=some (3,VQ,VP)) (l4:tab_step0.lookup c=some (3,Us)) (l5:tab_behind.lookup c=some (3,bh)) (l6:tab_behind0.lookup c=some (3,bh)) (l7:tab_broken_at.lookup c=some (2,XW,Xn)) (l8:tab_keeps.lookup c=some (2,Vh,XX)) (l0:it_All.lookup c=some false) (l9:fc_marks.contains c=true)
 (hb:mb [.obj c ("marks" :: ks) (.str ms::xs)]=some (S [])) (hv:∀r,ZM (S r)=false) (hs:∀r m,(∀x∈r,x∈ms)->m∈ms->bh [.obj c ("marks" :: ks) (.str ms::xs),S r,.str [m]]=some (if B r m=true then .non else S (r++[m]))):Sg ms (.obj c ("marks" :: ks) (.str ms::xs)) S B:=by
 have O:=Ob.of hk l1 l3 l5 l7 l8 l9 hb hv hs;simp only [List.all_cons,List.all_nil,Bool.and_true,Bool.and_eq_true,Bool.not_eq_true']at hk;obtain⟨k1,k2,k3,k4,k5⟩:=hk;refine⟨O,?_,(Zao k1 l2 rfl).trans hb,λr m hr hm=>(Zao k3 l4 rfl).trans (ZfN h4 hm O.fm ((Zao k2 l6 rfl).trans (hs r m hr hm)))⟩;unfold ZQ;simp only [hp,Bool.false_eq_true,if_false];exact l0
end K06
namespace K06
open DL L2
theorem Qs{ms:List Nat}(M:Ms ms)(c:String)(h:fc_marks.contains c=true):X4 [.obj c [] [],.str ms]=some (.obj c ["marks"] [.str ms]):=by
 have:=M.st;have h':c∈fc_marks:=by simpa using h
 simp [X4,Zjw,h',this,DL.run,DL.runI,Zf,sIf,Zn,Z2,sNext,Zi,Zy,ZG,ZO,sNever,xB,bD,Zu,ZC,xOr,Za,eC,eOp,ZH,eOr,ZP,eIf,Zz,ZD,ZM,ZR,eUn,ZN,eNil,Zb,Zx,ZF,eCB,lenD,minD,Z1,Zk,ZE,ZA,Zs,eSl,xP,xNoP,addD,subD,mulD,fdivD,modD,Zw,ixD,isD,eBM,ZL,ZQ,kind,plainKinds,ZS,ZU,Z3,ZW,ZX,ZY,Z4,ZZ,Z5,Z6,Z7,List.lookup,ZK,CMul,PySem.sizeLine_eq,List.replicate]
abbrev gap(ms:List Nat)(mk:Nat)(lo:Int)(mo:Option Int):D := .obj "Gap" ["marks", "mark", "least", "most"] [.str ms,.str [mk],.int lo,Uw mo]
def beh(mk:Nat)(lo:Int)(mo:Option Int)(s:Int)(c:Nat):Option Int:=
 if c=mk then(if lo<=s then some 0 else none)else match mo with
  |none=>some (if lo<s+1 then lo else s+1)
  |some m=>if s<m then some (s+1)else none
theorem behind(ms:List Nat)(mk:Nat)(lo:Int)(mo:Option Int)(s:Int)(c:Nat):UZ [gap ms mk lo mo,.int s,.str [c]]=some (Uw (beh mk lo mo s c)):=by
 unfold beh
 by_cases hc:c=mk
 · by_cases hs:lo<=s<;>simp [UZ,QW,XU,Vw,Xz,Vj,XC,hc,hs,DL.run,DL.runI,Zf,sIf,Zn,Z2,sNext,Zi,Zy,ZG,ZO,sNever,xB,bD,Zu,ZC,xOr,Za,eC,eOp,ZH,eOr,ZP,eIf,Zz,ZD,ZM,ZR,eUn,ZN,eNil,Zb,Zx,ZF,eCB,lenD,minD,Z1,Zk,ZE,ZA,Zs,eSl,xP,xNoP,addD,subD,mulD,fdivD,modD,Zw,ixD,isD,eBM,ZL,ZQ,kind,plainKinds,ZS,ZU,Z3,ZW,ZX,ZY,Z4,ZZ,Z5,Z6,Z7,List.lookup,ZK,CMul,PySem.sizeLine_eq,List.replicate]
 · cases mo with
   |none=>simp [UZ,QW,XU,Vw,Xz,Vj,XC,hc,DL.run,DL.runI,Zf,sIf,Zn,Z2,sNext,Zi,Zy,ZG,ZO,sNever,xB,bD,Zu,ZC,xOr,Za,eC,eOp,ZH,eOr,ZP,eIf,Zz,ZD,ZM,ZR,eUn,ZN,eNil,Zb,Zx,ZF,eCB,lenD,minD,Z1,Zk,ZE,ZA,Zs,eSl,xP,xNoP,addD,subD,mulD,fdivD,modD,Zw,ixD,isD,eBM,ZL,ZQ,kind,plainKinds,ZS,ZU,Z3,ZW,ZX,ZY,Z4,ZZ,Z5,Z6,Z7,List.lookup,ZK,CMul,PySem.sizeLine_eq,List.replicate]
   |some m=>by_cases hs:s<m<;>simp [UZ,QW,XU,Vw,Xz,Vj,XC,hc,hs,DL.run,DL.runI,Zf,sIf,Zn,Z2,sNext,Zi,Zy,ZG,ZO,sNever,xB,bD,Zu,ZC,xOr,Za,eC,eOp,ZH,eOr,ZP,eIf,Zz,ZD,ZM,ZR,eUn,ZN,eNil,Zb,Zx,ZF,eCB,lenD,minD,Z1,Zk,ZE,ZA,Zs,eSl,xP,xNoP,addD,subD,mulD,fdivD,modD,Zw,ixD,isD,eBM,ZL,ZQ,kind,plainKinds,ZS,ZU,Z3,ZW,ZX,ZY,Z4,ZZ,Z5,Z6,Z7,List.lookup,ZK,CMul,PySem.sizeLine_eq,List.replicate]
theorem ZfO{ms:List Nat}(M:Ms ms){mk:Nat}(hk:mk∈ms){lo:Int}(h0:0<=lo)(h8:lo<=8)(mo:Option Int)(hmo:∀m,mo=some m->lo<=m/\m<=8):QZ [.obj "Gap" [] [],.str ms,.str [mk],.int lo,Uw mo]=some (gap ms mk lo mo):=by
 have h1:=Qs M "Gap" rfl;have h2:=is_mark ms mk M.hi;have h3:=is_whole lo 0 8;cases mo with
 |none=>simp [QZ,f_Qc,XU,Vw,Xz,h1,h2,hk,h3,h0,h8,demand,Vj,XC,gap,DL.run,DL.runI,Zf,sIf,Zn,Z2,sNext,Zi,Zy,ZG,ZO,sNever,xB,bD,Zu,ZC,xOr,Za,eC,eOp,ZH,eOr,ZP,eIf,Zz,ZD,ZM,ZR,eUn,ZN,eNil,Zb,Zx,ZF,eCB,lenD,minD,Z1,Zk,ZE,ZA,Zs,eSl,xP,xNoP,addD,subD,mulD,fdivD,modD,Zw,ixD,isD,eBM,ZL,ZQ,kind,plainKinds,ZS,ZU,Z3,ZW,ZX,ZY,Z4,ZZ,Z5,Z6,Z7,List.lookup,ZK,CMul,PySem.sizeLine_eq,List.replicate]
 |some m=>
  have h4:=is_whole m lo 8;have h5:=(hmo m rfl).1;have h6:=(hmo m rfl).2;simp [QZ,f_Qc,XU,Vw,Xz,h1,h2,hk,h3,h0,h8,h4,h5,h6,demand,Vj,XC,gap,DL.run,DL.runI,Zf,sIf,Zn,Z2,sNext,Zi,Zy,ZG,ZO,sNever,xB,bD,Zu,ZC,xOr,Za,eC,eOp,ZH,eOr,ZP,eIf,Zz,ZD,ZM,ZR,eUn,ZN,eNil,Zb,Zx,ZF,eCB,lenD,minD,Z1,Zk,ZE,ZA,Zs,eSl,xP,xNoP,addD,subD,mulD,fdivD,modD,Zw,ixD,isD,eBM,ZL,ZQ,kind,plainKinds,ZS,ZU,Z3,ZW,ZX,ZY,Z4,ZZ,Z5,Z6,Z7,List.lookup,ZK,CMul,PySem.sizeLine_eq,List.replicate]
def oth(mk:Nat)(lo:Int)(row:List Nat):Int:=if Xd mk row<0 then row.length+lo else row.length-1-Xd mk row
theorem Zhs(mk:Nat)(lo:Int):oth mk lo []=lo:=by simp [oth,Xd]
theorem ZfP(mk:Nat)(lo:Int)(row:List Nat)(c:Nat):oth mk lo (row++[c])=if c=mk then 0 else oth mk lo row+1:=by
 unfold oth;rw [Zcl,List.length_append,List.length_singleton]
 by_cases hc:c=mk
 · rw [if_pos hc,if_pos hc,if_neg (by omega)]
   push_cast
   omega
 · rw [if_neg hc,if_neg hc]
   split
   · push_cast;omega
   · push_cast;omega
def stt(lo:Int)(mo:Option Int)(o:Int):Int:=match mo with
 |none=>if lo<o then lo else o
 |some _=>o
def ZhI(mk:Nat)(lo:Int)(mo:Option Int)(r:List Nat):D := .int (stt lo mo (oth mk lo r))
def ZkC(mk:Nat)(lo:Int)(mo:Option Int)(r:List Nat)(c:Nat):Bool:=if c=mk then decide (oth mk lo r<lo)else match mo with
 |none=>false
 |some m=>decide (m<oth mk lo r+1)
theorem ZiX{ms:List Nat}(h4:ms.length<=4)(mk:Nat){lo:Int}(h0:0<=lo)(mo:Option Int):Sg ms (gap ms mk lo mo) (ZhI mk lo mo) (ZkC mk lo mo):=by
 refine Sg.of (mb:=JP) (bh:=UZ) h4 (by decide) (by decide) rfl rfl rfl rfl rfl rfl rfl rfl rfl rfl ?_ (λr=>rfl) λr c hr hc => ?_
 · have e : ZhI mk lo mo [] = .int lo := by
    unfold ZhI stt;rw [Zhs];cases mo with
    |none=>dsimp only;rw [if_neg (by omega)]
    |some m=>rfl
   rw [e];simp [JP,ZjA,Vw,DL.run,DL.runI,Zf,sIf,Zn,Z2,sNext,Zi,Zy,ZG,ZO,sNever,xB,bD,Zu,ZC,xOr,Za,eC,eOp,ZH,eOr,ZP,eIf,Zz,ZD,ZM,ZR,eUn,ZN,eNil,Zb,Zx,ZF,eCB,lenD,minD,Z1,Zk,ZE,ZA,Zs,eSl,xP,xNoP,addD,subD,mulD,fdivD,modD,Zw,ixD,isD,eBM,ZL,ZQ,kind,plainKinds,ZS,ZU,Z3,ZW,ZX,ZY,Z4,ZZ,Z5,Z6,Z7,List.lookup,ZK,CMul,PySem.sizeLine_eq,List.replicate]
 · refine(behind ms mk lo mo _ c).trans ?_
   congr 1
   unfold beh ZkC ZhI;rw [ZfP];generalize oth mk lo r=o
   by_cases h:c=mk
   · rw [if_pos h,if_pos h,if_pos h]
     by_cases ho:o<lo
     · rw [decide_eq_true ho,if_pos rfl,if_neg (by cases mo<;>(unfold stt;dsimp only;(try split))<;>omega)]
       rfl
     · rw [decide_eq_false ho,if_neg Bool.false_ne_true,if_pos (by cases mo<;>(unfold stt;dsimp only;(try split))<;>omega),XC]
       cases mo with
       |none=>unfold stt;dsimp only;rw [if_neg (by omega)]
       |some m=>rfl
   · rw [if_neg h,if_neg h,if_neg h]
     cases mo with
     |none=>
      rw [if_neg Bool.false_ne_true];dsimp only;rw [XC]
      congr 1
      unfold stt;dsimp only
      split<;>split<;>(try split)<;>omega
     |some m=>
      show Uw (if o<m then some (o+1)else none)=if decide (m<o+1)=true then D.non else D.int (o+1)
      by_cases hm:o<m
      · rw [if_pos hm,decide_eq_false (by omega),if_neg Bool.false_ne_true,XC]
      · rw [if_neg hm,decide_eq_true (by omega),if_pos rfl]
        rfl
def fit(wd r:List Nat)(k:Nat):Bool:=(wd.take k).isSuffixOf r
theorem fit_iff{wd r:List Nat}{k:Nat}:fit wd r k=true ↔ wd.take k <:+ r:=List.isSuffixOf_iff_suffix
theorem ZaK(wd r:List Nat):fit wd r 0=true:=fit_iff.mpr (by rw [List.take_zero];exact List.nil_suffix)
def VU(p:Nat->Bool):Nat->Nat
 |0=>0
 |n+1=>if p (n+1)=true then n+1 else VU p n
theorem Zav{p:Nat->Bool}(h0:p 0=true):∀n,VU p n<=n/\p (VU p n)=true/\∀k,k<=n->p k=true->k<=VU p n
 |0=>⟨Nat.le_refl _,h0,λk h _=>h⟩
 |n+1=>by
  unfold VU
  by_cases h:p (n+1)=true
  · rw [if_pos h];exact⟨Nat.le_refl _,h,λk h _=>h⟩
  · rw [if_neg h]
    obtain⟨h1,h2,h3⟩:=Zav h0 n;refine⟨by omega,h2,λk hk hp => ?_⟩
    by_cases e:k=n+1
    · rw [e]at hp;exact(h hp).elim
    · exact h3 k (by omega) hp
theorem ZeP{p:Nat->Bool}(h0:p 0=true){n m:Nat}(h1:m<=n)(h2:p m=true)(h3:∀k,k<=n->p k=true->k<=m):m=VU p n:=by
 obtain⟨a,b,c⟩:=Zav h0 n;exact Nat.le_antisymm (c m h1 h2) (h3 _ a b)
def lps(wd r:List Nat):Nat:=VU (fit wd r) (wd.length-1)
theorem Zc3{l r:List Nat}{a c:Nat}:l++[a] <:+ r++[c] ↔ l <:+ r/\a=c:=by
 constructor
 · rintro⟨t,ht⟩
   rw [<-List.append_assoc]at ht;obtain⟨h1,h2⟩:=List.append_inj' ht rfl;exact⟨⟨t,h1⟩,by cases h2;rfl⟩
 · rintro⟨⟨t,ht⟩,rfl⟩
   exact⟨t,by rw [<-List.append_assoc,ht]⟩
theorem ZfQ{wd r:List Nat}{c s:Nat}(hs:s<wd.length)(h1:wd.take s <:+ r)(h2:∀k,k<wd.length->wd.take k <:+ r->k<=s):∀k,k<=wd.length->(wd.take k <:+ r++[c] ↔ wd.take k <:+ wd.take s++[c])
 |0,_=>by rw [List.take_zero];exact⟨λ_=>List.nil_suffix,λ_=>List.nil_suffix⟩
 |k+1,hk=>by
  have e:wd.take (k+1)=wd.take k++[wd[k]]:=(List.take_append_getElem hk).symm;rw [e,Zc3,Zc3];constructor
  · rintro⟨h3,h4⟩
    have:=h2 k hk h3;refine⟨List.suffix_of_suffix_length_le h3 h1 ?_,h4⟩;rw [List.length_take,List.length_take];omega
  · rintro⟨h3,h4⟩
    exact⟨h3.trans h1,h4⟩
def ZkD(wd:List Nat)(s c:Nat):Option Nat:=if wd.take s++[c]=wd then none else some (VU (fit wd (wd.take s++[c])) (wd.take s++[c]).length)
def Zlf(wd r:List Nat):Option Nat:=if wd.isSuffixOf r=true then none else some (lps wd r)
theorem Zbv{wd:List Nat}(r:List Nat)(h1:1<=wd.length):lps wd r<wd.length/\wd.take (lps wd r) <:+ r/\∀k,k<wd.length->wd.take k <:+ r->k<=lps wd r:=by
 obtain⟨a,b,c⟩:=Zav (ZaK wd r) (wd.length-1);exact⟨by unfold lps;omega,fit_iff.mp b,λk hk h=>c k (by omega) (fit_iff.mpr h)⟩
theorem ZfR{wd:List Nat}(h1:1<=wd.length)(r:List Nat)(c:Nat):ZkD wd (lps wd r) c=Zlf wd (r++[c]):=by
 obtain⟨a,b,d⟩:=Zbv r h1;have fs:=ZfQ (c:=c) a b d;have hl:(wd.take (lps wd r)++[c]).length=lps wd r+1:=by rw [List.length_append,List.length_take,List.length_singleton];omega
 unfold ZkD Zlf;generalize wd.take (lps wd r)++[c]=t at fs hl;have fw:=fs wd.length (Nat.le_refl _);rw [List.take_length]at fw;have ft:wd <:+ t ↔ t=wd:=⟨λh=>(h.eq_of_length (by have:=h.length_le;omega)).symm,λh=>h▸List.suffix_refl _⟩
 by_cases ht:t=wd
 · rw [if_pos ht,if_pos (List.isSuffixOf_iff_suffix.mpr (fw.mpr (ft.mpr ht)))]
 · rw [if_neg ht,if_neg λh=>ht (ft.mp (fw.mp (List.isSuffixOf_iff_suffix.mp h)))]
   congr 1
   obtain⟨x,y,z⟩:=Zav (ZaK wd t) t.length;generalize VU (fit wd t) t.length=m at x y z
   have hm:m<wd.length:=by
    rcases Nat.lt_or_ge m wd.length with h|h
    · exact h
    · have hy:=fit_iff.mp y
      rw [List.take_of_length_le h]at hy;exact(ht (ft.mp hy)).elim
   refine ZeP (ZaK wd _) (by omega) (fit_iff.mpr ((fs m (by omega)).mpr (fit_iff.mp y))) λk hk hp => ?_
   have hq:=(fs k (by omega)).mp (fit_iff.mp hp);refine z k ?_ (fit_iff.mpr hq);have:=hq.length_le;rw [List.length_take]at this;omega
abbrev nev(ms wd:List Nat):D := .obj "Never" ["marks", "word"] [.str ms,.str wd]
def oz:Option Nat->D
 |none => .non
 |some n => .int (n:Nat)
theorem ozN:oz none = .non:=rfl
theorem ozS(i:Nat):oz (some i) = .int (i:Nat):=rfl
theorem Zbe{α:Type}(r:List α)(j:Nat):cutL r none (some (j:Int))=r.take j:=by
 unfold cutL YQ;have e:¬((j:Int)<0):=by omega
 have e2:((j:Int)).toNat=j:=by omega
 simp only [e,if_false,e2,List.drop_zero,Nat.sub_zero]
 by_cases h:j<=r.length
 · rw [Nat.min_eq_left h]
 · rw [Nat.min_eq_right (by omega),List.take_of_length_le (Nat.le_refl _),List.take_of_length_le (by omega)]
noncomputable def whT:DL.Env->Option Bool:=(Zu (xB (eBM endsD (Za 3) (Zb (eSl (Zs Vg "word" (Za 0)) xNoP (xP (Za 4))) eNil))))
noncomputable def whB:DL.Env->Option Out:=(Zi 4 (eOp subD (Za 4) (eC (.int 1))))
theorem ZdE(ms wd t:List Nat)(x1 x2:Option D)(n:Nat)(hw:wd.length<=6):whT [some (nev ms wd),x1,x2,some (.str t),some (.int (n:Nat))]=some (!fit wd t n):=by
 have hc:=Zbe wd n;have hl:wd.length<=16777216:=by omega
 simp [whT,Vg,slD,hc,hl,endsD,fit,DL.run,DL.runI,Zf,sIf,Zn,Z2,sNext,Zi,Zy,ZG,ZO,sNever,xB,bD,Zu,ZC,xOr,Za,eC,eOp,ZH,eOr,ZP,eIf,Zz,ZD,ZM,ZR,eUn,ZN,eNil,Zb,Zx,ZF,eCB,lenD,minD,Z1,Zk,ZE,ZA,Zs,eSl,xP,xNoP,addD,subD,mulD,fdivD,modD,Zw,ixD,isD,eBM,ZL,ZQ,kind,plainKinds,ZS,ZU,Z3,ZW,ZX,ZY,Z4,ZZ,Z5,Z6,Z7,List.lookup,ZK,CMul,PySem.sizeLine_eq,List.replicate]
theorem ZiY(y x1 x2 x3:Option D)(n:Nat):whB [y,x1,x2,x3,some (.int ((n+1:Nat):Int))]=some (.nx [y,x1,x2,x3,some (.int (n:Nat))]):=by
 have e:((n+1:Nat):Int)-1=(n:Nat):=by omega
 simp only [whB,Zi,eOp,Za,eC,subD,List.getElem?_cons_zero,List.getElem?_cons_succ,List.set_cons_succ,List.set_cons_zero,e]
theorem wh(ms wd t:List Nat)(x1 x2:Option D)(hw:wd.length<=6):∀n:Nat,∃N,Xv whT whB N [some (nev ms wd),x1,x2,some (.str t),some (.int (n:Nat))]=some (.nx [some (nev ms wd),x1,x2,some (.str t),some (.int (VU (fit wd t) n:Nat))])
 |0=>⟨1,by
  unfold Xv;rw [ZdE ms wd t x1 x2 0 hw,ZaK];rfl⟩
 |n+1=>by
  unfold VU
  by_cases h:fit wd t (n+1)=true
  · rw [if_pos h]
    refine⟨1,?_⟩;unfold Xv;rw [ZdE ms wd t x1 x2 (n+1) hw,h];rfl
  · rw [if_neg h]
    obtain⟨N,ih⟩:=wh ms wd t x1 x2 hw n;refine⟨N+1,?_⟩;unfold Xv;rw [ZdE ms wd t x1 x2 (n+1) hw,Bool.eq_false_iff.mpr h];simp only [Bool.not_false,ZiY];exact ih
theorem Za7:Zjy=(Zf (Zi 3 (eOp addD (eSl (Zs Vg "word" (Za 0)) xNoP (xP (Za 1))) (Za 2)))
 (Zf (sIf (xB (eOp eqD (Za 3) (Zs Vg "word" (Za 0)))) (Zn (eC .non)) sNext)
 (Zf (Zi 4 (eCB lenD (Zb (Za 3) eNil)))
 (Zf (Qc whT whB)
 (Zn (Za 4)))))):=rfl
theorem Zht{ms wd:List Nat}(hw:wd.length<=6)(s c:Nat):Qn [nev ms wd,.int (s:Nat),.str [c]]=some (oz (ZkD wd s c)):=by
 have hc:=Zbe wd s;have hl:wd.length<=16777216:=by omega
 have htl:(wd.take s).length<=6:=by rw [List.length_take];omega
 have hl2:(wd.take s).length+1<=16777216:=by omega
 unfold ZkD;generalize ht:wd.take s=u at *;have hul:(u++[c]).length<=16777216:=by rw [List.length_append,List.length_singleton];omega
 obtain⟨N,hN⟩:=wh ms wd (u++[c]) (some (.int (s:Nat))) (some (.str [c])) hw (u++[c]).length;have hW:=ZeA hN
 by_cases h:u++[c]=wd
 · rw [if_pos h]
   simp [Qn,Za7,Vg,slD,hc,hl,hl2,h,ozN,DL.run,DL.runI,Zf,sIf,Zn,Z2,sNext,Zi,Zy,ZG,ZO,sNever,xB,bD,Zu,ZC,xOr,Za,eC,eOp,ZH,eOr,ZP,eIf,Zz,ZD,ZM,ZR,eUn,ZN,eNil,Zb,Zx,ZF,eCB,lenD,minD,Z1,Zk,ZE,ZA,Zs,eSl,xP,xNoP,addD,subD,mulD,fdivD,modD,Zw,ixD,isD,eBM,ZL,ZQ,kind,plainKinds,ZS,ZU,Z3,ZW,ZX,ZY,Z4,ZZ,Z5,Z6,Z7,List.lookup,ZK,CMul,PySem.sizeLine_eq,List.replicate]
 · rw [if_neg h,ozS]
   have hl3:u.length<=16777215:=by omega
   simp only [List.length_append,List.length_singleton,Int.natCast_add,Int.cast_ofNat_Int]at hW;simp [Qn,Za7,Vg,slD,hc,hl,hl3,h,hW,DL.run,DL.runI,Zf,sIf,Zn,Z2,sNext,Zi,Zy,ZG,ZO,sNever,xB,bD,Zu,ZC,xOr,Za,eC,eOp,ZH,eOr,ZP,eIf,Zz,ZD,ZM,ZR,eUn,ZN,eNil,Zb,Zx,ZF,eCB,lenD,minD,Z1,Zk,ZE,ZA,Zs,eSl,xP,xNoP,addD,subD,mulD,fdivD,modD,Zw,ixD,isD,eBM,ZL,ZQ,kind,plainKinds,ZS,ZU,Z3,ZW,ZX,ZY,Z4,ZZ,Z5,Z6,Z7,List.lookup,ZK,CMul,PySem.sizeLine_eq,List.replicate]
theorem Zdq{ms wd:List Nat}(M:Ms ms)(h1:1<=wd.length)(hw:wd.length<=6)(hm:∀c∈wd,c∈ms):ZjF [.obj "Never" [] [],.str ms,.str wd]=some (nev ms wd):=by
 have hr:=Qs M "Never" rfl
 have hc:Xh (Yd 0) (λ_=>some true) (Zk 2 XV [] (Zb (Za 1) (Zb (Za 0) eNil))) [none,some (.str ms)] (wd.map λc => .str [c])=some (wd.map λ_ => .bl true):=by
  rw [Vc (λ_ => .bl true)]
  · rw [List.map_map];rfl
  · intro x hx
    obtain⟨c,hcm,rfl⟩:=List.mem_map.mp hx;have h3:=is_mark ms c M.hi;have h4:=hm c hcm;exact⟨_,rfl,by simp [Yd,h3,h4,DL.run,DL.runI,Zf,sIf,Zn,Z2,sNext,Zi,Zy,ZG,ZO,sNever,xB,bD,Zu,ZC,xOr,Za,eC,eOp,ZH,eOr,ZP,eIf,Zz,ZD,ZM,ZR,eUn,ZN,eNil,Zb,Zx,ZF,eCB,lenD,minD,Z1,Zk,ZE,ZA,Zs,eSl,xP,xNoP,addD,subD,mulD,fdivD,modD,Zw,ixD,isD,eBM,ZL,ZQ,kind,plainKinds,ZS,ZU,Z3,ZW,ZX,ZY,Z4,ZZ,Z5,Z6,Z7,List.lookup,ZK,CMul,PySem.sizeLine_eq,List.replicate]⟩
 have hb:Vr (wd.map λ_=>D.bl true)=some (wd.map λ_=>true):=by
  have:=Js (wd.map λ_=>true);rw [List.map_map]at this;exact this
 have ha:(wd.map λ_=>true).all id=true:=List.all_eq_true.mpr λb hb=>by
  obtain⟨_,_,rfl⟩:=List.mem_map.mp hb;rfl
 have hz:wd.length<=16777216:=by omega
 have g1:(1:Int)<=wd.length:=by omega
 have g2:(wd.length:Int)<=6:=by omega
 simp [ZjF,ZjE,Vg,hr,demand,YJ,Yu,X1,hc,hb,ha,XH,hz,g1,g2,nev,DL.run,DL.runI,Zf,sIf,Zn,Z2,sNext,Zi,Zy,ZG,ZO,sNever,xB,bD,Zu,ZC,xOr,Za,eC,eOp,ZH,eOr,ZP,eIf,Zz,ZD,ZM,ZR,eUn,ZN,eNil,Zb,Zx,ZF,eCB,lenD,minD,Z1,Zk,ZE,ZA,Zs,eSl,xP,xNoP,addD,subD,mulD,fdivD,modD,Zw,ixD,isD,eBM,ZL,ZQ,kind,plainKinds,ZS,ZU,Z3,ZW,ZX,ZY,Z4,ZZ,Z5,Z6,Z7,List.lookup,ZK,CMul,PySem.sizeLine_eq,List.replicate]
theorem ZiZ{ms:List Nat}(h4:ms.length<=4){wd:List Nat}(h1:1<=wd.length)(hw:wd.length<=6):Sg ms (nev ms wd) (λr => .int (lps wd r:Nat)) (λr c=>wd.isSuffixOf (r++[c])):=by
 refine Sg.of (mb:=XA) (bh:=Qn) h4 (by decide) (by decide) rfl rfl rfl rfl rfl rfl rfl rfl rfl rfl ?_ (λr=>rfl) λr c hr hc => ?_
 · have e : lps wd [] = 0 := by
    have:=(Zbv [] h1).2.1.length_le;rw [List.length_take,List.length_nil]at this;have:=(Zbv [] h1).1;omega
   rw [e];simp [XA,Qm,DL.run,DL.runI,Zf,sIf,Zn,Z2,sNext,Zi,Zy,ZG,ZO,sNever,xB,bD,Zu,ZC,xOr,Za,eC,eOp,ZH,eOr,ZP,eIf,Zz,ZD,ZM,ZR,eUn,ZN,eNil,Zb,Zx,ZF,eCB,lenD,minD,Z1,Zk,ZE,ZA,Zs,eSl,xP,xNoP,addD,subD,mulD,fdivD,modD,Zw,ixD,isD,eBM,ZL,ZQ,kind,plainKinds,ZS,ZU,Z3,ZW,ZX,ZY,Z4,ZZ,Z5,Z6,Z7,List.lookup,ZK,CMul,PySem.sizeLine_eq,List.replicate]
 · refine(Zht hw _ c).trans ?_
   rw [ZfR h1];unfold Zlf
   split<;>rfl
end K06
namespace K06
open DL L2
def od:Option D->D
 |none => .non
 |some d=>d
theorem odN:od none = .non:=rfl
theorem odS(d:D):od (some d)=d:=rfl
theorem Zbw{c:Nat}{ms:List Nat}(h:c∈ms):indexD ms [.str [c]]=some (.int (YM c ms)):=by
 obtain⟨i,a,_,hi⟩:=Zat h;show(if 0<=YM c ms then some (D.int (YM c ms))else none)=_;rw [if_pos (by omega)]
theorem ZeQ{c d:Nat}{ms:List Nat}(hc:c∈ms)(hd:d∈ms)(h:YM c ms=YM d ms):c=d:=by
 obtain⟨i,a,b,_⟩:=Zat hc;obtain⟨j,a',b',_⟩:=Zat hd;rw [a,a']at h;have:i=j:=by omega
 subst this;rw [b]at b';exact Option.some.inj b'
abbrev Zdw(ms:List Nat)(mk:Nat)(ev at_:Int):D := .obj "Turn" ["marks", "mark", "every", "at"] [.str ms,.str [mk],.int ev,.int at_]
theorem Zcu{ms:List Nat}{mk:Nat}{ev at_:Int}(h0:0<ev)(s:Int)(c:Nat):U1 [Zdw ms mk ev at_,.int s,.str [c]]=some (Uw (if c=mk/\s≠at_ then none else some ((s+1) % ev))):=by
 by_cases hk:c=mk
 · subst hk
   by_cases hx:s=at_
   · subst hx
     rw [if_neg (by simp),XC];simp [U1,QY,XU,UT,UU,h0,DL.run,DL.runI,Zf,sIf,Zn,Z2,sNext,Zi,Zy,ZG,ZO,sNever,xB,bD,Zu,ZC,xOr,Za,eC,eOp,ZH,eOr,ZP,eIf,Zz,ZD,ZM,ZR,eUn,ZN,eNil,Zb,Zx,ZF,eCB,lenD,minD,Z1,Zk,ZE,ZA,Zs,eSl,xP,xNoP,addD,subD,mulD,fdivD,modD,Zw,ixD,isD,eBM,ZL,ZQ,kind,plainKinds,ZS,ZU,Z3,ZW,ZX,ZY,Z4,ZZ,Z5,Z6,Z7,List.lookup,ZK,CMul,PySem.sizeLine_eq,List.replicate]
   · rw [if_pos ⟨rfl,hx⟩,Vj]
     simp [U1,QY,XU,UT,UU,hx,h0,DL.run,DL.runI,Zf,sIf,Zn,Z2,sNext,Zi,Zy,ZG,ZO,sNever,xB,bD,Zu,ZC,xOr,Za,eC,eOp,ZH,eOr,ZP,eIf,Zz,ZD,ZM,ZR,eUn,ZN,eNil,Zb,Zx,ZF,eCB,lenD,minD,Z1,Zk,ZE,ZA,Zs,eSl,xP,xNoP,addD,subD,mulD,fdivD,modD,Zw,ixD,isD,eBM,ZL,ZQ,kind,plainKinds,ZS,ZU,Z3,ZW,ZX,ZY,Z4,ZZ,Z5,Z6,Z7,List.lookup,ZK,CMul,PySem.sizeLine_eq,List.replicate]
 · rw [if_neg (λz=>hk z.1),XC]
   simp [U1,QY,XU,UT,UU,hk,h0,DL.run,DL.runI,Zf,sIf,Zn,Z2,sNext,Zi,Zy,ZG,ZO,sNever,xB,bD,Zu,ZC,xOr,Za,eC,eOp,ZH,eOr,ZP,eIf,Zz,ZD,ZM,ZR,eUn,ZN,eNil,Zb,Zx,ZF,eCB,lenD,minD,Z1,Zk,ZE,ZA,Zs,eSl,xP,xNoP,addD,subD,mulD,fdivD,modD,Zw,ixD,isD,eBM,ZL,ZQ,kind,plainKinds,ZS,ZU,Z3,ZW,ZX,ZY,Z4,ZZ,Z5,Z6,Z7,List.lookup,ZK,CMul,PySem.sizeLine_eq,List.replicate]
theorem ZeR{ms:List Nat}(M:Ms ms){mk:Nat}(hk:mk∈ms){ev at_:Int}(h0:1<=ev)(h6:ev<=6)(h1:0<=at_)(h2:at_<=ev-1):ZjJ [.obj "Turn" [] [],.str ms,.str [mk],.int ev,.int at_]=some (Zdw ms mk ev at_):=by
 have e1:=Qs M "Turn" rfl;have e2:=is_mark ms mk M.hi;have e3:=is_whole ev 1 6;have e4:=is_whole at_ 0 (ev-1);simp [ZjJ,ZjI,XU,UT,UU,e1,e2,hk,e3,e4,h0,h6,h1,h2,demand,Zdw,DL.run,DL.runI,Zf,sIf,Zn,Z2,sNext,Zi,Zy,ZG,ZO,sNever,xB,bD,Zu,ZC,xOr,Za,eC,eOp,ZH,eOr,ZP,eIf,Zz,ZD,ZM,ZR,eUn,ZN,eNil,Zb,Zx,ZF,eCB,lenD,minD,Z1,Zk,ZE,ZA,Zs,eSl,xP,xNoP,addD,subD,mulD,fdivD,modD,Zw,ixD,isD,eBM,ZL,ZQ,kind,plainKinds,ZS,ZU,Z3,ZW,ZX,ZY,Z4,ZZ,Z5,Z6,Z7,List.lookup,ZK,CMul,PySem.sizeLine_eq,List.replicate]
def Ze2(mk:Nat)(ev at_:Int)(r:List Nat)(c:Nat):Bool:=decide (c=mk) && !decide ((r.length:Int) % ev=at_)
theorem Zhu{ms:List Nat}(h4:ms.length<=4)(mk:Nat){ev at_:Int}(h0:1<=ev):Sg ms (Zdw ms mk ev at_) (λr => .int ((r.length:Int) % ev)) (Ze2 mk ev at_):=by
 refine Sg.of (mb:=XA) (bh:=U1) h4 (by decide) (by decide) rfl rfl rfl rfl rfl rfl rfl rfl rfl rfl ?_ (λr=>rfl) λr c hr hc => ?_
 · simp [XA,Qm,DL.run,DL.runI,Zf,sIf,Zn,Z2,sNext,Zi,Zy,ZG,ZO,sNever,xB,bD,Zu,ZC,xOr,Za,eC,eOp,ZH,eOr,ZP,eIf,Zz,ZD,ZM,ZR,eUn,ZN,eNil,Zb,Zx,ZF,eCB,lenD,minD,Z1,Zk,ZE,ZA,Zs,eSl,xP,xNoP,addD,subD,mulD,fdivD,modD,Zw,ixD,isD,eBM,ZL,ZQ,kind,plainKinds,ZS,ZU,Z3,ZW,ZX,ZY,Z4,ZZ,Z5,Z6,Z7,List.lookup,ZK,CMul,PySem.sizeLine_eq,List.replicate]
 · refine(Zcu (by omega) _ c).trans ?_
   congr 1
   have e1:((r.length:Int) % ev+1) % ev=(((r++[c]).length:Nat):Int) % ev:=by
    rw [List.length_append,List.length_singleton];exact Int.emod_add_emod _ _ _
   unfold Ze2
   by_cases h1:c=mk
   · by_cases h2:(r.length:Int) % ev=at_
     · rw [if_neg (λz=>z.2 h2),decide_eq_true h1,decide_eq_true h2,e1];rfl
     · rw [if_pos ⟨h1,h2⟩,decide_eq_true h1,decide_eq_false h2];rfl
   · rw [if_neg (λz=>h1 z.1),decide_eq_false h1,e1];rfl
abbrev ZhJ(ms:List Nat)(ws:List Int)(lo hi:Int):D := .obj "Sum" ["marks", "worths", "low", "high"] [.str ms,.tup (ws.map D.int),.int lo,.int hi]
abbrev Q4(ws:List Int)(lo hi:Int):D := .tup [.str [115,117,109],.tup (ws.map D.int),.int lo,.int hi]
def wor(ws:List Int)(ms:List Nat)(c:Nat):Int:=ws.getD (YM c ms).toNat 0
theorem Zgt{ws:List Int}{ms:List Nat}(hw:ws.length=ms.length){c:Nat}(hc:c∈ms):atI (ws.map D.int) (YM c ms)=some (.int (wor ws ms c)):=by
 obtain⟨i,a,_,hi⟩:=Zat hc;unfold wor;rw [a];refine Zbb ?_;have hi':i<ws.length:=by omega
 rw [List.getElem?_map,List.getElem?_eq_getElem hi',List.getD_eq_getElem?_getD];simp [hi']
def Znh(ws:List Int)(ms:List Nat):D->D
 | .str [c] => .int (wor ws ms c)
 |_ => .non
theorem ZfS{ws:List Int}{ms r:List Nat}{lo hi:Int}(hw:ws.length=ms.length)(hr:∀c∈r,c∈ms):Xh (Yd 0) (λ_=>some true) (eOp ixD (eOp ixD (Za 1) (eC (.int 1))) (eBM indexD (Za 2) (Zb (Za 0) eNil))) [none,some (Q4 ws lo hi),some (.str ms)] (r.map λc => .str [c])=some ((r.map (wor ws ms)).map D.int):=by
 rw [Vc (Znh ws ms)]
 · rw [List.map_map,List.map_map];rfl
 · intro x hx
   obtain⟨c,hc,rfl⟩:=List.mem_map.mp hx;exact⟨_,rfl,(Z0 (x:=.tup (ws.map D.int)) (y:=.int (YM c ms)) rfl (Zbw (hr c hc))).trans (Zgt hw (hr c hc))⟩
def tot(ws:List Int)(ms r:List Nat):Int:=(r.map (wor ws ms)).sum
theorem ZfT(ws:List Int)(ms r:List Nat)(c:Nat):tot ws ms (r++[c])=tot ws ms r+wor ws ms c:=by
 unfold tot;rw [List.map_append,List.sum_append];simp
theorem Zdr{ms:List Nat}{ws:List Int}(hw:ws.length=ms.length){lo hi:Int}(s:Int){c:Nat}(hc:c∈ms):U0 [ZhJ ms ws lo hi,.int s,.str [c]]=some (od (if lo<=s+wor ws ms c/\s+wor ws ms c<=hi then some (.int (s+wor ws ms c))else none)):=by
 have h1:=Zgt hw hc;have h2:=Zbw hc;generalize wor ws ms c=w at *;generalize YM c ms=f at *
 by_cases ha:lo<=s+w
 · by_cases hb:s+w<=hi
   · rw [if_pos ⟨ha,hb⟩,odS]
     simp [U0,QX,UY,fc_marks,UW,UV,h1,h2,ha,hb,DL.run,DL.runI,Zf,sIf,Zn,Z2,sNext,Zi,Zy,ZG,ZO,sNever,xB,bD,Zu,ZC,xOr,Za,eC,eOp,ZH,eOr,ZP,eIf,Zz,ZD,ZM,ZR,eUn,ZN,eNil,Zb,Zx,ZF,eCB,lenD,minD,Z1,Zk,ZE,ZA,Zs,eSl,xP,xNoP,addD,subD,mulD,fdivD,modD,Zw,ixD,isD,eBM,ZL,ZQ,kind,plainKinds,ZS,ZU,Z3,ZW,ZX,ZY,Z4,ZZ,Z5,Z6,Z7,List.lookup,ZK,CMul,PySem.sizeLine_eq,List.replicate]
   · rw [if_neg (λz=>hb z.2),odN]
     simp [U0,QX,UY,fc_marks,UW,UV,h1,h2,ha,hb,DL.run,DL.runI,Zf,sIf,Zn,Z2,sNext,Zi,Zy,ZG,ZO,sNever,xB,bD,Zu,ZC,xOr,Za,eC,eOp,ZH,eOr,ZP,eIf,Zz,ZD,ZM,ZR,eUn,ZN,eNil,Zb,Zx,ZF,eCB,lenD,minD,Z1,Zk,ZE,ZA,Zs,eSl,xP,xNoP,addD,subD,mulD,fdivD,modD,Zw,ixD,isD,eBM,ZL,ZQ,kind,plainKinds,ZS,ZU,Z3,ZW,ZX,ZY,Z4,ZZ,Z5,Z6,Z7,List.lookup,ZK,CMul,PySem.sizeLine_eq,List.replicate]
 · rw [if_neg (λz=>ha z.1),odN]
   simp [U0,QX,UY,fc_marks,UW,UV,h1,h2,ha,DL.run,DL.runI,Zf,sIf,Zn,Z2,sNext,Zi,Zy,ZG,ZO,sNever,xB,bD,Zu,ZC,xOr,Za,eC,eOp,ZH,eOr,ZP,eIf,Zz,ZD,ZM,ZR,eUn,ZN,eNil,Zb,Zx,ZF,eCB,lenD,minD,Z1,Zk,ZE,ZA,Zs,eSl,xP,xNoP,addD,subD,mulD,fdivD,modD,Zw,ixD,isD,eBM,ZL,ZQ,kind,plainKinds,ZS,ZU,Z3,ZW,ZX,ZY,Z4,ZZ,Z5,Z6,Z7,List.lookup,ZK,CMul,PySem.sizeLine_eq,List.replicate]
theorem ZdF{α:Type}(xs:List α):Vr (xs.map λ_=>D.bl true)=some (xs.map λ_=>true)/\(xs.map λ_=>true).all id=true:=by
 refine⟨?_,List.all_eq_true.mpr λb hb => ?_⟩
 · have:=Js (xs.map λ_=>true)
   rw [List.map_map]at this;exact this
 · obtain⟨_,_,rfl⟩:=List.mem_map.mp hb
   rfl
theorem ZfU{ms:List Nat}(M:Ms ms){ws:List Int}(hw:ws.length=ms.length)(h3:∀w∈ws,-3<=w/\w<=3){lo hi:Int}(h1 : -8<=lo)(h2:lo<=0)(h5:0<=hi)(h6:hi<=8):ZjH [.obj "Sum" [] [],.str ms,.tup (ws.map D.int),.int lo,.int hi]=some (ZhJ ms ws lo hi):=by
 have hr:=Qs M "Sum" rfl;have e3:=is_whole lo (-8) 0;have e4:=is_whole hi 0 8
 have hc:Xh (Yd 0) (λ_=>some true) (Zk 3 Vx [] (Zb (Za 0) (Zb (eUn ZN (eC (.int 3))) (Zb (eC (.int 3)) eNil)))) [none] (ws.map D.int)=some (ws.map λ_ => .bl true):=by
  rw [Vc (λ_ => .bl true)]
  · rw [List.map_map];rfl
  · intro x hx
    obtain⟨c,hcm,rfl⟩:=List.mem_map.mp hx;have e:=is_whole c (-3) 3;rw [decide_eq_true (h3 c hcm)]at e;exact⟨_,rfl,(Ys (Zl rfl (Zl rfl (Zl rfl nil_of))) rfl).trans e⟩
 obtain⟨hb,ha⟩:=ZdF ws;have hz:ms.length<=16777216:=by have:=M.hi;omega
 have hz2:ws.length<=16777216:=by omega
 have hq:(ws.length:Int)=ms.length:=by omega
 simp [ZjH,ZjG,UY,UW,UV,hr,demand,YJ,Yu,X1,hc,hb,ha,XH,hz,hz2,hw,hq,e3,e4,h1,h2,h5,h6,ZhJ,Vs,DL.run,DL.runI,Zf,sIf,Zn,Z2,sNext,Zi,Zy,ZG,ZO,sNever,xB,bD,Zu,ZC,xOr,Za,eC,eOp,ZH,eOr,ZP,eIf,Zz,ZD,ZM,ZR,eUn,ZN,eNil,Zb,Zx,ZF,eCB,lenD,minD,Z1,Zk,ZE,ZA,Zs,eSl,xP,xNoP,addD,subD,mulD,fdivD,modD,Zw,ixD,isD,eBM,ZL,ZQ,kind,plainKinds,ZS,ZU,Z3,ZW,ZX,ZY,Z4,ZZ,Z5,Z6,Z7,List.lookup,ZK,CMul,PySem.sizeLine_eq,List.replicate]
def ZkE(ws:List Int)(ms:List Nat)(lo hi:Int)(r:List Nat)(c:Nat):Bool:=decide (tot ws ms (r++[c])<lo)||decide (hi<tot ws ms (r++[c]))
theorem Zi0{ms:List Nat}(h4:ms.length<=4){ws:List Int}(hw:ws.length=ms.length){lo hi:Int}:Sg ms (ZhJ ms ws lo hi) (λr => .int (tot ws ms r)) (ZkE ws ms lo hi):=by
 refine Sg.of (mb:=XA) (bh:=U0) h4 (by decide) (by decide) rfl rfl rfl rfl rfl rfl rfl rfl rfl rfl ?_ (λr=>rfl) λr c hr hc => ?_
 · simp [XA,Qm,tot,DL.run,DL.runI,Zf,sIf,Zn,Z2,sNext,Zi,Zy,ZG,ZO,sNever,xB,bD,Zu,ZC,xOr,Za,eC,eOp,ZH,eOr,ZP,eIf,Zz,ZD,ZM,ZR,eUn,ZN,eNil,Zb,Zx,ZF,eCB,lenD,minD,Z1,Zk,ZE,ZA,Zs,eSl,xP,xNoP,addD,subD,mulD,fdivD,modD,Zw,ixD,isD,eBM,ZL,ZQ,kind,plainKinds,ZS,ZU,Z3,ZW,ZX,ZY,Z4,ZZ,Z5,Z6,Z7,List.lookup,ZK,CMul,PySem.sizeLine_eq,List.replicate]
 · refine(Zdr hw _ hc).trans ?_
   rw [<-ZfT];unfold ZkE;generalize tot ws ms (r++[c])=t
   by_cases h:lo<=t/\t<=hi
   · rw [if_pos h,decide_eq_false (by omega),decide_eq_false (by omega)];rfl
   · rw [if_neg h]
     by_cases h2:t<lo
     · rw [decide_eq_true h2];rfl
     · rw [decide_eq_false h2,decide_eq_true (show hi<t by omega)];rfl
abbrev Q5(ms:List Nat)(mo:Int):D := .obj "Alike" ["marks", "most"] [.str ms,.int mo]
theorem Zds{ms:List Nat}(M:Ms ms){mo:Int}(h0:1<=mo)(h6:mo<=6):ZjL [.obj "Alike" [] [],.str ms,.int mo]=some (Q5 ms mo):=by
 have e1:=Qs M "Alike" rfl;have e3:=is_whole mo 1 6;simp [ZjL,ZjK,Xz,e1,e3,h0,h6,demand,Q5,DL.run,DL.runI,Zf,sIf,Zn,Z2,sNext,Zi,Zy,ZG,ZO,sNever,xB,bD,Zu,ZC,xOr,Za,eC,eOp,ZH,eOr,ZP,eIf,Zz,ZD,ZM,ZR,eUn,ZN,eNil,Zb,Zx,ZF,eCB,lenD,minD,Z1,Zk,ZE,ZA,Zs,eSl,xP,xNoP,addD,subD,mulD,fdivD,modD,Zw,ixD,isD,eBM,ZL,ZQ,kind,plainKinds,ZS,ZU,Z3,ZW,ZX,ZY,Z4,ZZ,Z5,Z6,Z7,List.lookup,ZK,CMul,PySem.sizeLine_eq,List.replicate]
def Y4(c:Nat):List Nat->Nat
 | []=>0
 |d::r=>if d=c then Y4 c r+1 else 0
theorem Zi1(c d:Nat)(r:List Nat):Y4 c (d::r)=if d=c then Y4 c r+1 else 0:=rfl
theorem Zc4(c:Nat):∀(k:Nat)(l:List Nat),(List.replicate k c).isPrefixOf l=decide (k<=Y4 c l)
 |0,l=>by simp
 |k+1,[]=>by simp [Y4,List.replicate_succ]
 |k+1,d::l=>by
  rw [List.replicate_succ,List.isPrefixOf_cons₂,Zc4 c k l,Zi1]
  by_cases h:d=c
  · rw [if_pos h,h];simp
  · rw [if_neg h]
    have:(c == d)=false:=by simpa using λz=>h z.symm
    rw [this];simp
theorem ZfV(c k:Nat)(r:List Nat):(List.replicate k c).isSuffixOf r=decide (k<=Y4 c r.reverse):=by
 unfold List.isSuffixOf;rw [List.reverse_replicate,Zc4]
theorem Zb7{ms:List Nat}{mo f n:Int}{c:Nat}(hc:c∈ms):Ue [Q5 ms mo,.tup [.int f,.int n],.str [c]]=some (od (if(if YM c ms=f then n+1 else 1)<=mo then some (.tup [.int (YM c ms),.int (if YM c ms=f then n+1 else 1)])else none)):=by
 have h2:=Zbw hc;generalize YM c ms=g at *;have e0:atI [D.int f,.int n] 0=some (.int f):=rfl;have e1:atI [D.int f,.int n] 1=some (.int n):=rfl
 by_cases hf:g=f
 · rw [if_pos hf]
   by_cases hm:n+1<=mo
   · rw [if_pos hm,odS]
     simp [Ue,Qo,fc_marks,Xz,h2,e0,e1,hf,hm,DL.run,DL.runI,Zf,sIf,Zn,Z2,sNext,Zi,Zy,ZG,ZO,sNever,xB,bD,Zu,ZC,xOr,Za,eC,eOp,ZH,eOr,ZP,eIf,Zz,ZD,ZM,ZR,eUn,ZN,eNil,Zb,Zx,ZF,eCB,lenD,minD,Z1,Zk,ZE,ZA,Zs,eSl,xP,xNoP,addD,subD,mulD,fdivD,modD,Zw,ixD,isD,eBM,ZL,ZQ,kind,plainKinds,ZS,ZU,Z3,ZW,ZX,ZY,Z4,ZZ,Z5,Z6,Z7,List.lookup,ZK,CMul,PySem.sizeLine_eq,List.replicate]
   · rw [if_neg hm,odN]
     simp [Ue,Qo,fc_marks,Xz,h2,e0,e1,hf,hm,DL.run,DL.runI,Zf,sIf,Zn,Z2,sNext,Zi,Zy,ZG,ZO,sNever,xB,bD,Zu,ZC,xOr,Za,eC,eOp,ZH,eOr,ZP,eIf,Zz,ZD,ZM,ZR,eUn,ZN,eNil,Zb,Zx,ZF,eCB,lenD,minD,Z1,Zk,ZE,ZA,Zs,eSl,xP,xNoP,addD,subD,mulD,fdivD,modD,Zw,ixD,isD,eBM,ZL,ZQ,kind,plainKinds,ZS,ZU,Z3,ZW,ZX,ZY,Z4,ZZ,Z5,Z6,Z7,List.lookup,ZK,CMul,PySem.sizeLine_eq,List.replicate]
 · rw [if_neg hf]
   by_cases hm:1<=mo
   · rw [if_pos hm,odS]
     simp [Ue,Qo,fc_marks,Xz,h2,e0,e1,hf,hm,DL.run,DL.runI,Zf,sIf,Zn,Z2,sNext,Zi,Zy,ZG,ZO,sNever,xB,bD,Zu,ZC,xOr,Za,eC,eOp,ZH,eOr,ZP,eIf,Zz,ZD,ZM,ZR,eUn,ZN,eNil,Zb,Zx,ZF,eCB,lenD,minD,Z1,Zk,ZE,ZA,Zs,eSl,xP,xNoP,addD,subD,mulD,fdivD,modD,Zw,ixD,isD,eBM,ZL,ZQ,kind,plainKinds,ZS,ZU,Z3,ZW,ZX,ZY,Z4,ZZ,Z5,Z6,Z7,List.lookup,ZK,CMul,PySem.sizeLine_eq,List.replicate]
   · rw [if_neg hm,odN]
     simp [Ue,Qo,fc_marks,Xz,h2,e0,e1,hf,hm,DL.run,DL.runI,Zf,sIf,Zn,Z2,sNext,Zi,Zy,ZG,ZO,sNever,xB,bD,Zu,ZC,xOr,Za,eC,eOp,ZH,eOr,ZP,eIf,Zz,ZD,ZM,ZR,eUn,ZN,eNil,Zb,Zx,ZF,eCB,lenD,minD,Z1,Zk,ZE,ZA,Zs,eSl,xP,xNoP,addD,subD,mulD,fdivD,modD,Zw,ixD,isD,eBM,ZL,ZQ,kind,plainKinds,ZS,ZU,Z3,ZW,ZX,ZY,Z4,ZZ,Z5,Z6,Z7,List.lookup,ZK,CMul,PySem.sizeLine_eq,List.replicate]
def UA(ms r:List Nat):D:=match r.getLast? with
 |none => .tup [.int 0,.int 0]
 |some c => .tup [.int (YM c ms),.int (Y4 c r.reverse:Nat)]
def Q6(mo:Int)(r:List Nat)(c:Nat):Bool:=decide (mo<((Y4 c r.reverse+1:Nat):Int))
theorem Zcv(ms r:List Nat)(c:Nat):UA ms (r++[c]) = .tup [.int (YM c ms),.int ((Y4 c r.reverse+1:Nat):Int)]:=by
 unfold UA;rw [List.getLast?_concat,List.reverse_append]
 have:Y4 c ([c].reverse++r.reverse)=Y4 c r.reverse+1:=by
  show Y4 c (c::r.reverse)=_
  conv=>lhs;unfold Y4
  rw [if_pos rfl]
 dsimp only;rw [this]
theorem ZbY{ms r:List Nat}{mo:Int}{c:Nat}{f n:Int}(hc:c∈ms)(h:(if YM c ms=f then n+1 else 1)=((Y4 c r.reverse+1:Nat):Int)):Ue [Q5 ms mo,.tup [.int f,.int n],.str [c]]=some (if Q6 mo r c=true then .non else UA ms (r++[c])):=by
 rw [Zb7 hc,h,Zcv];unfold Q6
 by_cases hm:((Y4 c r.reverse+1:Nat):Int)<=mo
 · rw [if_pos hm,decide_eq_false (by omega)];rfl
 · rw [if_neg hm,decide_eq_true (by omega)];rfl
theorem ZfW{ms:List Nat}(h4:ms.length<=4)(mo:Int):Sg ms (Q5 ms mo) (UA ms) (Q6 mo):=by
 refine Sg.of (mb:=JQ) (bh:=Ue) h4 (by decide) (by decide) rfl rfl rfl rfl rfl rfl rfl rfl rfl rfl ?_ (λr=>by unfold UA;split<;>rfl) λr c hr hc => ?_
 · simp [JQ,ZjB,UA,DL.run,DL.runI,Zf,sIf,Zn,Z2,sNext,Zi,Zy,ZG,ZO,sNever,xB,bD,Zu,ZC,xOr,Za,eC,eOp,ZH,eOr,ZP,eIf,Zz,ZD,ZM,ZR,eUn,ZN,eNil,Zb,Zx,ZF,eCB,lenD,minD,Z1,Zk,ZE,ZA,Zs,eSl,xP,xNoP,addD,subD,mulD,fdivD,modD,Zw,ixD,isD,eBM,ZL,ZQ,kind,plainKinds,ZS,ZU,Z3,ZW,ZX,ZY,Z4,ZZ,Z5,Z6,Z7,List.lookup,ZK,CMul,PySem.sizeLine_eq,List.replicate]
 · by_cases hn:r=[]
   · subst hn
     exact ZbY hc (by split<;>rfl)
   · have hne:=List.getLast?_eq_some_getLast hn
     have hmem:r.getLast hn∈ms:=hr _ (List.getLast_mem hn);have er:=(List.dropLast_concat_getLast hn).symm;generalize r.getLast hn=z at *;have e:UA ms r = .tup [.int (YM z ms),.int (Y4 z r.reverse:Nat)]:=by unfold UA;rw [hne]
     rw [e];refine ZbY hc ?_
     by_cases hcz:c=z
     · subst hcz
       rw [if_pos rfl];rfl
     · rw [if_neg (λw=>hcz (ZeQ hc hmem w))]
       have:Y4 c r.reverse=0:=by
        rw [er,List.reverse_append];show Y4 c (z::_)=0;unfold Y4;rw [if_neg (λw=>hcz w.symm)]
       rw [this];rfl
abbrev ZbB(ms:List Nat):D := .obj "Rule" ["marks"] [.str ms]
theorem Zc5(ms:List Nat):Ob ms (ZbB ms) (λ_ => .int 0) (λ_ _=>false):=by
 refine Ob.of (mb:=XA) (bh:=JO) (by decide) rfl rfl rfl rfl rfl rfl ?_ (λr=>rfl) λr c hr hc => ?_
 · simp [XA,Qm,DL.run,DL.runI,Zf,sIf,Zn,Z2,sNext,Zi,Zy,ZG,ZO,sNever,xB,bD,Zu,ZC,xOr,Za,eC,eOp,ZH,eOr,ZP,eIf,Zz,ZD,ZM,ZR,eUn,ZN,eNil,Zb,Zx,ZF,eCB,lenD,minD,Z1,Zk,ZE,ZA,Zs,eSl,xP,xNoP,addD,subD,mulD,fdivD,modD,Zw,ixD,isD,eBM,ZL,ZQ,kind,plainKinds,ZS,ZU,Z3,ZW,ZX,ZY,Z4,ZZ,Z5,Z6,Z7,List.lookup,ZK,CMul,PySem.sizeLine_eq,List.replicate]
 · simp [JO,Zjx,DL.run,DL.runI,Zf,sIf,Zn,Z2,sNext,Zi,Zy,ZG,ZO,sNever,xB,bD,Zu,ZC,xOr,Za,eC,eOp,ZH,eOr,ZP,eIf,Zz,ZD,ZM,ZR,eUn,ZN,eNil,Zb,Zx,ZF,eCB,lenD,minD,Z1,Zk,ZE,ZA,Zs,eSl,xP,xNoP,addD,subD,mulD,fdivD,modD,Zw,ixD,isD,eBM,ZL,ZQ,kind,plainKinds,ZS,ZU,Z3,ZW,ZX,ZY,Z4,ZZ,Z5,Z6,Z7,List.lookup,ZK,CMul,PySem.sizeLine_eq,List.replicate]
end K06
namespace K06
open DL L2
theorem ZdG{γ:D->DL.Env->Option DL.Env}{φ:DL.Env->Option Out}{x d:D}{r:List D}{δ δ1:DL.Env}(h1:γ x δ=some δ1)(h2:φ δ1=some (.rt d)):YK γ φ (x::r) δ=some (.rt d):=by
 unfold YK;rw [h1];dsimp only;rw [h2]
theorem ZbC{γ:D->DL.Env->Option DL.Env}{φ:DL.Env->Option Out}{x:D}{r:List D}{δ δ1 δ2:DL.Env}(h1:γ x δ=some δ1)(h2:φ δ1=some (.nx δ2)):YK γ φ (x::r) δ=YK γ φ r δ2:=by
 conv=>lhs;unfold YK
 rw [h1];dsimp only;rw [h2]
theorem Zi2{γ:D->DL.Env->Option DL.Env}{φ:DL.Env->Option Out}{x:D}{r:List D}{δ δ1 δ2:DL.Env}(h1:γ x δ=some δ1)(h2:φ δ1=some (.bk δ2)):YK γ φ (x::r) δ=some (.nx δ2):=by
 unfold YK;rw [h1];dsimp only;rw [h2]
theorem ZmF{γ:D->DL.Env->Option DL.Env}{φ:DL.Env->Option Out}{χ:DL.Env->Option String}{x:D}{r:List D}{δ δ1:DL.Env}{c:String}(h1:γ x δ=some δ1)(h2:χ δ1=some c):Xm γ φ χ (x::r) δ=some c:=by
 unfold Xm;rw [h1];dsimp only;rw [h2]
theorem Zi3{γ:D->DL.Env->Option DL.Env}{φ:DL.Env->Option Out}{χ:DL.Env->Option String}{x:D}{r:List D}{δ δ1 δ2:DL.Env}(h1:γ x δ=some δ1)(h2:χ δ1=none)(h3:φ δ1=some (.nx δ2)):Xm γ φ χ (x::r) δ=Xm γ φ χ r δ2:=by
 conv=>lhs;unfold Xm
 rw [h1];dsimp only;rw [h2];dsimp only;rw [h3]
theorem Zi4{γ:D->DL.Env->Option DL.Env}{φ:DL.Env->Option Out}{χ:DL.Env->Option String}{x d:D}{r:List D}{δ δ1:DL.Env}(h1:γ x δ=some δ1)(h2:χ δ1=none)(h3:φ δ1=some (.rt d)):Xm γ φ χ (x::r) δ=none:=by
 unfold Xm;rw [h1];dsimp only;rw [h2];dsimp only;rw [h3]
theorem ZaQ{χ ψ:DL.Env->Option String}{φ:DL.Env->Option Out}{δ:DL.Env}{c:String}(h:χ δ=some c):XT χ φ ψ δ=some c:=by
 unfold XT;rw [h]
theorem Qt{χ ψ:DL.Env->Option String}{φ:DL.Env->Option Out}{δ δ1:DL.Env}(h:χ δ=none)(h2:φ δ=some (.nx δ1)):XT χ φ ψ δ=ψ δ1:=by
 unfold XT;rw [h];dsimp only;rw [h2]
theorem Zd8{χ ψ:DL.Env->Option String}{φ:DL.Env->Option Out}{δ:DL.Env}{d:D}(h:χ δ=none)(h2:φ δ=some (.rt d)):XT χ φ ψ δ=none:=by
 unfold XT;rw [h];dsimp only;rw [h2]
theorem Zhv{τ:DL.Env->Option Bool}{χ ψ:DL.Env->Option String}{δ:DL.Env}(h:τ δ=some true):xIf τ χ ψ δ=χ δ:=by unfold xIf;rw [h]
theorem Zi5{τ:DL.Env->Option Bool}{χ ψ:DL.Env->Option String}{δ:DL.Env}(h:τ δ=some false):xIf τ χ ψ δ=ψ δ:=by unfold xIf;rw [h]
theorem Zbf{ι:DL.Env->Option (List D)}{γ:D->DL.Env->Option DL.Env}{φ:DL.Env->Option Out}{χ:DL.Env->Option String}{δ:DL.Env}{xs:List D}(h:ι δ=some xs):QQ ι γ φ χ δ=Xm γ φ χ xs δ:=by unfold QQ;rw [h]
theorem X6{e:DL.Env->Option D}{δ:DL.Env}{d:D}(h:e δ=some d):Zz e δ=some (.bl (ZM d)):=by
 unfold Zz;rw [h]
theorem UB{e:DL.Env->Option D}{δ:DL.Env}{d:D}(h:e δ=some d):ZD e δ=some (.bl (!ZM d)):=by
 unfold ZD;rw [h]
structure Bad(ms w:List Nat):Prop where
 nm:XV [.str ms,.str w]=some (.bl false)
 ln:w.length<=1000
 cd:w.all (λc=>decide (c<65536))=true
theorem ZfX{w:List Nat}(hl:w.length<=1000)(hall:w.all (λc=>decide (c<65536))=true){δ:DL.Env}(h:Za 2 δ=some (.str w)):JA "BadMark" (Zb (QP [(Qg UO (Za 2)),(eC (.str [32,105,115,32,110,111,32,109,97,114,107]))]) eNil) δ=some "BadMark" := by
 have hrl:=ZcT w hall
 have e1:Qg UO (Za 2) δ=some (.str (VM w)):=by
  unfold Qg;rw [h];show UO (.str w)=_;unfold UO;dsimp only;rw [if_pos ⟨hl,hall⟩]
 generalize VM w=s at e1 hrl
 have e2:∃t,QP [(Qg UO (Za 2)),(eC (.str [32,105,115,32,110,111,32,109,97,114,107]))] δ=some t:=by
  refine⟨.str (([]++s)++[32,105,115,32,110,111,32,109,97,114,107]),?_⟩;unfold QP xJs;rw [e1];dsimp only;rw [if_pos (by rw [List.nil_append,PySem.sizeLine_eq];omega)];unfold xJs
  show(match(if(([]++s)++[32,105,115,32,110,111,32,109,97,114,107]).length<=PySem.sizeLine then xJs [] (([]++s)++[32,105,115,32,110,111,32,109,97,114,107]) _ else none)with
   |some cs=>some (D.str cs)
   |none=>none)=_
  rw [if_pos (by rw [List.nil_append,List.length_append,PySem.sizeLine_eq];show s.length+11<=_;omega)];rfl
 obtain⟨t,e2⟩:=e2;unfold JA;rw [Zl e2 nil_of];rfl
noncomputable def brW(B:List Nat->Nat->Bool):List Nat->List Nat->Option Nat
 |_,[]=>none
 |r,c::t=>if B r c=true then some r.length else brW B (r++[c]) t
theorem VV(B:List Nat->Nat->Bool)(r:List Nat)(c:Nat)(t:List Nat):brW B r (c::t)=if B r c=true then some r.length else brW B (r++[c]) t:=rfl
theorem Zc6(B:List Nat->Nat->Bool):∀(t r:List Nat)(c:Nat),brW B r (t++[c])=(match brW B r t with
 |some j=>some j
 |none=>if B (r++t) c=true then some (r++t).length else none)
 | [],r,c=>by rw [List.nil_append,VV,List.append_nil];rfl
 |d::t,r,c=>by
  rw [List.cons_append,VV,VV]
  by_cases h:B r d=true
  · rw [if_pos h,if_pos h]
  · rw [if_neg h,if_neg h,Zc6 B t (r++[d]) c,List.append_assoc]
    rfl
theorem ZdH(B:List Nat->Nat->Bool):∀(t r:List Nat)(j:Nat),brW B r t=some j->r.length<=j/\j<r.length+t.length
 | [],r,j,h=>by cases h
 |c::t,r,j,h=>by
  rw [VV]at h
  split at h
  · cases h;rw [List.length_cons];omega
  · have:=ZdH B t (r++[c]) j h
    rw [List.length_append,List.length_singleton]at this;rw [List.length_cons];omega
theorem Zd9(B:List Nat->Nat->Bool):∀(t u r:List Nat),brW B r (t++u)=(match brW B r t with
 |some j=>some j
 |none=>brW B (r++t) u)
 | [],u,r=>by rw [List.nil_append,List.append_nil];rfl
 |c::t,u,r=>by
  rw [List.cons_append,VV,VV]
  by_cases h:B r c=true
  · rw [if_pos h,if_pos h]
  · rw [if_neg h,if_neg h,Zd9 B t u (r++[c]),List.append_assoc]
    rfl
theorem Zbx(B:List Nat->Nat->Bool)(row:List Nat)(n:Nat):brW B [] (row.take n)=match brW B [] row with
 |some j=>if j<n then some j else none
 |none=>none:=by
 have h:=Zd9 B (row.take n) (row.drop n) [];rw [List.take_append_drop]at h;rw [h];cases ht:brW B [] (row.take n)with
 |some j=>
  have:=(ZdH B _ _ j ht).2;rw [List.length_take,List.length_nil]at this;dsimp only;rw [if_pos (by omega)]
 |none=>
  dsimp only;cases hd:brW B ([]++row.take n) (row.drop n)with
  |none=>rfl
  |some j=>
   have:=(ZdH B _ _ j hd)
   rw [List.nil_append,List.length_take,List.length_drop]at this;dsimp only;rw [if_neg (by omega)]
section
variable{ms:List Nat}{o:D}{S:List Nat->D}{B:List Nat->Nat->Bool}
theorem Zea{w:List Nat}{b:Bool}(O:Ob ms o S B)(hm:XV [.str ms,.str w]=some (.bl b))(s:D):Zu (xB (Zk 2 XV [] (Zb (Zs fc_marks "marks" (Za 0)) (Zb (Za 2) eNil)))) [some o,some s,some (.str w)]=some (!b):=
 VN (Yj ((Ys (Zl (O.fm rfl) (Zl rfl nil_of)) rfl).trans hm))
theorem Ob.step(O:Ob ms o S B)(h4:ms.length<=4){r:List Nat}{c:Nat}(hr:∀x∈r,x∈ms)(hc:c∈ms):U5 tab_step "step" o [S r,.str [c]]=some (if B r c=true then .non else S (r++[c]))/\Uy tab_step "step" o [S r,.str [c]]=none:=by
 have e:=is_mark ms c h4;rw [decide_eq_true hc]at e;have t:=Zea O e (S r);obtain⟨h1,h2⟩:=O.tb [S r,.str [c]] rfl;rw [h1,h2];exact⟨YB rfl ((Zt ((YE t).trans rfl)).trans (YY ((U4 rfl (Zl rfl (Zl rfl nil_of))).trans (O.bh r c hr hc)))),Qt ((Zi5 t).trans rfl) ((YE t).trans rfl)⟩
theorem Ob.bad(O:Ob ms o S B){w:List Nat}(hw:Bad ms w)(s:D):Uy tab_step "step" o [s,.str w]=some "BadMark" := by
 rw [(O.tb [s,.str w] rfl).2];exact ZaQ ((Zhv (Zea O hw.nm s)).trans (ZfX hw.ln hw.cd rfl))
noncomputable def ldB:DL.Env->Option Out:=(Zf (Zi 2 (Xw "step" tab_step (Za 0) (Zb (Za 2) (Zb (Za 4) eNil)))) (sIf (xB (Zz (Za 2))) (Zn (Za 3)) sNext))
noncomputable def ldX:DL.Env->Option String:=(XT (Vu "step" tab_step (Za 0) (Zb (Za 2) (Zb (Za 4) eNil))) (Zi 2 (Xw "step" tab_step (Za 0) (Zb (Za 2) (Zb (Za 4) eNil)))) xNever)
theorem ZgR:ZjC=(Zf (Zi 2 (ZA "begin" tab_begin (Za 0) eNil)) (Zf (YN (UM 0 (Za 1)) (YX 2 (Yr 3 (Yr 4 gsNil))) ldB) (Zn (eC .non)))):=rfl
theorem Ze3:ZjD=(XT xNever (Zi 2 (ZA "begin" tab_begin (Za 0) eNil)) (XT (QQ (UM 0 (Za 1)) (YX 2 (Yr 3 (Yr 4 gsNil))) ldB ldX) (YN (UM 0 (Za 1)) (YX 2 (Yr 3 (Yr 4 gsNil))) ldB) xNever)):=rfl
theorem Qu(O:Ob ms o S B)(h4:ms.length<=4)(x1:Option D)(qs:List D):∀(t r:List Nat)(v3 v4:Option D),(∀x∈r,x∈ms)->(∀x∈t,x∈ms) ->
 (∀j,brW B r t=some j->YK (YX 2 (Yr 3 (Yr 4 gsNil))) ldB (Xi r.length ((t.map λc => .str [c])++qs)) [some o,x1,some (S r),v3,v4]=some (.rt (.int (j:Nat)))/\Xm (YX 2 (Yr 3 (Yr 4 gsNil))) ldB ldX (Xi r.length ((t.map λc => .str [c])++qs)) [some o,x1,some (S r),v3,v4]=none) /\
 (brW B r t=none->∃w3 w4,YK (YX 2 (Yr 3 (Yr 4 gsNil))) ldB (Xi r.length ((t.map λc => .str [c])++qs)) [some o,x1,some (S r),v3,v4]=YK (YX 2 (Yr 3 (Yr 4 gsNil))) ldB (Xi (r++t).length qs) [some o,x1,some (S (r++t)),w3,w4]/\Xm (YX 2 (Yr 3 (Yr 4 gsNil))) ldB ldX (Xi r.length ((t.map λc => .str [c])++qs)) [some o,x1,some (S r),v3,v4]=Xm (YX 2 (Yr 3 (Yr 4 gsNil))) ldB ldX (Xi (r++t).length qs) [some o,x1,some (S (r++t)),w3,w4])
 | [],r,v3,v4,_,_=>⟨λj h=>(by cases h),λ_=>⟨v3,v4,by rw [List.append_nil];exact⟨rfl,rfl⟩⟩⟩
 |c::t,r,v3,v4,hr,ht=>by
  have hc:=ht c List.mem_cons_self;obtain⟨h1,h2⟩:=O.step h4 hr hc;have g:YX 2 (Yr 3 (Yr 4 gsNil)) (.tup [.int (r.length:Nat),.str [c]]) [some o,x1,some (S r),v3,v4]=some [some o,x1,some (S r),some (.int (r.length:Nat)),some (.str [c])]:=rfl;have a1:Zi 2 (Xw "step" tab_step (Za 0) (Zb (Za 2) (Zb (Za 4) eNil))) [some o,x1,some (S r),some (.int (r.length:Nat)),some (.str [c])]=some (.nx [some o,x1,some (if B r c=true then .non else S (r++[c])),some (.int (r.length:Nat)),some (.str [c])]):=Yi ((Zap rfl (Zl rfl (Zl rfl nil_of))).trans h1)
  have x0:ldX [some o,x1,some (S r),some (.int (r.length:Nat)),some (.str [c])]=none:=(Qt ((Uz rfl (Zl rfl (Zl rfl nil_of))).trans h2) a1).trans rfl;have b1:ldB [some o,x1,some (S r),some (.int (r.length:Nat)),some (.str [c])]=sIf (xB (Zz (Za 2))) (Zn (Za 3)) sNext [some o,x1,some (if B r c=true then .non else S (r++[c])),some (.int (r.length:Nat)),some (.str [c])]:=Zt a1
  rw [VV,List.map_cons,List.cons_append,Xi]
  by_cases hb:B r c=true
  · rw [if_pos hb]at b1 ⊢
    have b2:=b1.trans ((Vf (Yj (X6 (d:=.non) rfl))).trans (YY (d:=.int (r.length:Nat)) rfl));refine⟨λj hj => ?_,λhj=>by cases hj⟩;cases hj;exact⟨ZdG g b2,Zi4 g x0 b2⟩
  · rw [if_neg hb]at b1 ⊢
    have b2:=b1.trans ((YE (Yj (by rw [X6 (d:=S (r++[c])) rfl,O.vn]))).trans (show sNext _=some (.nx _)from rfl));have e1:=ZbC (r:=Xi (r.length+1) ((t.map λc => .str [c])++qs)) g b2;have e2:=Zi3 (r:=Xi (r.length+1) ((t.map λc => .str [c])++qs)) g x0 b2;rw [e1,e2]
    have ih:=Qu O h4 x1 qs t (r++[c]) (some (.int (r.length:Nat))) (some (.str [c])) (λx hx=>by
     rcases List.mem_append.mp hx with h|h
     · exact hr x h
     · rw [List.mem_singleton.mp h];exact hc) λx hx=>ht x (List.mem_cons_of_mem _ hx)
    rw [List.length_append,List.length_singleton,List.append_assoc]at ih;exact ih
theorem Zgu(O:Ob ms o S B)(w:D):Zi 2 (ZA "begin" tab_begin (Za 0) eNil) [some o,some w,none,none,none]=some (.nx [some o,some w,some (S []),none,none]):=Yi ((U4 rfl nil_of).trans O.bg)
theorem ZeS(O:Ob ms o S B)(h4:ms.length<=4){row:List Nat}(h:∀x∈row,x∈ms):XW [o,.str row]=some (oz (brW B [] row))/\Xn [o,.str row]=none:=by
 obtain⟨l1,l2⟩:=Qu O h4 (some (.str row)) [] row [] none none (λx hx=>by cases hx) h;rw [List.append_nil]at l1 l2;have a1:=Zgu O (.str row);cases hb:brW B [] row with
 |some j=>
  obtain⟨e1,e2⟩:=l1 j hb;exact⟨YB rfl ((congrFun ZgR _).trans ((Zt a1).trans (Ve (Xx rfl e1)))),(congrFun Ze3 _).trans ((Qt rfl a1).trans (Zd8 ((Zbf rfl).trans e2) (Xx rfl e1)))⟩
 |none=>
  obtain⟨w3,w4,e1,e2⟩:=l2 hb;exact⟨YB rfl ((congrFun ZgR _).trans ((Zt a1).trans ((Zt (Xx rfl (e1.trans rfl))).trans rfl))),(congrFun Ze3 _).trans ((Qt rfl a1).trans ((Qt ((Zbf rfl).trans (e2.trans rfl)) (Xx rfl (e1.trans rfl))).trans rfl))⟩
theorem Zdt(O:Ob ms o S B)(h4:ms.length<=4){p q:List Nat}{z:Nat}(h:∀x∈p,x∈ms)(hz:Bad ms [z]):(∀j,brW B [] p=some j->XW [o,.str (p++z::q)]=some (.int (j:Nat))/\Xn [o,.str (p++z::q)]=none)/\(brW B [] p=none->Xn [o,.str (p++z::q)]=some "BadMark"):=by
 obtain⟨l1,l2⟩:=Qu O h4 (some (.str (p++z::q))) ((z::q).map λc => .str [c]) p [] none none (λx hx=>by cases hx) h;rw [<-List.map_append]at l1 l2;have a1:=Zgu O (.str (p++z::q));refine⟨λj hb => ?_,λhb => ?_⟩
 · obtain⟨e1,e2⟩:=l1 j hb
   exact⟨YB rfl ((congrFun ZgR _).trans ((Zt a1).trans (Ve (Xx rfl e1)))),(congrFun Ze3 _).trans ((Qt rfl a1).trans (Zd8 ((Zbf rfl).trans e2) (Xx rfl e1)))⟩
 · obtain⟨w3,w4,e1,e2⟩:=l2 hb
   refine(congrFun Ze3 _).trans ((Qt rfl a1).trans (ZaQ ((Zbf rfl).trans (e2.trans ?_))));rw [List.map_cons,Xi];exact ZmF rfl (ZaQ ((Uz rfl (Zl rfl (Zl rfl nil_of))).trans (O.bad hz _)))
theorem Zc7(O:Ob ms o S B){w:D}{d:D}(h:XW [o,w]=some d)(hx:Xn [o,w]=none):Vh [o,w]=some (.bl (ZM d))/\XX [o,w]=none:=
 ⟨YB rfl (YY (X6 ((Zap rfl (Zl rfl nil_of)).trans ((O.br [w] rfl).1.trans h)))),show Vu "broken_at" tab_broken_at (Za 0) (Zb (Za 1) eNil) [some o,some w]=_ from(Uz rfl (Zl rfl nil_of)).trans ((O.br [w] rfl).2.trans hx)⟩
theorem ZeT (O:Ob ms o S B) {w:D} (hx:Xn [o,w]=some "BadMark"):XX [o,w]=some "BadMark" := show Vu "broken_at" tab_broken_at (Za 0) (Zb (Za 1) eNil) [some o,some w]=_ from(Uz rfl (Zl rfl nil_of)).trans ((O.br [w] rfl).2.trans hx)
end
end K06
namespace K06
open DL L2
def Uf(mk:Nat)(lo:Int)(mo:Option Int):D := .tup [.str [103,97,112],.str [mk],.int lo,Uw mo]
def Zlg(wd:List Nat):D := .tup [.str [110,101,118,101,114],.str wd]
def Q7(mk:Nat)(ev at_:Int):D := .tup [.str [116,117,114,110],.str [mk],.int ev,.int at_]
def ZbD(mo:Int):D := .tup [.str [97,108,105,107,101],.int mo]
inductive Ru(ms:List Nat):D->D->(List Nat->D)->(List Nat->Nat->Bool)->Prop
 |gap (mk:Nat) (lo:Int) (mo:Option Int) (h1:mk∈ms) (h2:0<=lo) (h3:lo<=8) (h4:∀m,mo=some m->lo<=m/\m<=8):Ru ms (Uf mk lo mo) (K06.gap ms mk lo mo) (ZhI mk lo mo) (ZkC mk lo mo)
 |never (wd:List Nat) (h1:1<=wd.length) (h2:wd.length<=6) (h3:∀c∈wd,c∈ms):Ru ms (Zlg wd) (nev ms wd) (λr => .int (lps wd r:Nat)) (λr c=>wd.isSuffixOf (r++[c]))
 |sum (ws:List Int) (lo hi:Int) (h1:ws.length=ms.length) (h2:∀w∈ws,-3<=w/\w<=3) (h3 : -8<=lo) (h4:lo<=0) (h5:0<=hi) (h6:hi<=8):Ru ms (Q4 ws lo hi) (ZhJ ms ws lo hi) (λr => .int (tot ws ms r)) (ZkE ws ms lo hi)
 |turn (mk:Nat) (ev at_:Int) (h1:mk∈ms) (h2:1<=ev) (h3:ev<=6) (h4:0<=at_) (h5:at_<=ev-1):Ru ms (Q7 mk ev at_) (Zdw ms mk ev at_) (λr => .int ((r.length:Int) % ev)) (Ze2 mk ev at_)
 |alike (mo:Int) (h1:1<=mo) (h2:mo<=6):Ru ms (ZbD mo) (Q5 ms mo) (UA ms) (Q6 mo)
section
variable{ms:List Nat}{d o:D}{S:List Nat->D}{B:List Nat->Nat->Bool}
theorem Ru.sg(h4:ms.length<=4)(h:Ru ms d o S B):Sg ms o S B:=by
 cases h with
 |gap mk lo mo h1 h2=>exact ZiX h4 mk h2 mo
 |never wd h1 h2=>exact ZiZ h4 h1 h2
 |sum ws lo hi h1=>exact Zi0 h4 h1
 |turn mk ev at_ h1 h2=>exact Zhu h4 mk h2
 |alike mo=>exact ZfW h4 mo
theorem Zcj(M:Ms ms)(h:Ru ms d o S B):XN [.str ms,d]=some o:=by
 cases h with
 |gap mk lo mo h1 h2 h3 h4=>
  have e:=ZfO M h1 h2 h3 mo h4;have e0:∀x:D,atI [D.str [103,97,112],.str [mk],.int lo,x] 0=some (.str [103,97,112]):=λ_=>rfl
  have e1:∀x:D,atI [D.str [103,97,112],.str [mk],.int lo,x] 1=some (.str [mk]):=λ_=>rfl
  have e2:∀x:D,atI [D.str [103,97,112],.str [mk],.int lo,x] 2=some (.int lo):=λ_=>rfl
  have e3:∀x:D,atI [D.str [103,97,112],.str [mk],.int lo,x] 3=some x:=λ_=>rfl
  cases mo with
  |none=>rw [Vj]at e;simp [XN,Ut,Uf,e0,e1,e2,e3,e,Vj,DL.run,DL.runI,Zf,sIf,Zn,Z2,sNext,Zi,Zy,ZG,ZO,sNever,xB,bD,Zu,ZC,xOr,Za,eC,eOp,ZH,eOr,ZP,eIf,Zz,ZD,ZM,ZR,eUn,ZN,eNil,Zb,Zx,ZF,eCB,lenD,minD,Z1,Zk,ZE,ZA,Zs,eSl,xP,xNoP,addD,subD,mulD,fdivD,modD,Zw,ixD,isD,eBM,ZL,ZQ,kind,plainKinds,ZS,ZU,Z3,ZW,ZX,ZY,Z4,ZZ,Z5,Z6,Z7,List.lookup,ZK,CMul,PySem.sizeLine_eq,List.replicate]
  |some m=>rw [XC]at e;simp [XN,Ut,Uf,e0,e1,e2,e3,e,XC,DL.run,DL.runI,Zf,sIf,Zn,Z2,sNext,Zi,Zy,ZG,ZO,sNever,xB,bD,Zu,ZC,xOr,Za,eC,eOp,ZH,eOr,ZP,eIf,Zz,ZD,ZM,ZR,eUn,ZN,eNil,Zb,Zx,ZF,eCB,lenD,minD,Z1,Zk,ZE,ZA,Zs,eSl,xP,xNoP,addD,subD,mulD,fdivD,modD,Zw,ixD,isD,eBM,ZL,ZQ,kind,plainKinds,ZS,ZU,Z3,ZW,ZX,ZY,Z4,ZZ,Z5,Z6,Z7,List.lookup,ZK,CMul,PySem.sizeLine_eq,List.replicate]
 |never wd h1 h2 h3=>
  have e:=Zdq M h1 h2 h3;have e0:atI [D.str [110,101,118,101,114],.str wd] 0=some (.str [110,101,118,101,114]):=rfl;have e1:atI [D.str [110,101,118,101,114],.str wd] 1=some (.str wd):=rfl;simp [XN,Ut,Zlg,e0,e1,e,DL.run,DL.runI,Zf,sIf,Zn,Z2,sNext,Zi,Zy,ZG,ZO,sNever,xB,bD,Zu,ZC,xOr,Za,eC,eOp,ZH,eOr,ZP,eIf,Zz,ZD,ZM,ZR,eUn,ZN,eNil,Zb,Zx,ZF,eCB,lenD,minD,Z1,Zk,ZE,ZA,Zs,eSl,xP,xNoP,addD,subD,mulD,fdivD,modD,Zw,ixD,isD,eBM,ZL,ZQ,kind,plainKinds,ZS,ZU,Z3,ZW,ZX,ZY,Z4,ZZ,Z5,Z6,Z7,List.lookup,ZK,CMul,PySem.sizeLine_eq,List.replicate]
 |sum ws lo hi h1 h2 h3 h4 h5 h6=>
  have e:=ZfU M h1 h2 h3 h4 h5 h6;have e0:atI [D.str [115,117,109],.tup (ws.map D.int),.int lo,.int hi] 0=some (.str [115,117,109]):=rfl;have e1:atI [D.str [115,117,109],.tup (ws.map D.int),.int lo,.int hi] 1=some (.tup (ws.map D.int)):=rfl;have e2:atI [D.str [115,117,109],.tup (ws.map D.int),.int lo,.int hi] 2=some (.int lo):=rfl;have e3:atI [D.str [115,117,109],.tup (ws.map D.int),.int lo,.int hi] 3=some (.int hi):=rfl
  simp [XN,Ut,e0,e1,e2,e3,e,DL.run,DL.runI,Zf,sIf,Zn,Z2,sNext,Zi,Zy,ZG,ZO,sNever,xB,bD,Zu,ZC,xOr,Za,eC,eOp,ZH,eOr,ZP,eIf,Zz,ZD,ZM,ZR,eUn,ZN,eNil,Zb,Zx,ZF,eCB,lenD,minD,Z1,Zk,ZE,ZA,Zs,eSl,xP,xNoP,addD,subD,mulD,fdivD,modD,Zw,ixD,isD,eBM,ZL,ZQ,kind,plainKinds,ZS,ZU,Z3,ZW,ZX,ZY,Z4,ZZ,Z5,Z6,Z7,List.lookup,ZK,CMul,PySem.sizeLine_eq,List.replicate]
 |turn mk ev at_ h1 h2 h3 h4 h5=>
  have e:=ZeR M h1 h2 h3 h4 h5;have e0:atI [D.str [116,117,114,110],.str [mk],.int ev,.int at_] 0=some (.str [116,117,114,110]):=rfl;have e1:atI [D.str [116,117,114,110],.str [mk],.int ev,.int at_] 1=some (.str [mk]):=rfl;have e2:atI [D.str [116,117,114,110],.str [mk],.int ev,.int at_] 2=some (.int ev):=rfl;have e3:atI [D.str [116,117,114,110],.str [mk],.int ev,.int at_] 3=some (.int at_):=rfl
  simp [XN,Ut,Q7,e0,e1,e2,e3,e,DL.run,DL.runI,Zf,sIf,Zn,Z2,sNext,Zi,Zy,ZG,ZO,sNever,xB,bD,Zu,ZC,xOr,Za,eC,eOp,ZH,eOr,ZP,eIf,Zz,ZD,ZM,ZR,eUn,ZN,eNil,Zb,Zx,ZF,eCB,lenD,minD,Z1,Zk,ZE,ZA,Zs,eSl,xP,xNoP,addD,subD,mulD,fdivD,modD,Zw,ixD,isD,eBM,ZL,ZQ,kind,plainKinds,ZS,ZU,Z3,ZW,ZX,ZY,Z4,ZZ,Z5,Z6,Z7,List.lookup,ZK,CMul,PySem.sizeLine_eq,List.replicate]
 |alike mo h1 h2=>
  have e:=Zds M h1 h2;have e0:atI [D.str [97,108,105,107,101],.int mo] 0=some (.str [97,108,105,107,101]):=rfl;have e1:atI [D.str [97,108,105,107,101],.int mo] 1=some (.int mo):=rfl;simp [XN,Ut,ZbD,e0,e1,e,DL.run,DL.runI,Zf,sIf,Zn,Z2,sNext,Zi,Zy,ZG,ZO,sNever,xB,bD,Zu,ZC,xOr,Za,eC,eOp,ZH,eOr,ZP,eIf,Zz,ZD,ZM,ZR,eUn,ZN,eNil,Zb,Zx,ZF,eCB,lenD,minD,Z1,Zk,ZE,ZA,Zs,eSl,xP,xNoP,addD,subD,mulD,fdivD,modD,Zw,ixD,isD,eBM,ZL,ZQ,kind,plainKinds,ZS,ZU,Z3,ZW,ZX,ZY,Z4,ZZ,Z5,Z6,Z7,List.lookup,ZK,CMul,PySem.sizeLine_eq,List.replicate]
theorem ZeU(mk:Nat)(lo:Int)(x:D)(row:List Nat)(hl:row.length<=1000):ZjR [.tup [.str [103,97,112],.str [mk],.int lo,x],.str row]=some (.int (oth mk lo row)):=by
 have e1:atI [D.str [103,97,112],.str [mk],.int lo,x] 1=some (.str [mk]):=rfl;have e2:atI [D.str [103,97,112],.str [mk],.int lo,x] 2=some (.int lo):=rfl;have hz:row.length<=16777216:=by omega
 unfold oth
 by_cases h:Xd mk row<0<;>simp [ZjR,ZjQ,rfindD,e1,e2,h,hz,DL.run,DL.runI,Zf,sIf,Zn,Z2,sNext,Zi,Zy,ZG,ZO,sNever,xB,bD,Zu,ZC,xOr,Za,eC,eOp,ZH,eOr,ZP,eIf,Zz,ZD,ZM,ZR,eUn,ZN,eNil,Zb,Zx,ZF,eCB,lenD,minD,Z1,Zk,ZE,ZA,Zs,eSl,xP,xNoP,addD,subD,mulD,fdivD,modD,Zw,ixD,isD,eBM,ZL,ZQ,kind,plainKinds,ZS,ZU,Z3,ZW,ZX,ZY,Z4,ZZ,Z5,Z6,Z7,List.lookup,ZK,CMul,PySem.sizeLine_eq,List.replicate]
theorem ZfY{ws:List Int}{lo hi:Int}(hw:ws.length=ms.length){row:List Nat}(hr:∀c∈row,c∈ms)(hl:row.length<=1000):Zk6 [.str ms,Q4 ws lo hi,.str row]=some (.int (row.map (wor ws ms)).sum):=by
 refine YB rfl (YY ((Xy (Zl (Ur rfl rfl (ZfS hw hr) (by rw [List.length_map,List.length_map];omega)) nil_of)).trans ?_));unfold sumLD;dsimp only;rw [ZeF]
theorem Zhw(r:List Nat)(c:Nat):atI (r++[c]) (-1)=some c:=Zfe r c
theorem ZfZ(c:Nat)(n:Nat):UI [c] ((n:Int)+1)=List.replicate (n+1) c:=by
 unfold UI;rw [show((n:Int)+1).toNat=n+1 by omega]
 have:∀k,(List.replicate k [c]).flatten=List.replicate k c:=by
  intro k
  induction k with
  |zero=>rfl
  |succ k ih=>rw [List.replicate_succ,List.flatten_cons,ih,List.replicate_succ];rfl
 exact this _
theorem ZaR(h:Ru ms d o S B){r:List Nat}{c:Nat}(hr:∀x∈r++[c],x∈ms)(hl:r.length<=200):Xj [.str ms,d,.str (r++[c])]=some (.bl (B r c)):=by
 have hz:r.length+1<=16777216:=by omega
 have hz':r.length<=16777215:=by omega
 have hat:=Zhw r c;cases h with
 |gap mk lo mo h1 h2 h3 h4=>
  have hcut:=ZfJ r c;have hi:=ZeU mk lo (Uw mo) r (by omega);unfold ZkC;generalize oth mk lo r=i at hi ⊢;have e0:∀x:D,atI [D.str [103,97,112],.str [mk],.int lo,x] 0=some (.str [103,97,112]):=λ_=>rfl
  have e1:∀x:D,atI [D.str [103,97,112],.str [mk],.int lo,x] 1=some (.str [mk]):=λ_=>rfl
  have e2:∀x:D,atI [D.str [103,97,112],.str [mk],.int lo,x] 2=some (.int lo):=λ_=>rfl
  have e3:∀x:D,atI [D.str [103,97,112],.str [mk],.int lo,x] 3=some x:=λ_=>rfl
  by_cases hc:c=mk
  · subst hc
    rw [if_pos rfl];cases mo with
    |none=>rw [Vj]at hi;simp [Xj,Vi,Uf,slD,hcut,e0,e1,e2,e3,hi,hat,hz,hz',Vj,DL.run,DL.runI,Zf,sIf,Zn,Z2,sNext,Zi,Zy,ZG,ZO,sNever,xB,bD,Zu,ZC,xOr,Za,eC,eOp,ZH,eOr,ZP,eIf,Zz,ZD,ZM,ZR,eUn,ZN,eNil,Zb,Zx,ZF,eCB,lenD,minD,Z1,Zk,ZE,ZA,Zs,eSl,xP,xNoP,addD,subD,mulD,fdivD,modD,Zw,ixD,isD,eBM,ZL,ZQ,kind,plainKinds,ZS,ZU,Z3,ZW,ZX,ZY,Z4,ZZ,Z5,Z6,Z7,List.lookup,ZK,CMul,PySem.sizeLine_eq,List.replicate]
    |some m=>rw [XC]at hi;simp [Xj,Vi,Uf,slD,hcut,e0,e1,e2,e3,hi,hat,hz,hz',XC,DL.run,DL.runI,Zf,sIf,Zn,Z2,sNext,Zi,Zy,ZG,ZO,sNever,xB,bD,Zu,ZC,xOr,Za,eC,eOp,ZH,eOr,ZP,eIf,Zz,ZD,ZM,ZR,eUn,ZN,eNil,Zb,Zx,ZF,eCB,lenD,minD,Z1,Zk,ZE,ZA,Zs,eSl,xP,xNoP,addD,subD,mulD,fdivD,modD,Zw,ixD,isD,eBM,ZL,ZQ,kind,plainKinds,ZS,ZU,Z3,ZW,ZX,ZY,Z4,ZZ,Z5,Z6,Z7,List.lookup,ZK,CMul,PySem.sizeLine_eq,List.replicate]
  · rw [if_neg hc]
    cases mo with
    |none=>
     rw [Vj]at hi;simp [Xj,Vi,Uf,slD,hcut,e0,e1,e2,e3,hi,hat,hc,hz,hz',Vj,DL.run,DL.runI,Zf,sIf,Zn,Z2,sNext,Zi,Zy,ZG,ZO,sNever,xB,bD,Zu,ZC,xOr,Za,eC,eOp,ZH,eOr,ZP,eIf,Zz,ZD,ZM,ZR,eUn,ZN,eNil,Zb,Zx,ZF,eCB,lenD,minD,Z1,Zk,ZE,ZA,Zs,eSl,xP,xNoP,addD,subD,mulD,fdivD,modD,Zw,ixD,isD,eBM,ZL,ZQ,kind,plainKinds,ZS,ZU,Z3,ZW,ZX,ZY,Z4,ZZ,Z5,Z6,Z7,List.lookup,ZK,CMul,PySem.sizeLine_eq,List.replicate]
    |some m=>
     rw [XC]at hi;simp [Xj,Vi,Uf,slD,hcut,e0,e1,e2,e3,hi,hat,hc,hz,hz',XC,DL.run,DL.runI,Zf,sIf,Zn,Z2,sNext,Zi,Zy,ZG,ZO,sNever,xB,bD,Zu,ZC,xOr,Za,eC,eOp,ZH,eOr,ZP,eIf,Zz,ZD,ZM,ZR,eUn,ZN,eNil,Zb,Zx,ZF,eCB,lenD,minD,Z1,Zk,ZE,ZA,Zs,eSl,xP,xNoP,addD,subD,mulD,fdivD,modD,Zw,ixD,isD,eBM,ZL,ZQ,kind,plainKinds,ZS,ZU,Z3,ZW,ZX,ZY,Z4,ZZ,Z5,Z6,Z7,List.lookup,ZK,CMul,PySem.sizeLine_eq,List.replicate]
 |never wd h1 h2 h3=>
  have e0:atI [D.str [110,101,118,101,114],.str wd] 0=some (.str [110,101,118,101,114]):=rfl;have e1:atI [D.str [110,101,118,101,114],.str wd] 1=some (.str wd):=rfl;simp [Xj,Vi,Zlg,endsD,e0,e1,DL.run,DL.runI,Zf,sIf,Zn,Z2,sNext,Zi,Zy,ZG,ZO,sNever,xB,bD,Zu,ZC,xOr,Za,eC,eOp,ZH,eOr,ZP,eIf,Zz,ZD,ZM,ZR,eUn,ZN,eNil,Zb,Zx,ZF,eCB,lenD,minD,Z1,Zk,ZE,ZA,Zs,eSl,xP,xNoP,addD,subD,mulD,fdivD,modD,Zw,ixD,isD,eBM,ZL,ZQ,kind,plainKinds,ZS,ZU,Z3,ZW,ZX,ZY,Z4,ZZ,Z5,Z6,Z7,List.lookup,ZK,CMul,PySem.sizeLine_eq,List.replicate]
 |sum ws lo hi h1 h2 h3 h4 h5 h6=>
  have ht:=ZfY (lo:=lo) (hi:=hi) h1 hr (by rw [List.length_append,List.length_singleton];omega);unfold ZkE tot;generalize ((r++[c]).map (wor ws ms)).sum=t at ht ⊢;have e0:atI [D.str [115,117,109],.tup (ws.map D.int),.int lo,.int hi] 0=some (.str [115,117,109]):=rfl;have e2:atI [D.str [115,117,109],.tup (ws.map D.int),.int lo,.int hi] 2=some (.int lo):=rfl;have e3:atI [D.str [115,117,109],.tup (ws.map D.int),.int lo,.int hi] 3=some (.int hi):=rfl
  simp only [Q4]at ht
  by_cases h:t<lo
  · simp [Xj,Vi,e0,e2,e3,ht,h,DL.run,DL.runI,Zf,sIf,Zn,Z2,sNext,Zi,Zy,ZG,ZO,sNever,xB,bD,Zu,ZC,xOr,Za,eC,eOp,ZH,eOr,ZP,eIf,Zz,ZD,ZM,ZR,eUn,ZN,eNil,Zb,Zx,ZF,eCB,lenD,minD,Z1,Zk,ZE,ZA,Zs,eSl,xP,xNoP,addD,subD,mulD,fdivD,modD,Zw,ixD,isD,eBM,ZL,ZQ,kind,plainKinds,ZS,ZU,Z3,ZW,ZX,ZY,Z4,ZZ,Z5,Z6,Z7,List.lookup,ZK,CMul,PySem.sizeLine_eq,List.replicate]
  · simp [Xj,Vi,e0,e2,e3,ht,h,DL.run,DL.runI,Zf,sIf,Zn,Z2,sNext,Zi,Zy,ZG,ZO,sNever,xB,bD,Zu,ZC,xOr,Za,eC,eOp,ZH,eOr,ZP,eIf,Zz,ZD,ZM,ZR,eUn,ZN,eNil,Zb,Zx,ZF,eCB,lenD,minD,Z1,Zk,ZE,ZA,Zs,eSl,xP,xNoP,addD,subD,mulD,fdivD,modD,Zw,ixD,isD,eBM,ZL,ZQ,kind,plainKinds,ZS,ZU,Z3,ZW,ZX,ZY,Z4,ZZ,Z5,Z6,Z7,List.lookup,ZK,CMul,PySem.sizeLine_eq,List.replicate]
 |turn mk ev at_ h1 h2 h3 h4 h5=>
  have e0:atI [D.str [116,117,114,110],.str [mk],.int ev,.int at_] 0=some (.str [116,117,114,110]):=rfl;have e1:atI [D.str [116,117,114,110],.str [mk],.int ev,.int at_] 1=some (.str [mk]):=rfl;have e2:atI [D.str [116,117,114,110],.str [mk],.int ev,.int at_] 2=some (.int ev):=rfl;have e3:atI [D.str [116,117,114,110],.str [mk],.int ev,.int at_] 3=some (.int at_):=rfl
  have h0:0<ev:=by omega
  unfold Ze2
  by_cases hc:c=mk
  · subst hc
    simp [Xj,Vi,Q7,e0,e1,e2,e3,hat,hz,hz',h0,DL.run,DL.runI,Zf,sIf,Zn,Z2,sNext,Zi,Zy,ZG,ZO,sNever,xB,bD,Zu,ZC,xOr,Za,eC,eOp,ZH,eOr,ZP,eIf,Zz,ZD,ZM,ZR,eUn,ZN,eNil,Zb,Zx,ZF,eCB,lenD,minD,Z1,Zk,ZE,ZA,Zs,eSl,xP,xNoP,addD,subD,mulD,fdivD,modD,Zw,ixD,isD,eBM,ZL,ZQ,kind,plainKinds,ZS,ZU,Z3,ZW,ZX,ZY,Z4,ZZ,Z5,Z6,Z7,List.lookup,ZK,CMul,PySem.sizeLine_eq,List.replicate]
  · simp [Xj,Vi,Q7,e0,e1,e2,e3,hat,hc,hz,hz',DL.run,DL.runI,Zf,sIf,Zn,Z2,sNext,Zi,Zy,ZG,ZO,sNever,xB,bD,Zu,ZC,xOr,Za,eC,eOp,ZH,eOr,ZP,eIf,Zz,ZD,ZM,ZR,eUn,ZN,eNil,Zb,Zx,ZF,eCB,lenD,minD,Z1,Zk,ZE,ZA,Zs,eSl,xP,xNoP,addD,subD,mulD,fdivD,modD,Zw,ixD,isD,eBM,ZL,ZQ,kind,plainKinds,ZS,ZU,Z3,ZW,ZX,ZY,Z4,ZZ,Z5,Z6,Z7,List.lookup,ZK,CMul,PySem.sizeLine_eq,List.replicate]
 |alike mo h1 h2=>
  have e0:atI [D.str [97,108,105,107,101],.int mo] 0=some (.str [97,108,105,107,101]):=rfl;have e1:atI [D.str [97,108,105,107,101],.int mo] 1=some (.int mo):=rfl;have g1:mo+1<9223372036854775808:=by omega
  have g2 : -9223372036854775808<=mo+1:=by omega
  have g3:(mo+1).toNat<=16777216:=by omega
  have eb:Q6 mo r c=(UI [c] (mo+1)).isSuffixOf (r++[c]):=by
   obtain⟨n,rfl⟩:=ZcB (show 0<=mo by omega)
   have el:Y4 c (r++[c]).reverse=Y4 c r.reverse+1:=by
    rw [List.reverse_append];show Y4 c (c::r.reverse)=_
    conv=>lhs;unfold Y4
    rw [if_pos rfl]
   rw [ZfZ,ZfV,el];unfold Q6;exact decide_eq_decide.mpr (by omega)
  rw [eb];simp [Xj,Vi,ZbD,endsD,e0,e1,hat,hz,hz',g1,g2,g3,DL.run,DL.runI,Zf,sIf,Zn,Z2,sNext,Zi,Zy,ZG,ZO,sNever,xB,bD,Zu,ZC,xOr,Za,eC,eOp,ZH,eOr,ZP,eIf,Zz,ZD,ZM,ZR,eUn,ZN,eNil,Zb,Zx,ZF,eCB,lenD,minD,Z1,Zk,ZE,ZA,Zs,eSl,xP,xNoP,addD,subD,mulD,fdivD,modD,Zw,ixD,isD,eBM,ZL,ZQ,kind,plainKinds,ZS,ZU,Z3,ZW,ZX,ZY,Z4,ZZ,Z5,Z6,Z7,List.lookup,ZK,CMul,PySem.sizeLine_eq,List.replicate]
end
end K06
namespace K06
open DL L2
structure Rc where
 d:D
 o:D
 S:List Nat->D
 B:List Nat->Nat->Bool
abbrev Vy(ms:List Nat)(os:List D):D := .obj "All" ["marks", "rules"] [.str ms,.tup os]
def Xb(qs:List Rc)(r:List Nat)(c:Nat):Bool:=qs.any λq=>q.B r c
def ZhK(qs:List Rc)(r:List Nat):D := .tup (qs.map λq=>q.S r)
noncomputable def abB:DL.Env->Option Out:=(Zf (Zi 6 (ZA "step" tab_step0 (Za 4) (Zb (Za 5) (Zb (Za 2) eNil))))
 (Zf (sIf (xB (Zz (Za 6))) (Zn (eC .non)) sNext)
 (UK 3 (Za 6))))
theorem Zik:Zjz=(Zf (Zi 3 (Zx eNil))
 (Zf (YN (JG (Zs UX "rules" (Za 0)) (Za 1)) (YX 2 (Yr 4 (Yr 5 gsNil))) abB)
 (Zn (eCB Vs (Zb (Za 3) eNil))))):=rfl
section
variable{ms:List Nat}
theorem Zeb{r:List Nat}{c:Nat}(hr:∀x∈r,x∈ms)(hc:c∈ms)(x0 x1:Option D):∀(qs:List Rc)(acc:List D)(v4 v5 v6:Option D),(∀q∈qs,Sg ms q.o q.S q.B)->acc.length+qs.length<=1000 ->
 (Xb qs r c=true->YK (YX 2 (Yr 4 (Yr 5 gsNil))) abB (X2 (qs.map λq=>q.o) (qs.map λq=>q.S r)) [x0,x1,some (.str [c]),some (.lst acc),v4,v5,v6]=some (.rt .non)) /\
 (Xb qs r c=false->∃w4 w5 w6,YK (YX 2 (Yr 4 (Yr 5 gsNil))) abB (X2 (qs.map λq=>q.o) (qs.map λq=>q.S r)) [x0,x1,some (.str [c]),some (.lst acc),v4,v5,v6]=some (.nx [x0,x1,some (.str [c]),some (.lst (acc++qs.map λq=>q.S (r++[c]))),w4,w5,w6]))
 | [],acc,v4,v5,v6,_,_=>⟨λh=>(by cases h),λ_=>⟨v4,v5,v6,by rw [List.map_nil,List.map_nil,List.map_nil,List.append_nil];rfl⟩⟩
 |q::qs,acc,v4,v5,v6,h,hl=>by
  have Q:=h q List.mem_cons_self;have n0:=Q.s0 r c hr hc;have g:YX 2 (Yr 4 (Yr 5 gsNil)) (.tup [q.o,q.S r]) [x0,x1,some (.str [c]),some (.lst acc),v4,v5,v6]=some [x0,x1,some (.str [c]),some (.lst acc),some q.o,some (q.S r),v6]:=rfl;rw [List.length_cons]at hl;show((q.B r c||Xb qs r c)=true->_)/\((q.B r c||Xb qs r c)=false->_)
  cases hn:q.B r c with
  |true=>
   rw [hn,if_pos rfl]at n0;have a1:Zi 6 (ZA "step" tab_step0 (Za 4) (Zb (Za 5) (Zb (Za 2) eNil))) [x0,x1,some (.str [c]),some (.lst acc),some q.o,some (q.S r),v6]=some (.nx [x0,x1,some (.str [c]),some (.lst acc),some q.o,some (q.S r),some .non]):=Yi ((U4 rfl (Zl rfl (Zl rfl nil_of))).trans n0);exact⟨λ_=>ZdG g ((Zt a1).trans (Ve ((Vf (Yj (X6 (d:=.non) rfl))).trans rfl))),λz=>by cases z⟩
  |false=>
   rw [hn,if_neg Bool.false_ne_true]at n0;have a1:Zi 6 (ZA "step" tab_step0 (Za 4) (Zb (Za 5) (Zb (Za 2) eNil))) [x0,x1,some (.str [c]),some (.lst acc),some q.o,some (q.S r),v6]=some (.nx [x0,x1,some (.str [c]),some (.lst acc),some q.o,some (q.S r),some (q.S (r++[c]))]):=Yi ((U4 rfl (Zl rfl (Zl rfl nil_of))).trans n0);rw [Bool.false_or];have e:=ZbC (φ:=abB) (r:=X2 (qs.map λq=>q.o) (qs.map λq=>q.S r)) g ((Zt a1).trans ((Zt ((YE (Yj (by rw [X6 (d:=q.S (r++[c])) rfl,Q.ob.vn]))).trans (show sNext _=some (.nx _)from rfl))).trans (Zgr (i:=3) (d:=q.S (r++[c])) rfl rfl (by omega))))
   obtain⟨i1,i2⟩:=Zeb hr hc x0 x1 qs (acc++[q.S (r++[c])]) (some q.o) (some (q.S r)) (some (q.S (r++[c]))) (λx hx=>h x (List.mem_cons_of_mem _ hx)) (by rw [List.length_append,List.length_singleton];omega);refine⟨λz=>e.trans (i1 z),λz => ?_⟩;obtain⟨w4,w5,w6,z⟩:=i2 z;exact⟨w4,w5,w6,(e.trans z).trans (by rw [List.append_assoc];rfl)⟩
theorem Zgv{qs:List Rc}(h:∀q∈qs,Sg ms q.o q.S q.B)(hl:qs.length<=100):Ob ms (Vy ms (qs.map λq=>q.o)) (ZhK qs) (Xb qs):=by
 refine Ob.of (mb:=Zk2) (bh:=ZkY) (by decide) rfl rfl rfl rfl rfl rfl ?_ (λr=>rfl) λr c hr hc => ?_
 · refine YB rfl (YY ((Xy (Zl (Ur (xs:=qs.map λq=>q.o) (ys:=qs.map λq=>q.S []) rfl rfl ?_ (by rw [List.length_map];omega)) nil_of)).trans rfl))
   have:=Vc (γ:=Yd 0) (ε:=ZA "begin" tab_begin0 (Za 0) eNil) (δ0:=[none]) (λo=>(VR tab_begin0 "begin" o []).getD .non) (qs.map λq=>q.o) λx hx=>by
    obtain⟨q,hq,rfl⟩:=List.mem_map.mp hx;exact⟨_,rfl,(U4 rfl nil_of).trans (by rw [(h q hq).b0];rfl)⟩
   refine this.trans ?_;rw [List.map_map]
   congr 1
   refine List.map_congr_left λq hq => ?_
   show(VR tab_begin0 "begin" q.o []).getD .non=_;rw [(h q hq).b0];rfl
 · obtain⟨i1,i2⟩:=Zeb hr hc (some (Vy ms (qs.map λq=>q.o))) (some (ZhK qs r)) qs [] none none none h (by simp;omega)
   have a1:Zi 3 (Zx eNil) [some (Vy ms (qs.map λq=>q.o)),some (ZhK qs r),some (.str [c]),none,none,none,none]=some (.nx [some (Vy ms (qs.map λq=>q.o)),some (ZhK qs r),some (.str [c]),some (.lst []),none,none,none]):=Yi (UR nil_of (by decide));have ei:JG (Zs UX "rules" (Za 0)) (Za 1) [some (Vy ms (qs.map λq=>q.o)),some (ZhK qs r),some (.str [c]),some (.lst []),none,none,none]=some (X2 (qs.map λq=>q.o) (qs.map λq=>q.S r)):=rfl
   cases hb:Xb qs r c with
   |true=>
    rw [if_pos rfl];exact YB rfl ((congrFun Zik _).trans ((Zt a1).trans (Ve (Xx ei (i1 hb)))))
   |false=>
    rw [if_neg Bool.false_ne_true];obtain⟨w4,w5,w6,e⟩:=i2 hb;exact YB rfl ((congrFun Zik _).trans ((Zt a1).trans ((Zt (Xx ei e)).trans (YY ((Xy (Zl rfl nil_of)).trans rfl)))))
end
theorem Zhx{e:DL.Env->Option D}{δ:DL.Env}{d:D}(h:e δ=some d):Zy e δ=some (.nx δ):=by
 unfold Zy;rw [h]
theorem Zhy{e:DL.Env->Option D}{δ:DL.Env}{b:Bool}(h:e δ=some (.bl b)):ZP e δ=some (.bl (!b)):=by
 unfold ZP;rw [h]
theorem Zf0{ms:List Nat}(M:Ms ms){os:List D}(h:∀o∈os,∃S B,Sg ms o S B)(hl:os.length<=6):ZjM [.obj "All" [] [],.str ms,.lst os]=some (Vy ms os):=by
 have hr:=Qs M "All" rfl
 have b1:ZO 0 2 X4 [] (Zb (Za 1) eNil) [some (.obj "All" [] []),some (.str ms),some (.lst os)]=some (.nx [some (.obj "All" ["marks"] [.str ms]),some (.str ms),some (.lst os)]):=by
  simp [hr,DL.run,DL.runI,Zf,sIf,Zn,Z2,sNext,Zi,Zy,ZG,ZO,sNever,xB,bD,Zu,ZC,xOr,Za,eC,eOp,ZH,eOr,ZP,eIf,Zz,ZD,ZM,ZR,eUn,ZN,eNil,Zb,Zx,ZF,eCB,lenD,minD,Z1,Zk,ZE,ZA,Zs,eSl,xP,xNoP,addD,subD,mulD,fdivD,modD,Zw,ixD,isD,eBM,ZL,ZQ,kind,plainKinds,ZS,ZU,Z3,ZW,ZX,ZY,Z4,ZZ,Z5,Z6,Z7,List.lookup,ZK,CMul,PySem.sizeLine_eq,List.replicate]
 have d1:eOp (Zw λi j=>decide (i<=j)) (eCB lenD (Zb (Za 2) eNil)) (eC (.int 6)) [some (.obj "All" ["marks"] [.str ms]),some (.str ms),some (.lst os)]=some (.bl true):=by
  refine(Z0 ((Xy (Zl rfl nil_of)).trans Zd6) rfl).trans ?_;show some (D.bl (decide ((os.length:Int)<=6)))=_;rw [decide_eq_true (by omega)]
 have d2:ZP (eCB (XH λbs=>bs.any id) (Zb (YJ (Yu (Za 2)) (Yd 0) (λ_=>some true) (ZL it_All (Za 0)) 1 []) eNil)) [some (.obj "All" ["marks"] [.str ms]),some (.str ms),some (.lst os)]=some (.bl true):=by
  refine Zhy (b:=false) ((Xy (Zl (Ur (xs:=os) (ys:=os.map λ_=>D.bl false) rfl rfl ?_ (by rw [List.length_map];omega)) nil_of)).trans ?_)
  · exact Vc (λ_ => .bl false) os λx hx=>⟨_,rfl,ZiV rfl (let⟨_,_,q⟩:=h x hx;q.al)⟩
  unfold XH;dsimp only;have e:=Js (os.map λ_=>false);rw [List.map_map]at e;rw [show(os.map λ_=>D.bl false)=os.map (D.bl∘λ_=>false)from rfl,e];dsimp only
  congr 2
  rw [List.any_eq_false];intro b hb;obtain⟨_,_,rfl⟩:=List.mem_map.mp hb;exact Bool.false_ne_true
 have d3:eCB (XH λbs=>bs.all id) (Zb (YJ (Yu (Za 2)) (Yd 0) (λ_=>some true) (eOp eqD (Zs fc_marks "marks" (Za 0)) (Za 1)) 1 [1]) eNil) [some (.obj "All" ["marks"] [.str ms]),some (.str ms),some (.lst os)]=some (.bl true):=by
  refine(Xy (Zl (Ur (xs:=os) (ys:=os.map λ_=>D.bl true) rfl rfl ?_ (by rw [List.length_map];omega)) nil_of)).trans ?_
  · exact Vc (λ_ => .bl true) os λx hx=>⟨_,rfl,(Z0 (let⟨_,_,q⟩:=h x hx;q.ob.fm rfl) rfl).trans ((ZU _ _).trans (by rw [decide_eq_true rfl]))⟩
  unfold XH;dsimp only;rw [(ZdF os).1];dsimp only;rw [(ZdF os).2]
 have dm:∀{e:DL.Env->Option D}{w:List Nat}{δ:DL.Env},e δ=some (.bl true)->Zy (Zk 2 Xe [] (Zb e (Zb (eC (.str w)) eNil))) δ=some (.nx δ):=λ{e w δ} he=>Zhx ((Ys (Zl he (Zl rfl nil_of)) rfl).trans (demand w))
 have hf:JR [some (.obj "All" [] []),some (.str ms),some (.lst os)]=some (.nx [some (Vy ms os),some (.str ms),some (.lst os)]):=(Zt b1).trans ((Zt (dm d1)).trans ((Zt (dm d2)).trans ((Zt (dm d3)).trans (by simp [UX,Vs,Vy,DL.run,DL.runI,Zf,sIf,Zn,Z2,sNext,Zi,Zy,ZG,ZO,sNever,xB,bD,Zu,ZC,xOr,Za,eC,eOp,ZH,eOr,ZP,eIf,Zz,ZD,ZM,ZR,eUn,ZN,eNil,Zb,Zx,ZF,eCB,lenD,minD,Z1,Zk,ZE,ZA,Zs,eSl,xP,xNoP,addD,subD,mulD,fdivD,modD,Zw,ixD,isD,eBM,ZL,ZQ,kind,plainKinds,ZS,ZU,Z3,ZW,ZX,ZY,Z4,ZZ,Z5,Z6,Z7,List.lookup,ZK,CMul,PySem.sizeLine_eq,List.replicate]))))
 show(match JR [some (.obj "All" [] []),some (.str ms),some (.lst os)]with|some (.nx δ)=>Za 0 δ|_=>none)=_;rw [hf];rfl
noncomputable def wE:DL.Env->Option D:=(eOp ixD (Za 1) (eOp modD (eOp fdivD (Za 2) (eOp ixD (Zx (Zb (eC (.int 1)) (Zb (eC (.int 3)) (Zb (eC (.int 7)) (Zb (eC (.int 11)) (Zb (eC (.int 17)) (Zb (eC (.int 23)) eNil))))))) (Za 0))) (eCB lenD (Zb (Za 1) eNil))))
def prm:List Int:=[1,3,7,11,17,23]
def wF(ms:List Nat)(one:Int)(k:Nat):Nat:=(atI ms (one / prm.getD k 1 % ms.length)).getD 0
theorem Zi6:∀k:Fin 6,0<prm.getD k.val 1/\prm.getD k.val 1<30:=by decide
theorem Zil{ms:List Nat}(h2:2<=ms.length)(h4:ms.length<=4)(one:Int)(k:Nat)(hk:k<6):wE [some (.int (k:Nat)),some (.str ms),some (.int one)]=some (.str [wF ms one k])/\wF ms one k∈ms:=by
 obtain⟨p1,p2⟩:=Zi6 ⟨k,hk⟩;dsimp only at p1 p2;obtain⟨z,h5,h6⟩:=ZcD (ms:=ms) (by omega) (one / prm.getD k 1);have e:wF ms one k=z:=by unfold wF;rw [h5];rfl
 rw [e];refine⟨?_,h6⟩
 have hp:ixD (.lst (prm.map D.int)) (.int (k:Int))=some (.int (prm.getD k 1)):=by
  refine US ?_;rw [List.getElem?_map,List.getD_eq_getElem?_getD,List.getElem?_eq_getElem (show k<prm.length from hk)];rfl
 exact(Z0 rfl ((Z0 ((Z0 (x:=.int one) rfl ((Z0 (UR (Zl rfl (Zl rfl (Zl rfl (Zl rfl (Zl rfl (Zl rfl nil_of)))))) (by decide)) rfl).trans hp)).trans (UQ ⟨p1,by omega⟩)) ((Xy (Zl rfl nil_of)).trans (len_str (by omega)))).trans (Vd (by omega)))).trans (JJ (by rw [PySem.sizeLine_eq];omega) h5)
def wD(ms:List Nat)(one:Int):D->D
 | .int k => .str [wF ms one k.toNat]
 |_ => .non
theorem Zi7{ms:List Nat}(h2:2<=ms.length)(h4:ms.length<=4)(one:Int)(n:Nat)(hn:n<=6):Xh (Yd 0) (λ_=>some true) wE [none,some (.str ms),some (.int one)] (YA 0 1 n)=some ((List.range n).map λk => .str [wF ms one k]):=by
 rw [Vc (wD ms one)]
 · unfold YA
   rw [List.map_map]
   congr 1
   refine List.map_congr_left λk _ => ?_
   have e:(0+(k:Int)*1)=k:=by omega
   show wD ms one (.int (0+(k:Int)*1))=_;rw [e];rfl
 · intro x hx
   obtain⟨i,hi,rfl⟩:=Zbt hx;have e:(0+(i:Int)*1)=i:=by omega
   rw [e];exact⟨_,rfl,(Zil h2 h4 one i (by omega)).1⟩
theorem Zhz:∃A0 A2 A3 A4,ZjS=Zf (Zi 5 (eOp ixD (Za 0) (eOp modD (Za 2) (eCB lenD (Zb (Za 0) eNil)))))
 (Zf (sIf (xB (eOp eqD (eOp modD (Za 1) (eC (.int 5))) (eC (.int 0)))) A0 sNext)
 (Zf (sIf (xB (eOp eqD (eOp modD (Za 1) (eC (.int 5))) (eC (.int 1)))) (Zf (Zi 7 (eOp addD (eC (.int 1)) (eOp modD (Za 3) (eC (.int 6)))))
   (Zn (ZF (Zb (eC (.str [110,101,118,101,114])) (Zb (eBM joinD (eC (.str [])) (Zb (YJ (Xg (Zb (Za 7) eNil)) (Yd 0) (λ_=>some true) wE 1 [0,2]) eNil)) eNil))))) sNext)
 (Zf (sIf (xB (eOp eqD (eOp modD (Za 1) (eC (.int 5))) (eC (.int 2)))) A2 sNext)
 (Zf (sIf (xB (eOp eqD (eOp modD (Za 1) (eC (.int 5))) (eC (.int 3)))) A3 sNext) A4)))) /\
 (∀(ms:List Nat)(k o t u:Int)(mk:Nat),∃lo mo,0<=lo/\lo<=8/\(∀m,mo=some m->lo<=m/\m<=8)/\A0 [some (.str ms),some (.int k),some (.int o),some (.int t),some (.int u),some (.str [mk]),none,none,none,none]=some (.rt (Uf mk lo mo))) /\
 (∀(ms:List Nat)(k o t u:Int)(mk:Nat),2<=ms.length->ms.length<=4->∃ws lo hi,ws.length=ms.length/\(∀w∈ws,-3<=w/\w<=3) /\ -8<=lo/\lo<=0/\0<=hi/\hi<=8/\A2 [some (.str ms),some (.int k),some (.int o),some (.int t),some (.int u),some (.str [mk]),none,none,none,none]=some (.rt (Q4 ws lo hi))) /\
 (∀(ms:List Nat)(k o t u:Int)(mk:Nat),∃ev at_,1<=ev/\ev<=6/\0<=at_/\at_<=ev-1/\A3 [some (.str ms),some (.int k),some (.int o),some (.int t),some (.int u),some (.str [mk]),none,none,none,none]=some (.rt (Q7 mk ev at_))) /\
 (∀(ms:List Nat)(k o t u:Int)(mk:Nat),∃mo,1<=mo/\mo<=6/\A4 [some (.str ms),some (.int k),some (.int o),some (.int t),some (.int u),some (.str [mk]),none,none,none,none]=some (.rt (ZbD mo))):=by
 refine⟨_,_,_,_,rfl,λms k o t u mk => ?_,λms k o t u mk h2 h4 => ?_,λms k o t u mk => ?_,λms k o t u mk => ?_⟩
 · obtain ⟨lo, l1, l2, l3⟩ : ∃ lo : Int, 0 <= lo /\ lo <= 8 /\ atI [D.int (t % 3), .int (t % 9)] (u % 2) = some (.int lo) := by
    rcases(show u % 2=0\/u % 2=1 by omega)with e|e
    · exact⟨t % 3,by omega,by omega,by rw [e];rfl⟩
    · exact⟨t % 9,by omega,by omega,by rw [e];rfl⟩
   have d2:ZK u 2:=⟨by omega,by omega⟩
   have d6:ZK u 6:=⟨by omega,by omega⟩
   by_cases hu:u / 2 % 3=0
   · exact⟨lo,none,l1,l2,λm hm=>(by cases hm),by simp [l3,hu,Uf,Vj,DL.run,DL.runI,Zf,sIf,Zn,Z2,sNext,Zi,Zy,ZG,ZO,sNever,xB,bD,Zu,ZC,xOr,Za,eC,eOp,ZH,eOr,ZP,eIf,Zz,ZD,ZM,ZR,eUn,ZN,eNil,Zb,Zx,ZF,eCB,lenD,minD,Z1,Zk,ZE,ZA,Zs,eSl,xP,xNoP,addD,subD,mulD,fdivD,modD,Zw,ixD,isD,eBM,ZL,ZQ,kind,plainKinds,ZS,ZU,Z3,ZW,ZX,ZY,Z4,ZZ,Z5,Z6,Z7,List.lookup,ZK,CMul,PySem.sizeLine_eq,List.replicate]⟩
   · refine⟨lo,some (if lo+u / 6 % 5<8 then lo+u / 6 % 5 else 8),l1,l2,λm hm => ?_,by simp [l3,hu,Uf,XC,DL.run,DL.runI,Zf,sIf,Zn,Z2,sNext,Zi,Zy,ZG,ZO,sNever,xB,bD,Zu,ZC,xOr,Za,eC,eOp,ZH,eOr,ZP,eIf,Zz,ZD,ZM,ZR,eUn,ZN,eNil,Zb,Zx,ZF,eCB,lenD,minD,Z1,Zk,ZE,ZA,Zs,eSl,xP,xNoP,addD,subD,mulD,fdivD,modD,Zw,ixD,isD,eBM,ZL,ZQ,kind,plainKinds,ZS,ZU,Z3,ZW,ZX,ZY,Z4,ZZ,Z5,Z6,Z7,List.lookup,ZK,CMul,PySem.sizeLine_eq,List.replicate]⟩
     cases hm
     split<;>omega
 · have hcut : ∀ a b c d : Int, cutL [D.int a, .int b, .int c, .int d] none (some (ms.length : Int)) = ([a, b, c, d].take ms.length).map D.int := fun a b c d => by
    rw [Zbe,List.map_take];rfl
   have hz:ms.length<=16777216:=by omega
   refine⟨[o % 7-3,t % 7-3,o / 7 % 7-3,t / 7 % 7-3].take ms.length,-(u % 9),u / 9 % 9,by rw [List.length_take];simp;omega,λw hw => ?_,by omega,by omega,by omega,by omega,?_⟩
   · have:=List.mem_of_mem_take hw
     simp only [List.mem_cons,List.mem_nil_iff,or_false]at this;omega
   · simp [slD,hcut,hz,Vs,Q4,DL.run,DL.runI,Zf,sIf,Zn,Z2,sNext,Zi,Zy,ZG,ZO,sNever,xB,bD,Zu,ZC,xOr,Za,eC,eOp,ZH,eOr,ZP,eIf,Zz,ZD,ZM,ZR,eUn,ZN,eNil,Zb,Zx,ZF,eCB,lenD,minD,Z1,Zk,ZE,ZA,Zs,eSl,xP,xNoP,addD,subD,mulD,fdivD,modD,Zw,ixD,isD,eBM,ZL,ZQ,kind,plainKinds,ZS,ZU,Z3,ZW,ZX,ZY,Z4,ZZ,Z5,Z6,Z7,List.lookup,ZK,CMul,PySem.sizeLine_eq,List.replicate]
 · have h0:0<1+t % 6:=by omega
   have hb:=Int.emod_lt_of_pos u h0;have hb0:=Int.emod_nonneg u (show 1+t % 6≠0 by omega);exact⟨1+t % 6,u % (1+t % 6),by omega,by omega,hb0,by omega,by simp [h0,Q7,DL.run,DL.runI,Zf,sIf,Zn,Z2,sNext,Zi,Zy,ZG,ZO,sNever,xB,bD,Zu,ZC,xOr,Za,eC,eOp,ZH,eOr,ZP,eIf,Zz,ZD,ZM,ZR,eUn,ZN,eNil,Zb,Zx,ZF,eCB,lenD,minD,Z1,Zk,ZE,ZA,Zs,eSl,xP,xNoP,addD,subD,mulD,fdivD,modD,Zw,ixD,isD,eBM,ZL,ZQ,kind,plainKinds,ZS,ZU,Z3,ZW,ZX,ZY,Z4,ZZ,Z5,Z6,Z7,List.lookup,ZK,CMul,PySem.sizeLine_eq,List.replicate]⟩
 · exact⟨1+u % 6,by omega,by omega,by simp [ZbD,DL.run,DL.runI,Zf,sIf,Zn,Z2,sNext,Zi,Zy,ZG,ZO,sNever,xB,bD,Zu,ZC,xOr,Za,eC,eOp,ZH,eOr,ZP,eIf,Zz,ZD,ZM,ZR,eUn,ZN,eNil,Zb,Zx,ZF,eCB,lenD,minD,Z1,Zk,ZE,ZA,Zs,eSl,xP,xNoP,addD,subD,mulD,fdivD,modD,Zw,ixD,isD,eBM,ZL,ZQ,kind,plainKinds,ZS,ZU,Z3,ZW,ZX,ZY,Z4,ZZ,Z5,Z6,Z7,List.lookup,ZK,CMul,PySem.sizeLine_eq,List.replicate]⟩
theorem ZhA{ms:List Nat}(h2:2<=ms.length)(h4:ms.length<=4)(k o t u:Int):∃q:Rc,Ru ms q.d q.o q.S q.B/\ZjT [.str ms,.int k,.int o,.int t,.int u]=some q.d:=by
 obtain⟨A0,A2,A3,A4,e,a0,a2,a3,a4⟩:=Zhz;obtain⟨mk,hm,hmm⟩:=ZcD (ms:=ms) (by omega) o
 have s1:Zi 5 (eOp ixD (Za 0) (eOp modD (Za 2) (eCB lenD (Zb (Za 0) eNil)))) [some (.str ms),some (.int k),some (.int o),some (.int t),some (.int u),none,none,none,none,none]=some (.nx [some (.str ms),some (.int k),some (.int o),some (.int t),some (.int u),some (.str [mk]),none,none,none,none]):=
  Yi ((Z0 rfl ((Z0 (x:=.int o) rfl ((Xy (Zl rfl nil_of)).trans (len_str (by omega)))).trans (Vd (by omega)))).trans (JJ (by rw [PySem.sizeLine_eq];omega) hm))
 have cd:∀j:Int,eOp eqD (eOp modD (Za 1) (eC (.int 5))) (eC (.int j)) [some (.str ms),some (.int k),some (.int o),some (.int t),some (.int u),some (.str [mk]),none,none,none,none]=some (.bl (decide (k % 5=j))):=λj=>(Z0 ((Z0 (x:=.int k) (y:=.int 5) rfl rfl).trans (Vd (by decide))) rfl).trans (ZS _ _)
 have no:∀{j:Int}{A:DL.Env->Option Out},k % 5≠j->sIf (xB (eOp eqD (eOp modD (Za 1) (eC (.int 5))) (eC (.int j)))) A sNext [some (.str ms),some (.int k),some (.int o),some (.int t),some (.int u),some (.str [mk]),none,none,none,none]=some (.nx [some (.str ms),some (.int k),some (.int o),some (.int t),some (.int u),some (.str [mk]),none,none,none,none]):=λ{j A} h=>(YE (Yj ((cd j).trans (by rw [decide_eq_false h])))).trans rfl
 have yes:∀{j:Int}{A:DL.Env->Option Out}{d:D},k % 5=j->A [some (.str ms),some (.int k),some (.int o),some (.int t),some (.int u),some (.str [mk]),none,none,none,none]=some (.rt d)->sIf (xB (eOp eqD (eOp modD (Za 1) (eC (.int 5))) (eC (.int j)))) A sNext [some (.str ms),some (.int k),some (.int o),some (.int t),some (.int u),some (.str [mk]),none,none,none,none]=some (.rt d):=λ{j A d} h ha=>(Vf (Yj ((cd j).trans (by rw [decide_eq_true h])))).trans ha
 rcases(show k % 5=0\/k % 5=1\/k % 5=2\/k % 5=3\/k % 5=4 by omega)with hk|hk|hk|hk|hk
 · obtain⟨lo,mo,l1,l2,l3,l4⟩:=a0 ms k o t u mk
   exact⟨⟨_,_,_,_⟩,.gap mk lo mo hmm l1 l2 l3,YB rfl ((congrFun e _).trans ((Zt s1).trans (Ve (yes hk l4))))⟩
 · obtain⟨n,hn⟩:=ZcB (show 0<=1+t % 6 by omega)
   have hn6:1<=n/\n<=6:=by omega
   have hw:=Zi7 h2 h4 o n hn6.2;have hj:=ZbW (wF ms o) (List.range n) (by rw [List.length_range,PySem.sizeLine_eq];omega);refine⟨⟨_,_,_,_⟩,.never ((List.range n).map (wF ms o)) (by simp;omega) (by simp;omega) (λc hc => ?_),YB rfl ((congrFun e _).trans ((Zt s1).trans ((Zt (no (by omega))).trans (Ve (yes hk ?_)))))⟩
   · obtain⟨i,hi,rfl⟩:=List.mem_map.mp hc
     exact(Zil h2 h4 o i (by have:=List.mem_range.mp hi;omega)).2
   · refine(Zt (Yi (d:=.int (n:Int)) ?_)).trans (YY ((Zgq (Zl rfl (Zl ((Zls rfl (Zl (Ur (JL (j:=(n:Int)) (Zl rfl nil_of) (by omega) (by omega)) rfl (by rw [Int.toNat_natCast];exact hw) (by rw [List.length_map,List.length_range];omega)) nil_of)).trans hj) nil_of)) (by simp)).trans rfl))
     exact(Z0 (x:=.int 1) rfl ((Z0 (x:=.int t) (y:=.int 6) rfl rfl).trans (Vd (by decide)))).trans (by rw [<-hn];rfl)
 · obtain⟨ws,lo,hi,q1,q2,q3,q4,q5,q6,q7⟩:=a2 ms k o t u mk h2 h4
   exact⟨⟨_,_,_,_⟩,.sum ws lo hi q1 q2 q3 q4 q5 q6,YB rfl ((congrFun e _).trans ((Zt s1).trans ((Zt (no (by omega))).trans ((Zt (no (by omega))).trans (Ve (yes hk q7))))))⟩
 · obtain⟨ev,at_,q1,q2,q3,q4,q5⟩:=a3 ms k o t u mk
   exact⟨⟨_,_,_,_⟩,.turn mk ev at_ hmm q1 q2 q3 q4,YB rfl ((congrFun e _).trans ((Zt s1).trans ((Zt (no (by omega))).trans ((Zt (no (by omega))).trans ((Zt (no (by omega))).trans (Ve (yes hk q5)))))))⟩
 · obtain⟨mo,q1,q2,q3⟩:=a4 ms k o t u mk
   exact⟨⟨_,_,_,_⟩,.alike mo q1 q2,YB rfl ((congrFun e _).trans ((Zt s1).trans ((Zt (no (by omega))).trans ((Zt (no (by omega))).trans ((Zt (no (by omega))).trans ((Zt (no (by omega))).trans q3))))))⟩
end K06
namespace K06
open DL L2
theorem Zm0{γ:D->DL.Env->Option DL.Env}{φ:DL.Env->Option Out}(I:Nat->DL.Env->Prop)(J:DL.Env->Prop):∀(xs:List D)(k:Nat)(δ:DL.Env),I k δ ->
 (∀(j:Nat)x δ,xs[j]? = some x->I (k+j) δ->∃δ1,γ x δ=some δ1/\((∃δ2,φ δ1=some (.nx δ2)/\I (k+j+1) δ2)\/∃δ2,φ δ1=some (.bk δ2)/\J δ2))->∃δ',YK γ φ xs δ=some (.nx δ')/\(I (k+xs.length) δ'\/J δ')
 | [],k,δ,h,_=>⟨δ,rfl,.inl h⟩
 |x::xs,k,δ,h,step=>by
  obtain⟨δ1,h1,h2⟩:=step 0 x δ rfl h;rcases h2 with⟨δ2,h2,h3⟩|⟨δ2,h2,h3⟩
  · obtain ⟨δ', h4, h5⟩ := Zm0 I J xs (k + 1) δ2 h3 fun j y δ hy hI => by
     have:=step (j+1) y δ (by simpa using hy) (by rwa [show k+(j+1)=k+1+j by omega])
     rwa [show k+(j+1)+1=k+1+j+1 by omega]at this
    exact⟨δ',(ZbC h1 h2).trans h4,by rwa [List.length_cons,show k+(xs.length+1)=k+1+xs.length by omega]⟩
  · exact⟨δ2,Zi2 h1 h2,.inr h3⟩
noncomputable def clE:DL.Env->Option D:=(Zk 2 YZ [] (Zb (Za 1) (Zb (eOp addD (eOp addD (eC (.int 2)) (eOp mulD (eC (.int 3)) (Za 2))) (Za 0)) eNil)))
noncomputable def rsB:DL.Env->Option Out:=(Zf (Zi 4 (YJ (Xg (Zb (eC (.int 3)) eNil)) (Yd 0) (λ_=>some true) clE 1 [0,3]))
 (UK 2 (Zk 5 ZjT [] (Zb (Za 1) (Zb (eOp addD (eOp fdivD (eOp ixD (Za 4) (eC (.int 1))) (eC (.int 60))) (eOp fdivD (eOp ixD (Za 4) (eC (.int 2))) (eC (.int 90)))) (Zb (eOp ixD (Za 4) (eC (.int 0))) (Zb (eOp ixD (Za 4) (eC (.int 1))) (Zb (eOp ixD (Za 4) (eC (.int 2))) eNil))))))))
theorem ZmG:ZjU=(Zf (Zi 2 (Zx eNil)) (Zf (YN (Xg (Zb (eOp modD (Zk 2 YZ [] (Zb (Za 0) (Zb (eC (.int 1)) eNil))) (eC (.int 7))) eNil)) (Yd 3) rsB) (Zn (Za 2)))):=rfl
def clF(ns:List Int)(k:Nat):D->D
 | .int s => .int (ns.getD (2+3*k+s.toNat) 0)
 |_ => .non
theorem Zf1(ns:List Int)(k:Nat)(x2 x3 x4:Option D):∃a b c:Int,YJ (Xg (Zb (eC (.int 3)) eNil)) (Yd 0) (λ_=>some true) clE 1 [0,3] [some (.lst (ns.map D.int)),x2,x3,some (.int (k:Nat)),x4]=some (.lst [.int a,.int b,.int c]):=by
 have hc:Xh (Yd 0) (λ_=>some true) clE [none,some (.lst (ns.map D.int)),some (.int (k:Nat))] (YA 0 1 3)=some ((YA 0 1 3).map (clF ns k)):=Vc (clF ns k) _ λx hx=>by
  obtain⟨i,hi,rfl⟩:=Zbt hx;have e:(0+(i:Int)*1)=i:=by omega
  rw [e];refine⟨_,rfl,(Ys (Zl rfl (Zl ((Z0 (x:=.int (2+3*(k:Int))) (y:=.int (i:Int)) ((Z0 (x:=.int 2) (y:=.int (3*(k:Int))) rfl ((Z0 (x:=.int 3) (y:=.int (k:Int)) rfl rfl).trans (Zc0 (Za6 (by decide) (by decide))))).trans rfl) rfl).trans rfl) nil_of)) rfl).trans ?_⟩;have:=Q3 ns (2+3*k+i);rw [show((2+3*k+i:Nat):Int)=2+3*(k:Int)+i by omega]at this
  exact this
 exact⟨_,_,_,Ur (JL (j:=3) (Zl rfl nil_of) (by decide) (by decide)) rfl hc (show 3<=1000000 by decide)⟩
abbrev Rus(ms:List Nat)(qs:List Rc):Prop:=∀q∈qs,Ru ms q.d q.o q.S q.B
theorem Zf2{ms:List Nat}(h2:2<=ms.length)(h4:ms.length<=4)(ns:List Int):∃qs:List Rc,Rus ms qs/\qs.length<=6/\ZjV [.lst (ns.map D.int),.str ms]=some (.lst (qs.map λq=>q.d)):=by
 obtain⟨n,hn⟩:=ZcB (show 0<=ns.getD 1 0 % 7 by omega);have hn6:n<=6:=by omega
 obtain⟨δ',h1,qs,hp,hl,v3,v4,rfl⟩:=Zbs (γ:=Yd 3) (φ:=rsB) (λk δ=>∃qs:List Rc,Rus ms qs/\qs.length=k/\∃v3 v4:Option D,δ=[some (.lst (ns.map D.int)),some (.str ms),some (.lst (qs.map λq=>q.d)),v3,v4]) (YA 0 1 n) 0 [some (.lst (ns.map D.int)),some (.str ms),some (.lst []),none,none] ⟨[],λp hp=>(by cases hp),rfl,none,none,rfl⟩ (by
  rintro j x δ hx ⟨qs,hp,hl,v3,v4,rfl⟩
  obtain⟨hj,rfl⟩:=Zd4 hx;obtain⟨a,b,c,hc⟩:=Zf1 ns j (some (.str ms)) (some (.lst (qs.map λq=>q.d))) v4;obtain⟨q,hr,hd⟩:=ZhA h2 h4 (b / 60+c / 90) a b c
  have b1:rsB [some (.lst (ns.map D.int)),some (.str ms),some (.lst (qs.map λq=>q.d)),some (.int (j:Nat)),v4]=some (.nx [some (.lst (ns.map D.int)),some (.str ms),some (.lst ((qs.map λq=>q.d)++[q.d])),some (.int (j:Nat)),some (.lst [.int a,.int b,.int c])]):=by
   refine(Zt (Yi hc)).trans (Zgr (i:=2) (xs:=qs.map λq=>q.d) (d:=q.d) rfl ?_ (by rw [List.length_map];omega));refine(Ys (ds:=[.str ms,.int (b / 60+c / 90),.int a,.int b,.int c]) (Zl rfl (Zl ?_ (Zl ((Z0 rfl rfl).trans (US (a:=0) rfl)) (Zl ((Z0 rfl rfl).trans (US (a:=1) rfl)) (Zl ((Z0 rfl rfl).trans (US (a:=2) rfl)) nil_of))))) rfl).trans hd;exact(Z0 ((Z0 (x:=.int b) ((Z0 rfl rfl).trans (US (a:=1) rfl)) rfl).trans (UQ ⟨by decide,by decide⟩)) ((Z0 (x:=.int c) ((Z0 rfl rfl).trans (US (a:=2) rfl)) rfl).trans (UQ ⟨by decide,by decide⟩))).trans rfl
  refine⟨[some (.lst (ns.map D.int)),some (.str ms),some (.lst (qs.map λq=>q.d)),some (.int (j:Nat)),v4],rfl,_,b1,qs++[q],λp hp' => ?_,by rw [List.length_append,hl];rfl,some (.int (j:Nat)),some (.lst [.int a,.int b,.int c]),?_⟩
  · rcases List.mem_append.mp hp' with h|h
    · exact hp p h
    · cases List.mem_singleton.mp h
      exact hr
  · rw [List.map_append];rfl)
 refine⟨qs,hp,by rw [hl,Zhn];omega,YB rfl ((congrFun ZmG _).trans ((Zt (Yi (UR nil_of (by decide)))).trans ((Zt (Xx ?_ h1)).trans (YY rfl))))⟩;exact(JL (j:=(n:Int)) (Zl ((Z0 ((Ys (Zl rfl (Zl rfl nil_of)) rfl).trans (Q3 ns 1)) rfl).trans ((Vd (by decide)).trans (by rw [hn]))) nil_of) (by omega) (by omega)).trans (by rw [Int.toNat_natCast])
theorem ZeV{α:Type}(f:α->Bool)(xs:List α):Vr (xs.map λx=>D.bl (f x))=some (xs.map f):=by
 have:=Js (xs.map f);rw [List.map_map]at this;exact this
theorem Zgw{ms:List Nat}{qs:List Rc}(hp:Rus ms qs)(hl:qs.length<=100){r:List Nat}{c:Nat}(hr:∀x∈r++[c],x∈ms)(hr2:r.length<=200):U2 [.str ms,.lst (qs.map λq=>q.d),.str (r++[c])]=some (.bl (Xb qs r c)):=by
 refine YB rfl (YY ((Xy (Zl (Ur (xs:=qs.map λq=>q.d) (ys:=qs.map λq => .bl (q.B r c)) rfl rfl ?_ (by rw [List.length_map];omega)) nil_of)).trans ?_))
 · refine(Vc (λd=>(Xj [.str ms,d,.str (r++[c])]).getD .non) (qs.map λq=>q.d) λd hd => ?_).trans ?_
   · obtain⟨q,hq,rfl⟩:=List.mem_map.mp hd
     refine⟨_,rfl,(Ys (Zl rfl (Zl rfl (Zl rfl nil_of))) rfl).trans ?_⟩;show Xj [.str ms,q.d,.str (r++[c])]=_;rw [ZaR (hp q hq) hr hr2];rfl
   · rw [List.map_map]
     congr 1
     refine List.map_congr_left λq hq => ?_
     show(Xj [.str ms,q.d,.str (r++[c])]).getD .non=_;rw [ZaR (hp q hq) hr hr2];rfl
 · unfold XH
   dsimp only;rw [ZeV];dsimp only;unfold Xb;rw [List.any_map];rfl
noncomputable def inB:DL.Env->Option Out:=(Zf (Zi 8 (eOp addD (Za 3) (eOp ixD (Za 1) (eOp modD (eOp addD (eOp fdivD (Za 5) (eC (.int 7))) (Za 7)) (eCB lenD (Zb (Za 1) eNil))))))
 (sIf (ZC (xB (eOp (Zw λi j=>decide (j<i)) (eOp modD (Za 5) (eC (.int 7))) (eC (.int 0)))) (ZC (xB (Zz (Za 4))) (Zu (xB (Zk 3 U2 [] (Zb (Za 1) (Zb (Za 2) (Zb (Za 8) eNil)))))))) (Zf (Zi 6 (Za 8)) sBreak) sNext))
noncomputable def rwB:DL.Env->Option Out:=(Zf (Zi 6 (eOp addD (Za 3) (eOp ixD (Za 1) (eOp modD (eOp fdivD (Za 5) (eC (.int 7))) (eCB lenD (Zb (Za 1) eNil))))))
 (Zf (YN (Xg (Zb (eCB lenD (Zb (Za 1) eNil)) eNil)) (Yd 7) inB)
 (Zf (Zi 3 (Za 6))
 (sIf (ZC (xB (Zz (Za 4))) (xB (Zk 3 U2 [] (Zb (Za 1) (Zb (Za 2) (Zb (Za 3) eNil)))))) (Zi 4 (eOp subD (eCB lenD (Zb (Za 3) eNil)) (eC (.int 1)))) sNext))))
theorem ZmH:ZjW=(Zf (Zi 3 (eC (.str []))) (Zf (Zi 4 (eC .non)) (Zf (YN (Yu (eSl (Za 0) xNoP (xP (eC (.int 90))))) (Yd 5) rwB) (Zn (ZF (Zb (Za 3) (Zb (Za 4) eNil))))))):=rfl
theorem Zc8{ms row:List Nat}(h2:2<=ms.length)(h4:ms.length<=4)(hl:row.length<=100)(i:Int){e:DL.Env->Option D}{δ:DL.Env}(he:e δ=some (.int i))(h3:Za 3 δ=some (.str row))(h1:Za 1 δ=some (.str ms)):∃c∈ms,eOp addD (Za 3) (eOp ixD (Za 1) (eOp modD e (eCB lenD (Zb (Za 1) eNil)))) δ=some (.str (row++[c])):=by
 obtain⟨z,hz,hm⟩:=ZcD (ms:=ms) (by omega) i;refine⟨z,hm,(Z0 h3 ((Z0 h1 ((Z0 he ((Xy (Zl h1 nil_of)).trans (len_str (by omega)))).trans (Vd (by omega)))).trans (JJ (by rw [PySem.sizeLine_eq];omega) hz))).trans ?_⟩;show(if row.length+[z].length<=PySem.sizeLine then _ else _)=_;rw [if_pos (by rw [PySem.sizeLine_eq,List.length_singleton];omega)]
theorem Zi8{ms:List Nat}(h2:2<=ms.length)(h4:ms.length<=4){qs:List Rc}(hp:Rus ms qs)(hl:qs.length<=100)(ns:List Int)(hns:ns.length<=63):∃row:List Nat,(∀c∈row,c∈ms)/\row.length<=63/\ZjX [.lst (ns.map D.int),.str ms,.lst (qs.map λq=>q.d)]=some (.tup [.str row,oz (brW (Xb qs) [] row)]):=by
 generalize hS:D.lst (ns.map D.int)=sc;generalize hD:D.lst (qs.map λq=>q.d)=dd
 have hxs:Yu (eSl (Za 0) xNoP (xP (eC (.int 90)))) [some sc,some (.str ms),some dd,some (.str []),some .non,none,none,none,none]=some ((cutL ns none (some 90)).map D.int):=by
  subst hS;show some (cutL (ns.map D.int) none (some 90))=_;rw [Zhq]
 have hcl:(cutL ns none (some 90)).length<=63:=Nat.le_trans (Zhr _ _ _) hns;generalize cutL ns none (some 90)=cs at hxs hcl
 obtain⟨δ',h1,row,v5,v6,v7,v8,g1,g2,rfl⟩:=Zbs (γ:=Yd 5) (φ:=rwB) (λk δ=>∃(row:List Nat) (v5 v6 v7 v8:Option D),(∀c∈row,c∈ms)/\row.length=k/\δ=[some sc,some (.str ms),some dd,some (.str row),some (oz (brW (Xb qs) [] row)),v5,v6,v7,v8]) (cs.map D.int) 0 [some sc,some (.str ms),some dd,some (.str []),some .non,none,none,none,none] ⟨[],none,none,none,none,λc hc=>(by cases hc),rfl,rfl⟩ (by
  rintro j x δ hx ⟨row,v5,v6,v7,v8,hr,hrl,rfl⟩
  have hjl:j<cs.length:=by
   have:=(List.getElem?_eq_some_iff.mp hx).1
   rwa [List.length_map]at this
  rw [List.getElem?_map,List.getElem?_eq_getElem hjl]at hx;cases hx;generalize cs[j]=cell;generalize hbk:brW (Xb qs) [] row=bk;have dv:∀{v6 v7 v8:Option D},eOp fdivD (Za 5) (eC (.int 7)) [some sc,some (.str ms),some dd,some (.str row),some (oz bk),some (.int cell),v6,v7,v8]=some (.int (cell / 7)):=λ{v6 v7 v8}=>(Z0 (x:=.int cell) (y:=.int 7) rfl rfl).trans (UQ ⟨by decide,by decide⟩)
  obtain⟨c,hc,a1⟩:=Zc8 (row:=row) h2 h4 (by omega) (cell / 7) (dv (v6:=v6) (v7:=v7) (v8:=v8)) rfl rfl
  have rin:∀{c:Nat},c∈ms->∀x∈row++[c],x∈ms:=λ{c} hc x hx=>by
   rcases List.mem_append.mp hx with h|h
   · exact hr x h
   · rw [List.mem_singleton.mp h];exact hc
  obtain⟨δi,i1,i2⟩:=Zm0 (γ:=Yd 7) (φ:=inB) (λ_ δ=>∃(c:Nat) (v7 v8:Option D),c∈ms/\δ=[some sc,some (.str ms),some dd,some (.str row),some (oz bk),some (.int cell),some (.str (row++[c])),v7,v8]) (λδ=>∃(c:Nat) (v7 v8:Option D),c∈ms/\δ=[some sc,some (.str ms),some dd,some (.str row),some (oz bk),some (.int cell),some (.str (row++[c])),v7,v8]) (YA 0 1 ms.length) 0 [some sc,some (.str ms),some dd,some (.str row),some (oz bk),some (.int cell),some (.str (row++[c])),v7,v8] ⟨c,v7,v8,hc,rfl⟩ (by
   rintro i x δ hx ⟨c',w7,w8,hc',rfl⟩
   obtain⟨hi,rfl⟩:=Zd4 hx;refine⟨[some sc,some (.str ms),some dd,some (.str row),some (oz bk),some (.int cell),some (.str (row++[c'])),some (.int (i:Nat)),w8],rfl,?_⟩;obtain⟨c2,hc2,a2⟩:=Zc8 (row:=row) h2 h4 (by omega) (cell / 7+i) (e:=eOp addD (eOp fdivD (Za 5) (eC (.int 7))) (Za 7)) (δ:=[some sc,some (.str ms),some dd,some (.str row),some (oz bk),some (.int cell),some (.str (row++[c'])),some (.int (i:Nat)),w8]) ((Z0 dv rfl).trans rfl) rfl rfl
   have hb:=Zgw hp hl (rin hc2) (by omega);rw [hD]at hb;generalize Xb qs row c2=b at hb;have t1:∀{v6 v7 v8:Option D},eOp (Zw λi j=>decide (j<i)) (eOp modD (Za 5) (eC (.int 7))) (eC (.int 0)) [some sc,some (.str ms),some dd,some (.str row),some (oz bk),some (.int cell),v6,v7,v8]=some (.bl (decide (0<cell % 7))):=λ{v6 v7 v8}=>(Z0 ((Z0 (x:=.int cell) (y:=.int 7) rfl rfl).trans (Vd (by decide))) rfl).trans rfl
   have t2:∀{v6 v7:Option D},Zk 3 U2 [] (Zb (Za 1) (Zb (Za 2) (Zb (Za 8) eNil))) [some sc,some (.str ms),some dd,some (.str row),some (oz bk),some (.int cell),v6,v7,some (.str (row++[c2]))]=some (.bl b):=λ{v6 v7}=>(Ys (Zl rfl (Zl rfl (Zl rfl nil_of))) rfl).trans hb
   by_cases hq:0<cell % 7
   · cases bk with
     |some j=>exact .inl ⟨_,(Zt (Yi a2)).trans ((YE (Ud (Yj (t1.trans (by rw [decide_eq_true hq]))) (JK (Yj (X6 (d:=.int (j:Nat)) rfl))))).trans rfl),c',_,_,hc',rfl⟩
     |none=>
      cases b with
      |false=>exact .inr ⟨_,(Zt (Yi a2)).trans ((Vf (Ud (Yj (t1.trans (by rw [decide_eq_true hq]))) (Ud (Yj (X6 (d:=.non) rfl)) (VN (Yj t2))))).trans ((Zt (Yi rfl)).trans rfl)),c2,_,_,hc2,rfl⟩
      |true=>exact .inl ⟨_,(Zt (Yi a2)).trans ((YE (Ud (Yj (t1.trans (by rw [decide_eq_true hq]))) (Ud (Yj (X6 (d:=.non) rfl)) (VN (Yj t2))))).trans rfl),c',_,_,hc',rfl⟩
   · exact .inl ⟨_,(Zt (Yi a2)).trans ((YE (JK (Yj (t1.trans (by rw [decide_eq_false hq]))))).trans rfl),c',_,_,hc',rfl⟩)
  obtain⟨c3,w7,w8,hc3,rfl⟩:∃(c:Nat) (v7 v8:Option D),c∈ms/\δi=[some sc,some (.str ms),some dd,some (.str row),some (oz bk),some (.int cell),some (.str (row++[c])),v7,v8]:=i2.elim id id;have hb:=Zgw hp hl (rin hc3) (by omega);rw [hD]at hb;have hsn:=Zc6 (Xb qs) row [] c3;rw [hbk,List.nil_append]at hsn;generalize Xb qs row c3=b at hb hsn;refine⟨_,rfl,?_⟩
  have main:∀{X:DL.Env->Option Out},Zf (Zi 6 (eOp addD (Za 3) (eOp ixD (Za 1) (eOp modD (eOp fdivD (Za 5) (eC (.int 7))) (eCB lenD (Zb (Za 1) eNil)))))) (Zf (YN (Xg (Zb (eCB lenD (Zb (Za 1) eNil)) eNil)) (Yd 7) inB) (Zf (Zi 3 (Za 6)) X)) [some sc,some (.str ms),some dd,some (.str row),some (oz bk),some (.int cell),v6,v7,v8]=X [some sc,some (.str ms),some dd,some (.str (row++[c3])),some (oz bk),some (.int cell),some (.str (row++[c3])),w7,w8]:=λ{X}=>
   (Zt (Yi a1)).trans ((Zt (Xx ((JL (j:=(ms.length:Int)) (Zl ((Xy (Zl rfl nil_of)).trans (len_str (by omega))) nil_of) (by omega) (by omega)).trans (by rw [Int.toNat_natCast])) i1)).trans (Zt (Yi rfl)))
  have t3:Zk 3 U2 [] (Zb (Za 1) (Zb (Za 2) (Zb (Za 3) eNil))) [some sc,some (.str ms),some dd,some (.str (row++[c3])),some (oz bk),some (.int cell),some (.str (row++[c3])),w7,w8]=some (.bl b):=(Ys (Zl rfl (Zl rfl (Zl rfl nil_of))) rfl).trans hb;have hlen:(row++[c3]).length=0+j+1:=by rw [List.length_append,hrl];rfl
  cases bk with
  |some i=>
   refine⟨_,main.trans ((YE (JK (Yj (X6 (d:=.int (i:Nat)) rfl)))).trans rfl),row++[c3],some (.int cell),some (.str (row++[c3])),w7,w8,rin hc3,hlen,?_⟩;rw [hsn]
  |none=>
   dsimp only at hsn;cases b with
   |false=>
    refine⟨_,main.trans ((YE (Ud (Yj (X6 (d:=.non) rfl)) (Yj t3))).trans rfl),row++[c3],some (.int cell),some (.str (row++[c3])),w7,w8,rin hc3,hlen,?_⟩;rw [hsn,if_neg Bool.false_ne_true]
   |true=>
    refine⟨_,main.trans ((Vf (Ud (Yj (X6 (d:=.non) rfl)) (Yj t3))).trans (Yi (d:=.int (row.length:Nat)) ((Z0 ((Xy (Zl rfl nil_of)).trans (len_str (by rw [hlen];omega))) rfl).trans ?_))),row++[c3],some (.int cell),some (.str (row++[c3])),w7,w8,rin hc3,hlen,?_⟩
    · show some (D.int (((row++[c3]).length:Int)-1))=_
      rw [List.length_append,List.length_singleton]
      congr 2
      omega
    · rw [hsn,if_pos rfl]
      rfl)
 rw [List.length_map]at g2;exact⟨row,g1,by omega,YB rfl ((congrFun ZmH _).trans ((Zt (Yi rfl)).trans ((Zt (Yi rfl)).trans ((Zt (Xx hxs h1)).trans (YY (Zgq (Zl rfl (Zl rfl nil_of)) (show 2<=1000 by decide)))))))⟩
end K06
namespace K06
open DL L2
def NM:List Nat:=[110,111,32,109,97,114,107]
theorem Zi9(a:List Nat):eqD .non (.str a)=some (.bl false):=by
 show(if(Yp .non&&Yp (.str a)&&Vk V.non (S a))=true then some (D.bl (decide (V.non=S a)))else _)=_;rw [if_pos (by rfl),decide_eq_false (by intro h;cases h)]
theorem Zja(i:Int)(a:List Nat):eqD (.int i) (.str a)=some (.bl false):=by
 show(if(Yp (.int i)&&Yp (.str a)&&Vk (V.int i) (S a))=true then some (D.bl (decide (V.int i=S a)))else _)=_;rw [if_pos (by rfl),decide_eq_false (by intro h;cases h)]
theorem ZdI(a:List Nat):eqD (.str a) (.str a)=some (.bl true):=by rw [ZU,decide_eq_true rfl]
theorem Zgx(a:List Nat):neD (.str a) (.str a)=some (.bl false):=by rw [ZZ,decide_eq_true rfl];rfl
theorem Zjb:eqD (.lst [.bl true,.bl true,.bl false]) (.lst [.bl true,.bl true,.bl false])=some (.bl true):=Zc1 rfl rfl
theorem Zjc:neD (.lst [.bl true,.bl true,.bl false]) (.lst [.bl true,.bl true,.bl false])=some (.bl false):=ZfK rfl rfl
theorem Zjd{φb ψ:DL.Env->Option Out}{χb:DL.Env->Option String}{cl:List String}{i r:Nat}{tabs:List (List (String×Bool))}{δ:DL.Env}(h:χb δ=none):UP φb χb cl i r tabs ψ δ=φb δ:=by
 unfold UP;rw [h]
theorem Zgy{φb ψ:DL.Env->Option Out}{χb:DL.Env->Option String}{cl:List String}{i r:Nat}{tabs:List (List (String×Bool))}{δ δ':DL.Env}{c:String}{bs:List Bool}(h:χb δ=some c)(h1:cl.contains c=true/\i<δ.length/\r<δ.length/\i≠r)(h2:Vt c tabs=some bs)(h3:bs.length<=1000)(h4:ψ ((δ.set r (some (.lst (bs.map D.bl)))).set i none)=some (.nx δ')):UP φb χb cl i r tabs ψ δ=some (.nx (δ'.set i none)):=by
 unfold UP;rw [h];dsimp only;rw [if_pos h1,h2];dsimp only;rw [if_pos h3,h4]
theorem Zje{φb ψ:DL.Env->Option Out}{χb:DL.Env->Option String}{cl:List String}{δ:DL.Env}(h:χb δ=none):Qk φb χb cl ψ δ=φb δ:=by
 unfold Qk;rw [h]
theorem Zjf{φb ψ:DL.Env->Option Out}{χb:DL.Env->Option String}{cl:List String}{δ:DL.Env}{c:String}(h:χb δ=some c)(h1:cl.contains c=true):Qk φb χb cl ψ δ=ψ δ:=by
 unfold Qk;rw [h];dsimp only;rw [if_pos h1]
theorem Zec:Vt "BadMark" [ie_GrooveError,ie_ValueError,[("BadMark",false)]]=some [true,true,false]:=by decide
section
variable{ms:List Nat}{o:D}{S:List Nat->D}{B:List Nat->Nat->Bool}
theorem Zc9(O:Ob ms o S B){w d:D}(h:XW [o,w]=some d)(hx:Xn [o,w]=none):Qp [o,w]=some d:=
 YB rfl ((Zt (Yi rfl)).trans ((Zt ((Zjd ((Uz rfl (Zl rfl nil_of)).trans ((O.br [w] rfl).2.trans hx))).trans (Yi ((Zap rfl (Zl rfl nil_of)).trans ((O.br [w] rfl).1.trans h))))).trans (YY rfl)))
theorem ZeW (O:Ob ms o S B) {w:D} (hx:Xn [o,w]=some "BadMark"):Qp [o,w]=some (.str NM):=
 YB rfl ((Zt (Yi rfl)).trans ((Zt (Zgy (bs:=[true,true,false]) ((Uz rfl (Zl rfl nil_of)).trans ((O.br [w] rfl).2.trans hx)) ⟨rfl,(show 3<5 by decide),(show 4<5 by decide),by decide⟩ Zec (show 3<=1000 by decide) ((YE (Yj ((Z0 rfl (UR (Zl rfl (Zl rfl (Zl rfl nil_of))) (show 3<=1000 by decide))).trans Zjc))).trans rfl))).trans (YY rfl)))
theorem Zed(O:Ob ms o S B){w d:D}(h:Vh [o,w]=some d)(hx:XX [o,w]=none):Qq [o,w]=some d:=
 YB rfl ((Zt (Yi rfl)).trans ((Zt ((Zje ((Uz rfl (Zl rfl nil_of)).trans ((O.kp [w] rfl).2.trans hx))).trans (Yi ((Zap rfl (Zl rfl nil_of)).trans ((O.kp [w] rfl).1.trans h))))).trans (YY rfl)))
theorem Zf3 (O:Ob ms o S B) {w:D} (hx:XX [o,w]=some "BadMark"):Qq [o,w]=some (.str NM):=
 YB rfl ((Zt (Yi rfl)).trans ((Zt ((Zjf ((Uz rfl (Zl rfl nil_of)).trans ((O.kp [w] rfl).2.trans hx)) rfl).trans (Yi rfl))).trans (YY rfl)))
theorem Zf4(i:Int):ZjO [.int i]=some (.bl true):=by
 simp [ZjO,ZjN,QV,QU,DL.run,DL.runI,Zf,sIf,Zn,Z2,sNext,Zi,Zy,ZG,ZO,sNever,xB,bD,Zu,ZC,xOr,Za,eC,eOp,ZH,eOr,ZP,eIf,Zz,ZD,ZM,ZR,eUn,ZN,eNil,Zb,Zx,ZF,eCB,lenD,minD,Z1,Zk,ZE,ZA,Zs,eSl,xP,xNoP,addD,subD,mulD,fdivD,modD,Zw,ixD,isD,eBM,ZL,ZQ,kind,plainKinds,ZS,ZU,Z3,ZW,ZX,ZY,Z4,ZZ,Z5,Z6,Z7,List.lookup,ZK,CMul,PySem.sizeLine_eq,List.replicate]
theorem Zim{a b:DL.Env->Option D}{δ:DL.Env}{x y:Bool}(h1:a δ=some (.bl x))(h2:b δ=some (.bl y)):eOp isD a b δ=some (.bl (x == y)):=Z0 h1 h2
inductive Du(o w:D):D->Prop
 |nm (h1:Qp [o,w]=some (.str NM)) (h2:Qq [o,w]=some (.str NM)):Du o w (.str NM)
 |no (h1:Qp [o,w]=some .non) (h2:Qq [o,w]=some (.bl true)):Du o w .non
 |br (j:Int) (h1:Qp [o,w]=some (.int j)) (h2:Qq [o,w]=some (.bl false)):Du o w (.int j)
theorem Q8{o w d:D}(h:Du o w d):XB [o,w,d]=some (.bl true):=by
 cases h with
 |nm h1 h2=>
  exact YB rfl ((Zt (Yi ((Ys (Zl rfl (Zl rfl nil_of)) rfl).trans h1))).trans ((Zt (Yi ((Ys (Zl rfl (Zl rfl nil_of)) rfl).trans h2))).trans (Ve ((Vf (Yj ((Z0 rfl rfl).trans (ZdI NM)))).trans (YY (Zbd ((Z0 rfl rfl).trans (ZdI NM)) ((Z0 rfl rfl).trans (ZdI NM))))))))
 |no h1 h2=>
  exact YB rfl ((Zt (Yi ((Ys (Zl rfl (Zl rfl nil_of)) rfl).trans h1))).trans ((Zt (Yi ((Ys (Zl rfl (Zl rfl nil_of)) rfl).trans h2))).trans ((Zt ((YE (Yj ((Z0 rfl rfl).trans (Zi9 NM)))).trans rfl)).trans (Ve ((Vf (Yj (X6 (d:=.non) rfl))).trans (YY (Zbd (X6 (d:=.non) rfl) (Zim (x:=true) (y:=true) rfl rfl))))))))
 |br j h1 h2=>
  exact YB rfl ((Zt (Yi ((Ys (Zl rfl (Zl rfl nil_of)) rfl).trans h1))).trans ((Zt (Yi ((Ys (Zl rfl (Zl rfl nil_of)) rfl).trans h2))).trans ((Zt ((YE (Yj ((Z0 rfl rfl).trans (Zja j NM)))).trans rfl)).trans ((Zt ((YE (Yj (X6 (d:=.int j) rfl))).trans rfl)).trans (YY (Zbd ((Ys (Zl rfl nil_of) rfl).trans (Zf4 j)) (Zbd ((Z0 rfl rfl).trans ((ZS j j).trans (by rw [decide_eq_true rfl]))) (Zim (x:=false) (y:=false) rfl rfl))))))))
theorem ZdJ(O:Ob ms o S B)(h4:ms.length<=4){row:List Nat}(h:∀x∈row,x∈ms):Du o (.str row) (oz (brW B [] row)):=by
 obtain⟨h1,h2⟩:=ZeS O h4 h;obtain⟨h3,h5⟩:=Zc7 O h1 h2;have a:=Zc9 O h1 h2;have k:=Zed O h3 h5;cases hb:brW B [] row with
 |none=>rw [hb]at a k;exact .no a k
 |some j=>rw [hb]at a k;exact .br (j:Nat) a k
def ZkF:Option Nat->D
 |some j => .int (j:Nat)
 |none => .str NM
theorem ZdK(O:Ob ms o S B)(h4:ms.length<=4){p q:List Nat}{z:Nat}(h:∀x∈p,x∈ms)(hz:Bad ms [z]):Du o (.str (p++z::q)) (ZkF (brW B [] p)):=by
 obtain⟨h1,h2⟩:=Zdt O h4 (q:=q) h hz;cases hb:brW B [] p with
 |none=>
  have e:=h2 hb;exact .nm (ZeW O e) (Zf3 O (ZeT O e))
 |some j=>
  obtain⟨e1,e2⟩:=h1 j hb;obtain⟨h3,h5⟩:=Zc7 O e1 e2;exact .br (j:Nat) (Zc9 O e1 e2) (Zed O h3 h5)
end
theorem Zda:∀{l ms:List Nat},l.Nodup->(∀x∈l,x∈ms)->l.length<=ms.length
 | [],ms,_,_=>Nat.zero_le _
 |a::l,ms,h,hs=>by
  obtain⟨h1,h2⟩:=List.nodup_cons.mp h;have ha:=hs a List.mem_cons_self;have:=Zda (ms:=ms.erase a) h2 λx hx=>(List.mem_erase_of_ne (show x≠a from λe=>h1 (by rw [<-e];exact hx))).mpr (hs x (List.mem_cons_of_mem _ hx))
  rw [List.length_erase_of_mem ha]at this;have:=List.length_pos_of_mem ha;rw [List.length_cons];omega
theorem Zbg{ms:List Nat}(h4:ms.length<=4){z:Nat}(h:z∉ms)(hz:z<65536):Bad ms [z]:=by
 have e:=is_mark ms z h4;rw [decide_eq_false h]at e;exact⟨e,show 1<=1000 by decide,by simpa using hz⟩
theorem Zck{ms w:List Nat}(h:w.length≠1)(hl:w.length<=1000)(hc:∀x∈w,x<65536):Bad ms w:=by
 refine⟨?_,hl,by simpa using hc⟩;have g:w.length<=16777216:=by omega
 have g1:¬(w.length:Int)=1:=by omega
 simp [XV,JN,g,g1,h,DL.run,DL.runI,Zf,sIf,Zn,Z2,sNext,Zi,Zy,ZG,ZO,sNever,xB,bD,Zu,ZC,xOr,Za,eC,eOp,ZH,eOr,ZP,eIf,Zz,ZD,ZM,ZR,eUn,ZN,eNil,Zb,Zx,ZF,eCB,lenD,minD,Z1,Zk,ZE,ZA,Zs,eSl,xP,xNoP,addD,subD,mulD,fdivD,modD,Zw,ixD,isD,eBM,ZL,ZQ,kind,plainKinds,ZS,ZU,Z3,ZW,ZX,ZY,Z4,ZZ,Z5,Z6,Z7,List.lookup,ZK,CMul,PySem.sizeLine_eq,List.replicate]
def ODD:List Nat:=[45,65,32,95,10,33,126,90,91,123]
theorem Zf5:SG.Nodup:=by decide
theorem Zf6:∀x∈SG,x<65536:=by decide
theorem Zjg:∀x∈ODD,x∉cs_MARK_SIGNS/\x<65536:=by decide
theorem Za8{ms:List Nat}(h4:ms.length<=4)(hs:∀x∈ms,x∈cs_MARK_SIGNS)(i:Int):∃z,U3 [.str ms,.int i]=some (.str [z])/\Bad ms [z]:=by
 have hc:YJ (Yu (eC (.str SG))) (Yd 0) (xB (eOp (inD true) (Za 0) (Za 1))) (Za 0) 1 [0] [some (.str ms),some (.int i),some (.str ODD),none]=some (.lst ((SG.filter λc => !decide (c∈ms)).map λc => .str [c])):=by
  refine Ur (xs:=SG.map λc => .str [c]) rfl rfl ((ZaB (λd=>match d with | .str [c] => !decide (c∈ms)|_=>false) id _ λx hx => ?_).trans ?_) (Nat.le_trans (by rw [List.length_map];exact List.length_filter_le _ _) (show 36<=1000000 by decide))
  · obtain⟨c,_,rfl⟩:=List.mem_map.mp hx
    refine⟨_,rfl,Yj ((Z0 rfl rfl).trans ?_),λ_=>rfl⟩;show some (D.bl (true != decide (c∈ms)))=_;rw [Bool.true_bne]
  · rw [List.map_id,List.filter_map]
    rfl
 obtain⟨z,hz⟩:∃z,z∈SG/\z∉ms:=by
  refine Classical.byContradiction λhn => ?_
  have:=Zda Zf5 λx hx=>Classical.byContradiction λh=>hn ⟨x,hx,h⟩
  rw [Zgs]at this;omega
 have hm:∀x∈SG.filter (λc => !decide (c∈ms)),x∉ms/\x<65536:=λx hx=>by
  obtain⟨h1,h2⟩:=List.mem_filter.mp hx;exact⟨by simpa using h2,Zf6 x h1⟩
 have hp:0<(SG.filter λc => !decide (c∈ms)).length:=List.length_pos_of_mem (List.mem_filter.mpr ⟨hz.1,by simpa using hz.2⟩);generalize SG.filter (λc => !decide (c∈ms))=near at hc hm hp;have dv:∀{v2 v3:Option D},eOp fdivD (Za 1) (eC (.int 3)) [some (.str ms),some (.int i),v2,v3]=some (.int (i / 3)):=λ{v2 v3}=>(Z0 (x:=.int i) (y:=.int 3) rfl rfl).trans (UQ ⟨by decide,by decide⟩)
 have t1:eOp eqD (eOp modD (Za 1) (eC (.int 3))) (eC (.int 0)) [some (.str ms),some (.int i),some (.str ODD),some (.lst (near.map λc => .str [c]))]=some (.bl (decide (i % 3=0))):=(Z0 ((Z0 (x:=.int i) (y:=.int 3) rfl rfl).trans (Vd (by decide))) rfl).trans (ZS _ _)
 by_cases hi:i % 3=0
 · rw [decide_eq_true hi]at t1
   obtain⟨z,h1,h2⟩:=ZcD (ms:=ODD) (by decide) (i / 3);obtain⟨h3,h5⟩:=Zjg z h2;refine⟨z,YB rfl ((Zt (Yi (d:=.str ODD) rfl)).trans ((Zt (Yi hc)).trans (Ve ((Vf (Yj t1)).trans (YY ((Z0 (x:=.str ODD) rfl ((Z0 dv ((Xy (Zl (x:=.str ODD) rfl nil_of)).trans (len_str (show 10<=100000 by decide)))).trans (Vd (show(0:Int)<(ODD.length:Nat) by decide)))).trans (JJ (show 10<=_ by rw [PySem.sizeLine_eq];omega) h1))))))),Zbg h4 (λh=>h3 (hs z h)) h5⟩
 · rw [decide_eq_false hi]at t1
   obtain⟨a,h1,h2⟩:=Zd5 (i / 3) hp;have hg:near[a]? = some near[a]:=List.getElem?_eq_getElem h2;obtain⟨h3,h5⟩:=hm near[a] (List.getElem_mem h2);refine⟨near[a],YB rfl ((Zt (Yi (d:=.str ODD) rfl)).trans ((Zt (Yi hc)).trans ((Zt ((YE (Yj t1)).trans rfl)).trans (YY ((Z0 (x:=.lst (near.map λc => .str [c])) (y:=.int (a:Nat)) rfl ((Z0 dv ((Xy (Zl (x:=.lst (near.map λc => .str [c])) rfl nil_of)).trans Zd6)).trans ?_)).trans (US (by rw [List.getElem?_map,hg];rfl))))))),Zbg h4 h3 h5⟩
   rw [List.length_map];exact(Vd (by omega)).trans (by rw [h1])
end K06
namespace K06
open DL L2
theorem Zni(a b:Nat):X3 [a,b]=[b,a]:=by with_unfolding_all rfl
theorem Znj(a b c:Nat):X3 [a,b,c]=[c,b,a]:=by with_unfolding_all rfl
theorem Znk(a b c d:Nat):X3 [a,b,c,d]=[d,c,b,a]:=by with_unfolding_all rfl
theorem Zjh{ms:List Nat}(h2:2<=ms.length)(h4:ms.length<=4):(X3 ms).length=ms.length/\∀x∈X3 ms,x∈ms:=by
 match ms,h2,h4 with
 | [a,b],_,_=>rw [Zni];exact⟨rfl,by simp⟩
 | [a,b,c],_,_=>rw [Znj];exact⟨rfl,by simp⟩
 | [a,b,c,d],_,_=>rw [Znk];exact⟨rfl,by simp⟩
theorem Zf7:∀x∈cs_MARK_SIGNS,x<65536:=by decide
theorem Zji{a:DL.Env->Option D}{δ:DL.Env}{cs:List Nat}(h:a δ=some (.str cs))(hl:cs.length<=1000):Qj a δ=some (.str (X3 cs)):=by
 unfold Qj;rw [h];dsimp only;rw [if_pos (by rw [PySem.sizeLine_eq];omega)]
theorem Zin{a:DL.Env->Option D}{lo hi:DL.Env->Option (Option Int)}{δ:DL.Env}{x:D}{l u:Option Int}(h1:a δ=some x)(h2:lo δ=some l)(h3:hi δ=some u):eSl a lo hi δ=slD x l u:=by
 unfold eSl;rw [h1];dsimp only;rw [h2];dsimp only;rw [h3]
theorem Zio{e:DL.Env->Option D}{δ:DL.Env}{i:Int}(h:e δ=some (.int i)):xP e δ=some (some i):=by
 unfold xP;rw [h]
theorem Q9{a e:DL.Env->Option D}{δ:DL.Env}{cs:List Nat}{j:Nat}(h1:a δ=some (.str cs))(h2:e δ=some (.int (j:Nat)))(hl:cs.length<=1000):eSl a xNoP (xP e) δ=some (.str (cs.take j)):=by
 rw [Zin h1 rfl (Zio h2)];show(if cs.length<=PySem.sizeLine then _ else _)=_;rw [if_pos (by rw [PySem.sizeLine_eq];omega),Zbe]
theorem ZhB{a e:DL.Env->Option D}{δ:DL.Env}{cs:List Nat}{j:Nat}(h1:a δ=some (.str cs))(h2:e δ=some (.int (j:Nat)))(hl:cs.length<=1000):eSl a (xP e) xNoP δ=some (.str (cs.drop j)):=by
 rw [Zin h1 (Zio h2) rfl];show(if cs.length<=PySem.sizeLine then _ else _)=_;rw [if_pos (by rw [PySem.sizeLine_eq];omega),L2.cut_from]
theorem Zdb{a b:List Nat}(h:a.length+b.length<=1000):addD (.str a) (.str b)=some (.str (a++b)):=by
 show(if a.length+b.length<=PySem.sizeLine then _ else _)=_;rw [if_pos (by rw [PySem.sizeLine_eq];omega)]
section
variable{ms:List Nat}{o:D}{S:List Nat->D}{B:List Nat->Nat->Bool}
theorem Zee(O:Ob ms o S B){w:List Nat}(hw:Bad ms w)(s:D):Q0 [o,s,.str w]=some (.str NM):=
 YB rfl ((Zt (Yi rfl)).trans ((Zt (Zgy (bs:=[true,true,false]) ((Uz rfl (Zl rfl (Zl rfl nil_of))).trans (O.bad hw s)) ⟨rfl,(show 4<6 by decide),(show 5<6 by decide),by decide⟩ Zec (show 3<=1000 by decide) (Yi (d:=.str NM) ((Z0 (x:=.lst [.str [97,110,111,116,104,101,114],.str NM]) (y:=.int (1:Nat)) (UR (Zl rfl (Zl rfl nil_of)) (show 2<=1000 by decide)) ((Xy (Zl ((Z0 rfl (UR (Zl rfl (Zl rfl (Zl rfl nil_of))) (show 3<=1000 by decide))).trans Zjb) nil_of)).trans rfl)).trans (US rfl))))).trans (YY rfl)))
noncomputable def goB:DL.Env->Option Out:=(Zi 4 (Xw "step" tab_step (Za 1) (Zb (Za 4) (Zb (Za 5) eNil))))
noncomputable def sgB:DL.Env->Option Out:=(Zf (sIf (xB (eOp neD (Zk 3 Q0 [] (Zb (Za 1) (Zb (ZA "begin" tab_begin (Za 1) eNil) (Zb (Za 6) eNil)))) (eC (.str [110,111,32,109,97,114,107])))) (Zn (eC (.bl false))) sNext)
 (sIf (xB (eOp neD (Zk 3 Q0 [] (Zb (Za 1) (Zb (Za 4) (Zb (Za 6) eNil)))) (eC (.str [110,111,32,109,97,114,107])))) (Zn (eC (.bl false))) sNext))
theorem ZmI:ZjY=(Zf (Zi 4 (ZA "begin" tab_begin (Za 1) eNil))
 (Zf (YN (Yu (Za 2)) (Yd 5) goB)
 (Zf (YN (Yu (Zx (Zb (eC (.str [])) (Zb (eC (.str [45])) (Zb (eC (.str [32])) (Zb (eSl (Za 0) xNoP (xP (eC (.int 2)))) (Zb (Qj (Za 0)) (Zb (Za 3) eNil)))))))) (Yd 6) sgB)
 (Zn (eC (.bl true)))))):=rfl
theorem Zef(O:Ob ms o S B)(h4:ms.length<=4)(x0 x2 x3 x6:Option D):∀(t r:List Nat)(v5:Option D),(∀x∈r,x∈ms)->(∀x∈t,x∈ms)->brW B r t=none->∃w5,YK (Yd 5) goB (t.map λc => .str [c]) [x0,some o,x2,x3,some (S r),v5,x6]=some (.nx [x0,some o,x2,x3,some (S (r++t)),w5,x6])
 | [],r,v5,_,_,_=>⟨v5,by rw [List.append_nil];rfl⟩
 |c::t,r,v5,hr,ht,hb=>by
  have hc:=ht c List.mem_cons_self;rw [VV]at hb
  by_cases hB:B r c=true
  · rw [if_pos hB]at hb;cases hb
  · rw [if_neg hB]at hb
    have h1:=(O.step h4 hr hc).1;rw [if_neg hB]at h1
    obtain⟨w5,ih⟩:=Zef O h4 x0 x2 x3 x6 t (r++[c]) (some (.str [c])) (λx hx=>by
     rcases List.mem_append.mp hx with h|h
     · exact hr x h
     · rw [List.mem_singleton.mp h];exact hc) (λx hx=>ht x (List.mem_cons_of_mem _ hx)) hb
    rw [List.append_assoc]at ih;exact⟨w5,(ZbC (r:=t.map λc => .str [c]) (δ1:=[x0,some o,x2,x3,some (S r),some (.str [c]),x6]) rfl (Yi ((Zap rfl (Zl rfl (Zl rfl nil_of))).trans h1))).trans ih⟩
theorem Zby(O:Ob ms o S B)(h2:2<=ms.length)(h4:ms.length<=4)(hs:∀x∈ms,x∈cs_MARK_SIGNS){row:List Nat}(hr:∀x∈row,x∈ms)(hb:brW B [] row=none){z:Nat}(hz:Bad ms [z]):JU [.str ms,o,.str row,.str [z]]=some (.bl true):=by
 obtain⟨w5,e1⟩:=Zef O h4 (some (.str ms)) (some (.str row)) (some (.str [z])) none row [] none (λx hx=>by cases hx) hr hb;rw [List.nil_append]at e1;have sm:∀x∈ms,x<65536:=λx hx=>Zf7 x (hs x hx)
 obtain⟨r1,r2⟩:=Zjh h2 h4
 have bads:∀d∈[D.str [],.str [45],.str [32],.str (ms.take 2),.str (X3 ms),.str [z]],∃w,d = .str w/\Bad ms w:=by
  intro d hd;simp only [List.mem_cons,List.mem_nil_iff,or_false]at hd;rcases hd with rfl|rfl|rfl|rfl|rfl|rfl
  · exact⟨_,rfl,Zck (by decide) (by decide) λx hx=>by cases hx⟩
  · exact⟨_,rfl,Zbg h4 (λh=>absurd (hs _ h) (by decide)) (by decide)⟩
  · exact⟨_,rfl,Zbg h4 (λh=>absurd (hs _ h) (by decide)) (by decide)⟩
  · exact⟨_,rfl,Zck (by rw [List.length_take];omega) (by rw [List.length_take];omega) λx hx=>sm x (List.mem_of_mem_take hx)⟩
  · exact⟨_,rfl,Zck (by omega) (by omega) λx hx=>sm x (r2 x hx)⟩
  · exact⟨_,rfl,hz⟩
 obtain⟨δ',h5,w6,rfl⟩:=Zas (γ:=Yd 6) (φ:=sgB) (λδ=>∃w6,δ=[some (.str ms),some o,some (.str row),some (.str [z]),some (S row),w5,w6]) [D.str [],.str [45],.str [32],.str (ms.take 2),.str (X3 ms),.str [z]] [some (.str ms),some o,some (.str row),some (.str [z]),some (S row),w5,none] ⟨none,rfl⟩ (by
  rintro d hd δ ⟨w6,rfl⟩
  obtain⟨w,rfl,hw⟩:=bads d hd;refine⟨[some (.str ms),some o,some (.str row),some (.str [z]),some (S row),w5,some (.str w)],rfl,_,(Zt ((YE (Yj ((Z0 ((Ys (Zl rfl (Zl ((U4 rfl nil_of).trans O.bg) (Zl rfl nil_of))) rfl).trans (Zee O hw _)) rfl).trans (Zgx NM)))).trans rfl)).trans ((YE (Yj ((Z0 ((Ys (Zl rfl (Zl rfl (Zl rfl nil_of))) rfl).trans (Zee O hw _)) rfl).trans (Zgx NM)))).trans rfl),some (.str w),rfl⟩)
 have hl:Yu (Zx (Zb (eC (.str [])) (Zb (eC (.str [45])) (Zb (eC (.str [32])) (Zb (eSl (Za 0) xNoP (xP (eC (.int 2)))) (Zb (Qj (Za 0)) (Zb (Za 3) eNil))))))) [some (.str ms),some o,some (.str row),some (.str [z]),some (S row),w5,none]=some [D.str [],.str [45],.str [32],.str (ms.take 2),.str (X3 ms),.str [z]]:=by
  unfold Yu;rw [UR (Zl rfl (Zl rfl (Zl rfl (Zl (Q9 (j:=2) rfl rfl (by omega)) (Zl (Zji rfl (by omega)) (Zl rfl nil_of)))))) (show 6<=1000 by decide)]
 exact YB rfl ((congrFun ZmI _).trans ((Zt (Yi ((U4 rfl nil_of).trans O.bg))).trans ((Zt (Xx rfl e1)).trans ((Zt (Xx hl h5)).trans rfl))))
noncomputable def fiB:DL.Env->Option Out:=(sIf (xB (Zk 3 Xj [] (Zb (Za 0) (Zb (Za 1) (Zb (eSl (Za 2) xNoP (xP (eOp addD (Za 3) (eC (.int 1))))) eNil))))) (Zn (Za 3)) sNext)
theorem Zip:ZjZ=(Zf (YN (Xg (Zb (eCB lenD (Zb (Za 2) eNil)) eNil)) (Yd 3) fiB) (Zn (eC .non))):=rfl
theorem Zjj(lo:Int)(n:Nat):YA lo 1 (n+1) = .int lo::YA (lo+1) 1 n:=by
 unfold YA;rw [List.range_succ_eq_map,List.map_cons,List.map_map]
 congr 1
 · simp
 · refine List.map_congr_left λk _ => ?_
   show D.int (lo+((k+1:Nat):Int)*1)=D.int (lo+1+(k:Int)*1)
   congr 1
   omega
theorem Za9{d:D}(R:Ru ms d o S B){row:List Nat}(hr:∀x∈row,x∈ms)(hl:row.length<=200):∀(t r:List Nat)(v3:Option D),r++t=row->(∀j,brW B r t=some j->YK (Yd 3) fiB (YA (r.length:Nat) 1 t.length) [some (.str ms),some d,some (.str row),v3]=some (.rt (.int (j:Nat))))/\(brW B r t=none->∃w3,YK (Yd 3) fiB (YA (r.length:Nat) 1 t.length) [some (.str ms),some d,some (.str row),v3]=some (.nx [some (.str ms),some d,some (.str row),w3]))
 | [],r,v3,_=>⟨λj h=>(by cases h),λ_=>⟨v3,rfl⟩⟩
 |c::t,r,v3,hrow=>by
  have hin:∀x∈r++[c],x∈ms:=λx hx=>hr x (by
   rw [<-hrow];rcases List.mem_append.mp hx with h|h
   · exact List.mem_append_left _ h
   · exact List.mem_append_right _ (by rw [List.mem_singleton.mp h];exact List.mem_cons_self))
  have hlr:r.length<=200:=by rw [<-hrow,List.length_append]at hl;omega
  have hb:=ZaR R hin hlr
  have hcut:eSl (Za 2) xNoP (xP (eOp addD (Za 3) (eC (.int 1)))) [some (.str ms),some d,some (.str row),some (.int (r.length:Nat))]=some (.str (r++[c])):=by
   refine(Q9 (j:=r.length+1) rfl ((Z0 rfl rfl).trans rfl) (by omega)).trans ?_;rw [<-hrow,List.take_append,List.take_of_length_le (by omega)];simp
  have t1:xB (Zk 3 Xj [] (Zb (Za 0) (Zb (Za 1) (Zb (eSl (Za 2) xNoP (xP (eOp addD (Za 3) (eC (.int 1))))) eNil)))) [some (.str ms),some d,some (.str row),some (.int (r.length:Nat))]=some (B r c):=Yj ((Ys (Zl rfl (Zl rfl (Zl hcut nil_of))) rfl).trans hb);have g:Yd 3 (.int (r.length:Nat)) [some (.str ms),some d,some (.str row),v3]=some [some (.str ms),some d,some (.str row),some (.int (r.length:Nat))]:=rfl
  obtain⟨i1,i2⟩:=Za9 R hr hl t (r++[c]) (some (.int (r.length:Nat))) (by rw [List.append_assoc];exact hrow);rw [List.length_append,List.length_singleton]at i1 i2;rw [VV,List.length_cons,Zjj]
  by_cases hB:B r c=true
  · rw [hB]at t1
    rw [if_pos hB];refine⟨λj hj => ?_,λhj=>by cases hj⟩;cases hj;exact ZdG g ((Vf t1).trans (YY rfl))
  · rw [Bool.not_eq_true]at hB
    rw [hB]at t1;rw [hB,if_neg Bool.false_ne_true];have b1:fiB [some (.str ms),some d,some (.str row),some (.int (r.length:Nat))]=some (.nx [some (.str ms),some d,some (.str row),some (.int (r.length:Nat))]):=(YE t1).trans rfl;have e:=ZbC (r:=YA ((r.length:Int)+1) 1 t.length) g b1;rw [e];exact⟨i1,i2⟩
theorem Zf8{d:D}(R:Ru ms d o S B){row:List Nat}(hr:∀x∈row,x∈ms)(hl:row.length<=200):JV [.str ms,d,.str row]=some (oz (brW B [] row)):=by
 obtain⟨l1,l2⟩:=Za9 R hr hl row [] none rfl;have hi:Xg (Zb (eCB lenD (Zb (Za 2) eNil)) eNil) [some (.str ms),some d,some (.str row),none]=some (YA 0 1 row.length):=(JL (j:=(row.length:Int)) (Zl ((Xy (Zl rfl nil_of)).trans (len_str (by omega))) nil_of) (by omega) (by omega)).trans (by rw [Int.toNat_natCast]);cases hb:brW B [] row with
 |some j=>exact YB rfl ((congrFun Zip _).trans (Ve (Xx hi (l1 j hb))))
 |none=>
  obtain⟨w3,e⟩:=l2 hb;exact YB rfl ((congrFun Zip _).trans ((Zt (Xx hi e)).trans rfl))
end
noncomputable def siB:DL.Env->Option Out:=(Zf (Zi 6 (eC (.str [110,111,32,109,97,114,107])))
 (Zf (Zi 7 (Zk 3 JV [] (Zb (Za 0) (Zb (Za 5) (Zb (eSl (Za 2) xNoP (xP (Za 3))) eNil)))))
 (Zf (sIf (xB (ZD (Za 7))) (Zi 6 (Za 7)) sNext)
 (sIf (Zu (xB (Zk 3 XB [] (Zb (Zk 2 XN [] (Zb (Za 0) (Zb (Za 5) eNil))) (Zb (eOp addD (eOp addD (eSl (Za 2) xNoP (xP (Za 3))) (Za 4)) (eSl (Za 2) (xP (Za 3)) xNoP)) (Zb (Za 6) eNil)))))) (Zn (eC (.bl false))) sNext))))
theorem ZmJ:Zj0=(Zf (YN (Yu (Za 1)) (Yd 5) siB) (Zn (eC (.bl true)))):=rfl
theorem Zgz{row:List Nat}(hl:row.length<=200){j z:Nat}{a e s:DL.Env->Option D}{δ:DL.Env}(h1:a δ=some (.str row))(h2:e δ=some (.int (j:Nat)))(h3:s δ=some (.str [z])):eOp addD (eOp addD (eSl a xNoP (xP e)) s) (eSl a (xP e) xNoP) δ=some (.str (row.take j++z::row.drop j)):=by
 refine(Z0 ((Z0 (Q9 h1 h2 (by omega)) h3).trans (Zdb (by rw [List.length_take,List.length_singleton];omega))) (ZhB h1 h2 (by omega))).trans ((Zdb ?_).trans ?_)
 · rw [List.length_append,List.length_take,List.length_drop,List.length_singleton];omega
 · rw [List.append_assoc];rfl
theorem Zdu{ms:List Nat}(M:Ms ms){qs:List Rc}(hp:Rus ms qs){row:List Nat}(hr:∀x∈row,x∈ms)(hl:row.length<=200){z:Nat}(hz:Bad ms [z])(j:Nat):Zj1 [.str ms,.lst (qs.map λq=>q.d),.str row,.int (j:Nat),.str [z]]=some (.bl true):=by
 generalize hdd:D.lst (qs.map λq=>q.d)=dd;have hit:Yu (Za 1) [some (.str ms),some dd,some (.str row),some (.int (j:Nat)),some (.str [z]),none,none,none]=some (qs.map λq=>q.d):=by rw [<-hdd];rfl
 obtain⟨δ',h1,w5,w6,w7,rfl⟩:=Zas (γ:=Yd 5) (φ:=siB) (λδ=>∃w5 w6 w7,δ=[some (.str ms),some dd,some (.str row),some (.int (j:Nat)),some (.str [z]),w5,w6,w7]) (qs.map λq=>q.d) [some (.str ms),some dd,some (.str row),some (.int (j:Nat)),some (.str [z]),none,none,none] ⟨none,none,none,rfl⟩ (by
  rintro d hd δ ⟨w5,w6,w7,rfl⟩
  obtain⟨q,hq,rfl⟩:=List.mem_map.mp hd;have R:=hp q hq;have ht:∀x∈row.take j,x∈ms:=λx hx=>hr x (List.mem_of_mem_take hx)
  have hf:=Zf8 R ht (by rw [List.length_take];omega);have hD:=Q8 (ZdK (q:=row.drop j) (R.sg M.hi).ob M.hi ht hz);refine⟨[some (.str ms),some dd,some (.str row),some (.int (j:Nat)),some (.str [z]),some q.d,w6,w7],rfl,?_⟩;generalize brW q.B [] (row.take j)=bk at hf hD
  have a1:∀{X:DL.Env->Option Out},Zf (Zi 6 (eC (.str [110,111,32,109,97,114,107]))) (Zf (Zi 7 (Zk 3 JV [] (Zb (Za 0) (Zb (Za 5) (Zb (eSl (Za 2) xNoP (xP (Za 3))) eNil))))) X) [some (.str ms),some dd,some (.str row),some (.int (j:Nat)),some (.str [z]),some q.d,w6,w7]=X [some (.str ms),some dd,some (.str row),some (.int (j:Nat)),some (.str [z]),some q.d,some (.str NM),some (oz bk)]:=λ{X}=>
   (Zt (Yi rfl)).trans (Zt (Yi ((Ys (Zl rfl (Zl rfl (Zl (Q9 rfl rfl (by omega)) nil_of))) rfl).trans hf)))
  have a2:sIf (xB (ZD (Za 7))) (Zi 6 (Za 7)) sNext [some (.str ms),some dd,some (.str row),some (.int (j:Nat)),some (.str [z]),some q.d,some (.str NM),some (oz bk)]=some (.nx [some (.str ms),some dd,some (.str row),some (.int (j:Nat)),some (.str [z]),some q.d,some (ZkF bk),some (oz bk)]):=by
   cases bk with
   |none=>exact(YE (Yj (UB (d:=.non) rfl))).trans rfl
   |some i=>exact(Vf (Yj (UB (d:=.int (i:Nat)) rfl))).trans (Yi rfl)
  exact⟨_,a1.trans ((Zt a2).trans ((YE (VN (Yj ((Ys (Zl ((Ys (Zl rfl (Zl rfl nil_of)) rfl).trans (Zcj M R)) (Zl (Zgz hl rfl rfl rfl) (Zl rfl nil_of))) rfl).trans hD)))).trans rfl)),some q.d,_,_,rfl⟩)
 exact YB rfl ((congrFun ZmJ _).trans ((Zt (Xx hit h1)).trans rfl))
end K06
namespace K06
open DL L2
theorem Zeg{qs:List Rc}{q:Rc}(hq:q∈qs):∀(t r:List Nat),brW (Xb qs) r t=none->brW q.B r t=none
 | [],r,_=>rfl
 |c::t,r,h=>by
  rw [VV]at h ⊢
  by_cases hB:Xb qs r c=true
  · rw [if_pos hB]at h;cases h
  · rw [if_neg hB]at h
    have:¬q.B r c=true:=λe=>hB (List.any_eq_true.mpr ⟨q,hq,e⟩)
    rw [if_neg this];exact Zeg hq t _ h
theorem ZcE:∀(t r:List Nat),brW (λ_ _=>false) r t=none
 | [],r=>rfl
 |c::t,r=>by rw [VV,if_neg Bool.false_ne_true];exact ZcE t _
theorem ZhC{i j:Nat}{ε:DL.Env->Option D}{δ:DL.Env}{x y:D}(h:ε δ=some (.tup [x,y])):QS (YX 2 (Yr i (Yr j gsNil))) ε δ=some (.nx ((δ.set i (some x)).set j (some y))):=by
 unfold QS;rw [h];rfl
def ZhL(n:Nat):Option Nat->Option Nat
 |some j=>if j<n then some j else none
 |none=>none
theorem ZhD(B:List Nat->Nat->Bool)(row:List Nat)(n:Nat):brW B [] (row.take n)=ZhL n (brW B [] row):=by
 rw [Zbx];cases brW B [] row<;>rfl
noncomputable def loB:DL.Env->Option Out:=(sIf (Zu (xB (Zk 4 JU [] (Zb (Za 1) (Zb (Za 9) (Zb (Za 7) (Zb (Za 8) eNil))))))) (Zn (eC (.bl false))) sNext)
noncomputable def Zlh:DL.Env->Option D:=(eOp addD (eOp addD (eSl (Za 3) xNoP (xP (Za 10))) (Za 11)) (eSl (Za 3) (xP (Za 10)) xNoP))
noncomputable def mkE:DL.Env->Option D:=(ZE "Rule" 2 X4 [] (Zb (Za 1) eNil))
noncomputable def lwT:DL.Env->Option Out:=(Zf (Zi 10 (eOp modD (Zk 2 YZ [] (Zb (Za 0) (Zb (eC (.int 3)) eNil))) (eOp addD (eCB lenD (Zb (Za 3) eNil)) (eC (.int 1)))))
 (Zf (Zi 11 (Zk 2 U3 [] (Zb (Za 1) (Zb (eOp fdivD (Zk 2 YZ [] (Zb (Za 0) (Zb (eC (.int 3)) eNil))) (eC (.int 97))) eNil))))
 (Zf (Zi 12 (eC (.str [110,111,32,109,97,114,107])))
 (Zf (sIf (ZC (xB (ZD (Za 4))) (xB (eOp (Zw λi j=>decide (i<j)) (Za 4) (Za 10)))) (Zi 12 (Za 4)) sNext)
 (Zf (sIf (Zu (xB (Zk 3 XB [] (Zb (Za 6) (Zb Zlh (Zb (Za 12) eNil)))))) (Zn (eC (.bl false))) sNext)
 (Zf (sIf (Zu (xB (Zk 5 Zj1 [] (Zb (Za 1) (Zb (Za 2) (Zb (Za 3) (Zb (Za 10) (Zb (Za 11) eNil)))))))) (Zn (eC (.bl false))) sNext)
 (Zn (Zk 3 XB [] (Zb mkE (Zb Zlh (Zb (eC (.str [110,111,32,109,97,114,107])) eNil)))))))))))
noncomputable def lwM:DL.Env->Option Out:=(Zf (YN (Yu (eOp JI (Za 5) (Zx (Zb (Za 6) (Zb mkE eNil))))) (Yd 9) loB)
 (Zf (sIf (xOr (Zu (xB (Zk 3 XB [] (Zb (Za 6) (Zb (Za 3) (Zb (Za 4) eNil)))))) (Zu (xB (Zk 3 XB [] (Zb mkE (Zb (Za 3) (Zb (eC .non) eNil))))))) (Zn (eC (.bl false))) sNext)
 (Zf (sIf (ZC (xB (ZD (Za 4))) (Zu (xB (Zk 3 XB [] (Zb (Za 6) (Zb (eSl (Za 3) xNoP (xP (Za 4))) (Zb (eC .non) eNil))))))) (Zn (eC (.bl false))) sNext)
 (Zf (sIf (xB (eOp eqD (eOp modD (eOp fdivD (Zk 2 YZ [] (Zb (Za 0) (Zb (eC (.int 2)) eNil))) (eC (.int 11))) (eC (.int 3))) (eC (.int 1)))) lwT sNext)
 (Zn (eC (.bl true)))))))
theorem Zjk:Zj2=(Zf (Zi 1 (Zk 1 JT [] (Zb (Zk 2 YZ [] (Zb (Za 0) (Zb (eC (.int 0)) eNil))) eNil)))
 (Zf (Zi 2 (Zk 2 ZjV [] (Zb (Za 0) (Zb (Za 1) eNil))))
 (Zf (QS (YX 2 (Yr 3 (Yr 4 gsNil))) (Zk 3 ZjX [] (Zb (Za 0) (Zb (Za 1) (Zb (Za 2) eNil)))))
 (Zf (Zi 5 (YJ (Yu (Za 2)) (Yd 0) (λ_=>some true) (Zk 2 XN [] (Zb (Za 1) (Zb (Za 0) eNil))) 1 [1]))
 (Zf (Zi 6 (ZE "All" 3 ZjM [] (Zb (Za 1) (Zb (Za 5) eNil))))
 (Zf (Zi 7 (Za 3))
 (Zf (sIf (xB (ZD (Za 4))) (Zi 7 (eSl (Za 3) xNoP (xP (Za 4)))) sNext)
 (Zf (Zi 8 (Zk 2 U3 [] (Zb (Za 1) (Zb (eOp fdivD (Zk 2 YZ [] (Zb (Za 0) (Zb (eC (.int 4)) eNil))) (eC (.int 11))) eNil))))
 lwM)))))))):=rfl
section
variable{ms row kt:List Nat}{qs:List Rc}{ns:List Int}{z:Nat}{b:Option Nat}
abbrev EL(ns:List Int)(ms row kt:List Nat)(qs:List Rc)(b:Option Nat)(v8 v9 v10 v11 v12:Option D):DL.Env:=[some (.lst (ns.map D.int)),some (.str ms),some (.lst (qs.map λq=>q.d)),some (.str row),some (oz b),some (.lst (qs.map λq=>q.o)),some (Vy ms (qs.map λq=>q.o)),some (.str kt),v8,v9,v10,v11,v12]
theorem ZgS(M:Ms ms){δ:DL.Env}(h:Za 1 δ=some (.str ms)):mkE δ=some (ZbB ms):=(Zd7 (Zl h nil_of) rfl).trans (Qs M "Rule" rfl)
theorem ZhE(M:Ms ms)(hs:∀x∈ms,x∈cs_MARK_SIGNS)(hp:Rus ms qs)(hl:qs.length<=6)(hr:∀x∈row,x∈ms)(hrl:row.length<=63)(hb:brW (Xb qs) [] row=b)(v8 v9:Option D):lwT (EL ns ms row kt qs b v8 v9 none none none)=some (.rt (.bl true)):=by
 have A:=Zgv (λq hq=>(hp q hq).sg M.hi) (show qs.length<=100 by omega);have P:=Zc5 ms;obtain⟨j,hj,hjl⟩:=Zd5 (ns.getD 3 0) (show 0<row.length+1 by omega);obtain⟨z,hz1,hz⟩:=Za8 M.hi hs (ns.getD 3 0 / 97);have ht:∀x∈row.take j,x∈ms:=λx hx=>hr x (List.mem_of_mem_take hx)
 have f1:=Q8 (ZdK (q:=row.drop j) A M.hi ht hz);have f2:=Q8 (ZdK (q:=row.drop j) P M.hi ht hz);rw [ZcE]at f2;rw [ZhD,hb]at f1;have f3:=Zdu M hp hr (show row.length<=200 by omega) hz j;have c3:∀{v8 v9 v10 v11 v12:Option D},Zk 2 YZ [] (Zb (Za 0) (Zb (eC (.int 3)) eNil)) (EL ns ms row kt qs b v8 v9 v10 v11 v12)=some (.int (ns.getD 3 0)):=λ{_ _ _ _ _}=>(Ys (Zl rfl (Zl rfl nil_of)) rfl).trans (Q3 ns 3)
 have a10:Zi 10 (eOp modD (Zk 2 YZ [] (Zb (Za 0) (Zb (eC (.int 3)) eNil))) (eOp addD (eCB lenD (Zb (Za 3) eNil)) (eC (.int 1)))) (EL ns ms row kt qs b v8 v9 none none none)=some (.nx (EL ns ms row kt qs b v8 v9 (some (.int (j:Nat))) none none)):=by
  refine Yi ((Z0 (y:=.int ((row.length+1:Nat):Int)) c3 ((Z0 ((Xy (Zl rfl nil_of)).trans (len_str (by omega))) rfl).trans rfl)).trans ((Vd (by omega)).trans (by rw [hj])))
 have a11:Zi 11 (Zk 2 U3 [] (Zb (Za 1) (Zb (eOp fdivD (Zk 2 YZ [] (Zb (Za 0) (Zb (eC (.int 3)) eNil))) (eC (.int 97))) eNil))) (EL ns ms row kt qs b v8 v9 (some (.int (j:Nat))) none none)=some (.nx (EL ns ms row kt qs b v8 v9 (some (.int (j:Nat))) (some (.str [z])) none)):=
  Yi ((Ys (Zl rfl (Zl ((Z0 c3 rfl).trans (UQ ⟨by decide,by decide⟩)) nil_of)) rfl).trans hz1)
 have a12:sIf (ZC (xB (ZD (Za 4))) (xB (eOp (Zw λi j=>decide (i<j)) (Za 4) (Za 10)))) (Zi 12 (Za 4)) sNext (EL ns ms row kt qs b v8 v9 (some (.int (j:Nat))) (some (.str [z])) (some (.str NM)))=some (.nx (EL ns ms row kt qs b v8 v9 (some (.int (j:Nat))) (some (.str [z])) (some (ZkF (ZhL j b))))):=by
  cases b with
  |none=>exact(YE (JK (Yj (UB (d:=.non) rfl)))).trans rfl
  |some i=>
   have t:xB (eOp (Zw λi j=>decide (i<j)) (Za 4) (Za 10)) (EL ns ms row kt qs (some i) v8 v9 (some (.int (j:Nat))) (some (.str [z])) (some (.str NM)))=some (decide ((i:Int)<(j:Int))):=Yj ((Z0 rfl rfl).trans rfl)
   by_cases h:i<j
   · rw [decide_eq_true (by omega)]at t
     rw [show ZhL j (some i)=some i from if_pos h];exact(Vf (Ud (Yj (UB (d:=.int (i:Nat)) rfl)) t)).trans (Yi rfl)
   · rw [decide_eq_false (by omega)]at t
     rw [show ZhL j (some i)=none from if_neg h];exact(YE (Ud (Yj (UB (d:=.int (i:Nat)) rfl)) t)).trans rfl
 generalize ZkF (ZhL j b)=due at f1 a12;have ce:∀{v12:Option D},Zlh (EL ns ms row kt qs b v8 v9 (some (.int (j:Nat))) (some (.str [z])) v12)=some (.str (row.take j++z::row.drop j)):=λ{_}=>Zgz (by omega) rfl rfl rfl
 exact(Zt a10).trans ((Zt a11).trans ((Zt (Yi rfl)).trans ((Zt a12).trans ((Zt ((YE (VN (Yj ((Ys (Zl rfl (Zl ce (Zl rfl nil_of))) rfl).trans f1)))).trans rfl)).trans ((Zt ((YE (VN (Yj ((Ys (Zl rfl (Zl rfl (Zl rfl (Zl rfl (Zl rfl nil_of))))) rfl).trans f3)))).trans rfl)).trans (YY ((Ys (Zl (ZgS M rfl) (Zl ce (Zl rfl nil_of))) rfl).trans f2)))))))
theorem Zjl(M:Ms ms)(hs:∀x∈ms,x∈cs_MARK_SIGNS)(hp:Rus ms qs)(hl:qs.length<=6)(hr:∀x∈row,x∈ms)(hrl:row.length<=63)(hb:brW (Xb qs) [] row=b)(hk:∀x∈kt,x∈ms)(hkb:brW (Xb qs) [] kt=none)(hz:Bad ms [z]):lwM (EL ns ms row kt qs b (some (.str [z])) none none none none)=some (.rt (.bl true)):=by
 have A:=Zgv (λq hq=>(hp q hq).sg M.hi) (show qs.length<=100 by omega);have P:=Zc5 ms
 have hit:Yu (eOp JI (Za 5) (Zx (Zb (Za 6) (Zb mkE eNil)))) (EL ns ms row kt qs b (some (.str [z])) none none none none)=some ((qs.map λq=>q.o)++[Vy ms (qs.map λq=>q.o),ZbB ms]):=by
  unfold Yu;rw [Z0 (x:=.lst (qs.map λq=>q.o)) rfl (UR (Zl rfl (Zl (ZgS M rfl) nil_of)) (show 2<=1000 by decide))]
  show(match Zjs (.lst (qs.map λq=>q.o)) (.lst [Vy ms (qs.map λq=>q.o),ZbB ms])with
   |some (.lst xs)=>some xs
   |some (.tup xs)=>some xs
   |some (.str cs)=>some (cs.map λc => .str [c])
   |_=>none)=_
  rw [Zho (by rw [List.length_map];show qs.length+2<=_;omega)]
 obtain⟨δ',h1,w9,rfl⟩:=Zas (γ:=Yd 9) (φ:=loB) (λδ=>∃w9,δ=EL ns ms row kt qs b (some (.str [z])) w9 none none none) ((qs.map λq=>q.o)++[Vy ms (qs.map λq=>q.o),ZbB ms]) (EL ns ms row kt qs b (some (.str [z])) none none none none) ⟨none,rfl⟩ (by
  rintro o ho δ ⟨w9,rfl⟩
  have e:JU [.str ms,o,.str kt,.str [z]]=some (.bl true):=by
   rcases List.mem_append.mp ho with h|h
   · obtain⟨q,hq,rfl⟩:=List.mem_map.mp h
     exact Zby ((hp q hq).sg M.hi).ob M.lo M.hi hs hk (Zeg hq _ _ hkb) hz
   · simp only [List.mem_cons,List.mem_nil_iff,or_false]at h
     rcases h with rfl|rfl
     · exact Zby A M.lo M.hi hs hk hkb hz
     · exact Zby P M.lo M.hi hs hk (ZcE _ _) hz
  exact⟨EL ns ms row kt qs b (some (.str [z])) (some o) none none none,rfl,_,(YE (VN (Yj ((Ys (Zl rfl (Zl rfl (Zl rfl (Zl rfl nil_of)))) rfl).trans e)))).trans rfl,some o,rfl⟩)
 have g1:=Q8 (ZdJ A M.hi hr);rw [hb]at g1;have g2:=Q8 (ZdJ P M.hi hr);rw [ZcE]at g2
 have t1:sIf (xOr (Zu (xB (Zk 3 XB [] (Zb (Za 6) (Zb (Za 3) (Zb (Za 4) eNil)))))) (Zu (xB (Zk 3 XB [] (Zb mkE (Zb (Za 3) (Zb (eC .non) eNil))))))) (Zn (eC (.bl false))) sNext (EL ns ms row kt qs b (some (.str [z])) w9 none none none)=some (.nx (EL ns ms row kt qs b (some (.str [z])) w9 none none none)):=
  (YE (ZiU (VN (Yj ((Ys (Zl rfl (Zl rfl (Zl rfl nil_of))) rfl).trans g1))) (VN (Yj ((Ys (Zl (ZgS M rfl) (Zl rfl (Zl rfl nil_of))) rfl).trans g2))))).trans rfl
 have t2:sIf (ZC (xB (ZD (Za 4))) (Zu (xB (Zk 3 XB [] (Zb (Za 6) (Zb (eSl (Za 3) xNoP (xP (Za 4))) (Zb (eC .non) eNil))))))) (Zn (eC (.bl false))) sNext (EL ns ms row kt qs b (some (.str [z])) w9 none none none)=some (.nx (EL ns ms row kt qs b (some (.str [z])) w9 none none none)):=by
  cases b with
  |none=>exact(YE (JK (Yj (UB (d:=.non) rfl)))).trans rfl
  |some i=>
   have g3:=Q8 (ZdJ A M.hi (row:=row.take i) λx hx=>hr x (List.mem_of_mem_take hx));rw [Zbx,hb]at g3;dsimp only at g3;rw [if_neg (Nat.lt_irrefl i)]at g3;exact(YE (Ud (Yj (UB (d:=.int (i:Nat)) rfl)) (VN (Yj ((Ys (Zl rfl (Zl (Q9 rfl rfl (by omega)) (Zl rfl nil_of))) rfl).trans g3))))).trans rfl
 have t3:xB (eOp eqD (eOp modD (eOp fdivD (Zk 2 YZ [] (Zb (Za 0) (Zb (eC (.int 2)) eNil))) (eC (.int 11))) (eC (.int 3))) (eC (.int 1))) (EL ns ms row kt qs b (some (.str [z])) w9 none none none)=some (decide (ns.getD 2 0 / 11 % 3=1)):=Yj ((Z0 ((Z0 ((Z0 ((Ys (Zl rfl (Zl rfl nil_of)) rfl).trans (Q3 ns 2)) rfl).trans (UQ ⟨by decide,by decide⟩)) rfl).trans (Vd (by decide))) rfl).trans (ZS _ _))
 refine(Zt (Xx hit h1)).trans ((Zt t1).trans ((Zt t2).trans ?_))
 by_cases hq:ns.getD 2 0 / 11 % 3=1
 · rw [decide_eq_true hq]at t3
   exact Ve ((Vf t3).trans (ZhE M hs hp hl hr hrl hb _ _))
 · rw [decide_eq_false hq]at t3
   exact(Zt ((YE t3).trans rfl)).trans rfl
end
theorem all_true(ns:List Int)(hns:ns.length<=63):JW [.lst (ns.map D.int)]=some (.bl true):=by
 have MS:=ZfM (ns.getD 0 0);have hm:=ZfL (ns.getD 0 0);have hs:=Zc2 (ns.getD 0 0);generalize Ux (ns.getD 0 0)=ms at MS hm hs;obtain⟨qs,hp,hpl,hrs⟩:=Zf2 MS.lo MS.hi ns;obtain⟨row,hr,hrl,hrow⟩:=Zi8 MS.lo MS.hi hp (by omega) ns hns;have hc0:=Q3 ns 0
 have hsg:∀o∈qs.map (λq=>q.o),∃S B,Sg ms o S B:=λo ho=>by
  obtain⟨q,h1,rfl⟩:=List.mem_map.mp ho;exact⟨_,_,(hp q h1).sg MS.hi⟩
 have hmd:∀{v0 v3 v4 v5 v6 v7 v8 v9 v10 v11 v12:Option D},YJ (Yu (Za 2)) (Yd 0) (λ_=>some true) (Zk 2 XN [] (Zb (Za 1) (Zb (Za 0) eNil))) 1 [1] [v0,some (.str ms),some (.lst (qs.map λq=>q.d)),v3,v4,v5,v6,v7,v8,v9,v10,v11,v12]=some (.lst (qs.map λq=>q.o)):=λ{_ _ _ _ _ _ _ _ _ _ _}=>by
  refine Ur rfl rfl ((Vc (λd=>(XN [.str ms,d]).getD .non) (qs.map λq=>q.d) λd hd => ?_).trans ?_) (by rw [List.length_map];omega)
  · obtain⟨p,h1,rfl⟩:=List.mem_map.mp hd
    refine⟨_,rfl,(Ys (Zl rfl (Zl rfl nil_of)) rfl).trans ?_⟩;show XN [.str ms,p.d]=_;rw [Zcj MS (hp p h1)];rfl
  · rw [List.map_map]
    congr 1
    refine List.map_congr_left λp h1 => ?_
    show(XN [.str ms,p.d]).getD .non=p.o;rw [Zcj MS (hp p h1)];rfl
 obtain⟨z,hz1,hz⟩:=Za8 MS.hi hs (ns.getD 4 0 / 11);have hai:=Zf0 MS hsg (by rw [List.length_map];exact hpl);have h8:∀{v2 v3 v4 v5 v6 v7 v8 v9 v10 v11 v12:Option D},Zk 2 U3 [] (Zb (Za 1) (Zb (eOp fdivD (Zk 2 YZ [] (Zb (Za 0) (Zb (eC (.int 4)) eNil))) (eC (.int 11))) eNil)) [some (.lst (ns.map D.int)),some (.str ms),v2,v3,v4,v5,v6,v7,v8,v9,v10,v11,v12]=some (.str [z]):=λ{_ _ _ _ _ _ _ _ _ _ _}=>(Ys (Zl rfl (Zl ((Z0 ((Ys (Zl rfl (Zl rfl nil_of)) rfl).trans (Q3 ns 4)) rfl).trans (UQ ⟨by decide,by decide⟩)) nil_of)) rfl).trans hz1
 generalize hb:brW (Xb qs) [] row=b at hrow
 have fin:∀kt:List Nat,(∀x∈kt,x∈ms)->brW (Xb qs) [] kt=none->sIf (xB (ZD (Za 4))) (Zi 7 (eSl (Za 3) xNoP (xP (Za 4)))) sNext (EL ns ms row row qs b none none none none none)=some (.nx (EL ns ms row kt qs b none none none none none))->JW [.lst (ns.map D.int)]=some (.bl true):=λkt h1 h2 h3=>
  YB rfl ((congrFun Zjk _).trans ((Zt (Yi ((Ys (Zl ((Ys (Zl rfl (Zl rfl nil_of)) rfl).trans hc0) nil_of) rfl).trans hm))).trans ((Zt (Yi ((Ys (Zl rfl (Zl rfl nil_of)) rfl).trans hrs))).trans ((Zt (ZhC ((Ys (Zl rfl (Zl rfl (Zl rfl nil_of))) rfl).trans hrow))).trans ((Zt (Yi hmd)).trans ((Zt (Yi ((Zd7 (Zl rfl (Zl rfl nil_of)) rfl).trans hai))).trans ((Zt (Yi rfl)).trans ((Zt h3).trans ((Zt (Yi h8)).trans (Zjl MS hs hp hpl hr hrl hb h1 h2 hz))))))))))
 cases b with
 |none=>exact fin row hr hb ((YE (Yj (UB (d:=.non) rfl))).trans rfl)
 |some i=>
  refine fin (row.take i) (λx hx=>hr x (List.mem_of_mem_take hx)) ?_ ((Vf (Yj (UB (d:=.int (i:Nat)) rfl))).trans (Yi (Q9 rfl rfl (by omega))));rw [Zbx,hb];dsimp only;rw [if_neg (Nat.lt_irrefl i)]
end K06
namespace K06
open PySem PySem.Spec L2 DL
def Ze4(K:PySem.W.Frag):Sp:=λvs H Q _=>∃(a:Addr) (ns:List Int),vs=[.ref a]/\SqL K H a (ns.map V.int)/\ns.length<=63/\∀H',Q (.bl true) H'
theorem Zjm(hall:∀ns:List Int,ns.length<=63->JW [.lst (ns.map D.int)]=some (.bl true)){P:Program}{w:World}{K:PySem.W.Frag}{mg:Str->Option Value}{base:Heap}{t:Adr}(T:Txt K mg t):FnOk P w K mg base CX0 10 t.a_Qj t.d_Qj ["script"] (Ze4 K):=
 (ZmC T).imp λvs H Q E ⟨a,ns,hv,hr,hl,q⟩=>by
   subst hv;refine⟨λ_=>False,[.lst (ns.map D.int)],.bl true,λ_ z=>z.elim,.cons ?_ .nil,rfl,hall ns hl,λv H' _ r => ?_⟩
   · unfold Rep
     refine⟨a,_,rfl,λz=>z.elim,hr,?_⟩;have:=RepL.of_vals (cA:=⟨t.c,K⟩) (av:=λ_=>False) (H:=H) (xs:=ns.map D.int) (by rw [List.all_map];exact List.all_eq_true.mpr λ_ _=>rfl);rw [List.map_map]at this;exact this
   · cases(show v=_ from r)
     exact q H'
theorem all_mk (hall:∀ns:List Int,ns.length<=63->JW [.lst (ns.map D.int)]=some (.bl true)) {l:PySem.W.OpenLaw} {w:World} {K:PySem.W.Frag} {h:Heap} {mg:Str->Option Value} {fa:Addr} (X:K.In h) (G:h.Ns mainGlobals mg) (hfa:mg "law" = some (.ref fa))
 {c_Rule:Addr}
 {c_Gap:Addr}
 {c_Never:Addr}
 {c_Sum:Addr}
 {c_Turn:Addr}
 {c_Alike:Addr}
 {c_All:Addr}
 {c_BadMark:Addr}
 {c_BadMarks:Addr}
 {c_BadRule:Addr}
 {c_GrooveError:Addr}
 {f0 f1 f2 f3 f4 f5 f6 f7 f8 f9 f10 f11 f12 f13 f14 f15 f16 f17 f18 f19 f21 f22 f23 f24 f25 f26 f27 f28 f29 f30 f31 f32 f33 f34 f35 f36 f37 f38 f39 f40 f41 f42 f43 f44 f45 f46:Addr} {d0 d1 d2 d3 d4 d5 d6 d7 d8 d9 d10 d11 d12 d13 d14 d15 d16 d17 d18 d19 d21 d22 d23 d24 d25 d26 d27 d28 d29 d30 d31 d32 d33 d34 d35 d36 d37 d38 d39 d40 d41 d42 d43 d44 d45 d46:FuncData}
 {f20:Addr} {od20 an20:Option Addr} {sl20:Array (Option Value)} {oc20 kV20 dc20 pm20 cd20 ct20:Value}
 {dt20:Addr} {do20:Obj} {dn20:Nat}
 {x_MARK_SIGNS:Str} {t_MARK_SIGNS:Tok}
 (ZqV:nsIn K mainGlobals "Rule" = some (some (.ref c_Rule)))
 (ZqS:nsIn K mainGlobals "Gap" = some (some (.ref c_Gap)))
 (ZqU:nsIn K mainGlobals "Never" = some (some (.ref c_Never)))
 (ZqW:nsIn K mainGlobals "Sum" = some (some (.ref c_Sum)))
 (ZqX:nsIn K mainGlobals "Turn" = some (some (.ref c_Turn)))
 (ZqN:nsIn K mainGlobals "Alike" = some (some (.ref c_Alike)))
 (ZqO:nsIn K mainGlobals "All" = some (some (.ref c_All)))
 (ZqP:nsIn K mainGlobals "BadMark" = some (some (.ref c_BadMark)))
 (ZqQ:nsIn K mainGlobals "BadMarks" = some (some (.ref c_BadMarks)))
 (ZqR:nsIn K mainGlobals "BadRule" = some (some (.ref c_BadRule)))
 (ZqT:nsIn K mainGlobals "GrooveError" = some (some (.ref c_GrooveError)))
 (l0:Fg K "_wall" Zci f0 d0)
 (l1:Fg K "marks_stand" JX f1 d1)
 (l2:Fg K "is_mark" Zj3 f2 d2)
 (l3:Fg K "is_whole" Zj4 f3 d3)
 (l4:Fg K "demand" Zj5 f4 d4)
 (a5:PySem.W.findIn K (.ref c_Rule) "__init__" = some (some (.ref f5)))
 (l5:Fun K "__init__" "Rule.__init__" Zj6 f5 d5)
 (a6:PySem.W.findIn K (.ref c_Rule) "begin" = some (some (.ref f6)))
 (l6:Fun K "begin" "Rule.begin" Zj7 f6 d6)
 (a7:PySem.W.findIn K (.ref c_Rule) "behind" = some (some (.ref f7)))
 (l7:Fun K "behind" "Rule.behind" Zj8 f7 d7)
 (a8:PySem.W.findIn K (.ref c_Gap) "behind" = some (some (.ref f8)))
 (l8:Fun K "behind" "Gap.behind" Zj9 f8 d8)
 (a9:PySem.W.findIn K (.ref c_Never) "behind" = some (some (.ref f9)))
 (l9:Fun K "behind" "Never.behind" Zka f9 d9)
 (a10:PySem.W.findIn K (.ref c_Sum) "behind" = some (some (.ref f10)))
 (l10:Fun K "behind" "Sum.behind" Zkb f10 d10)
 (a11:PySem.W.findIn K (.ref c_Turn) "behind" = some (some (.ref f11)))
 (l11:Fun K "behind" "Turn.behind" Zkc f11 d11)
 (a12:PySem.W.findIn K (.ref c_Alike) "behind" = some (some (.ref f12)))
 (l12:Fun K "behind" "Alike.behind" Zkd f12 d12)
 (a13:PySem.W.findIn K (.ref c_All) "behind" = some (some (.ref f13)))
 (l13:Fun K "behind" "All.behind" Zke f13 d13)
 (a14:PySem.W.findIn K (.ref c_Rule) "step" = some (some (.ref f14)))
 (l14:Fun K "step" "Rule.step" Zkf f14 d14)
 (a15:PySem.W.findIn K (.ref c_Gap) "begin" = some (some (.ref f15)))
 (l15:Fun K "begin" "Gap.begin" Zkg f15 d15)
 (a16:PySem.W.findIn K (.ref c_Alike) "begin" = some (some (.ref f16)))
 (l16:Fun K "begin" "Alike.begin" Zkh f16 d16)
 (a17:PySem.W.findIn K (.ref c_All) "begin" = some (some (.ref f17)))
 (l17:Fun K "begin" "All.begin" JY f17 d17)
 (a18:PySem.W.findIn K (.ref c_Rule) "broken_at" = some (some (.ref f18)))
 (l18:Fun K "broken_at" "Rule.broken_at" Zki f18 d18)
 (a19:PySem.W.findIn K (.ref c_Rule) "keeps" = some (some (.ref f19)))
 (l19:Fun K "keeps" "Rule.keeps" Zkj f19 d19)
 (a20:PySem.W.findIn K (.ref c_Gap) "__init__" = some (some (.ref f20)))
 (l20:K.lookup f20=some ⟨oc20,od20,.func (fnOf "__init__" "Gap.__init__" (defArgs Uu) (defBody Uu) (defScope Uu) (.ref dt20) kV20 dc20 pm20 an20 cd20 ct20),sl20⟩)
 (c20:codeIn K cd20 "Gap.__init__" = true)
 (k20:keepIn K (.ref f20)=true)
 (y20:K.lookup dt20=some do20)
 (yd20:do20.data = .seq ([.none]:List Value).toArray dn20)
 (a21:PySem.W.findIn K (.ref c_Never) "__init__" = some (some (.ref f21)))
 (l21:Fun K "__init__" "Never.__init__" JZ f21 d21)
 (a22:PySem.W.findIn K (.ref c_Sum) "__init__" = some (some (.ref f22)))
 (l22:Fun K "__init__" "Sum.__init__" J0 f22 d22)
 (a23:PySem.W.findIn K (.ref c_Turn) "__init__" = some (some (.ref f23)))
 (l23:Fun K "__init__" "Turn.__init__" Zkk f23 d23)
 (a24:PySem.W.findIn K (.ref c_Alike) "__init__" = some (some (.ref f24)))
 (l24:Fun K "__init__" "Alike.__init__" Zkl f24 d24)
 (a25:PySem.W.findIn K (.ref c_All) "__init__" = some (some (.ref f25)))
 (l25:Fun K "__init__" "All.__init__" Q1 f25 d25)
 (a26:PySem.W.findIn K (.ref c_All) "rules_told" = some (some (.ref f26)))
 (l26:Fun K "rules_told" "All.rules_told" Zaa f26 d26)
 (l27:Fg K "_law_cell_at" Zkm f27 d27)
 (l28:Fg K "_law_whole" Zkn f28 d28)
 (l29:Fg K "_law_marks" J4 f29 d29)
 (l30:Fg K "_law_others" Zko f30 d30)
 (l31:Fg K "_law_total" J5 f31 d31)
 (l32:Fg K "_law_breaks" Zkp f32 d32)
 (l33:Fg K "_law_rule" J6 f33 d33)
 (l34:Fg K "_law_made" Zkq f34 d34)
 (l35:Fg K "_law_rules" J7 f35 d35)
 (l36:Fg K "_law_any" J8 f36 d36)
 (l37:Fg K "_law_row" Zkr f37 d37)
 (l38:Fg K "_law_asked" Zks f38 d38)
 (l39:Fg K "_law_kept" Zkt f39 d39)
 (l40:Fg K "_law_fair" Zku f40 d40)
 (l41:Fg K "_law_strange" J9 f41 d41)
 (l42:Fg K "_law_step_told" Zkv f42 d42)
 (l43:Fg K "_law_steps_refused" Zkw f43 d43)
 (l44:Fg K "_law_first" Zkx f44 d44)
 (l45:Fg K "_law_singles_fair" Zky f45 d45)
 (l46:Fg K "law" ZhF f46 d46)
 (ZqY:nsIn K mainGlobals "ValueError" = some none)
 (ZqZ:nsIn K mainGlobals "all" = some none)
 (Zq0:nsIn K mainGlobals "any" = some none)
 (Zq1:nsIn K mainGlobals "bool" = some none)
 (Zq2:nsIn K mainGlobals "enumerate" = some none)
 (Zq3:nsIn K mainGlobals "int" = some none)
 (Zq4:nsIn K mainGlobals "isinstance" = some none)
 (Zq5:nsIn K mainGlobals "len" = some none)
 (Zq6:nsIn K mainGlobals "min" = some none)
 (Zq7:nsIn K mainGlobals "range" = some none)
 (Zq8:nsIn K mainGlobals "sum" = some none)
 (Zq9:nsIn K mainGlobals "tuple" = some none)
 (Zra:nsIn K mainGlobals "zip" = some none)
 (ZqL:nsIn K mainGlobals "MARK_SIGNS" = some (some (.str x_MARK_SIGNS t_MARK_SIGNS)))
 (ZqM:x_MARK_SIGNS=tx cs_MARK_SIGNS)
 (Zqt:PySem.W.plainGet K c_Rule Str.empty=true)
 (ZnF:PySem.W.hasDictIn K c_Rule=true)
 (ZqA:PySem.W.plainOver K c_Rule=true)
 (ZqI:PySem.W.findIn K (.ref c_Rule) "__setattr__" = some (some (.builtin "object.__setattr__")))
 (Zny:PySem.W.findIn K (.ref c_Rule) "__class__" = some (some (.builtin "object.__class__")))
 (ZnM:PySem.W.mroIn K c_Rule (.type "object")=some true)
 (Zpu:PySem.W.makesIn K c_Rule=true)
 (ZoA:keepIn K (.ref c_Rule)=true)
 (Zpn:PySem.W.findIn K (.ref c_Rule) "__init__" = some (some (.ref f5)))
 (Zpg:isFn K (.ref f5)=true)
 (Zqr:PySem.W.plainGet K c_Gap Str.empty=true)
 (ZnD:PySem.W.hasDictIn K c_Gap=true)
 (Zqy:PySem.W.plainOver K c_Gap=true)
 (ZqG:PySem.W.findIn K (.ref c_Gap) "__setattr__" = some (some (.builtin "object.__setattr__")))
 (Znw:PySem.W.findIn K (.ref c_Gap) "__class__" = some (some (.builtin "object.__class__")))
 (ZnK:PySem.W.mroIn K c_Gap (.type "object")=some true)
 (Zps:PySem.W.makesIn K c_Gap=true)
 (Zoy:keepIn K (.ref c_Gap)=true)
 (Zpl:PySem.W.findIn K (.ref c_Gap) "__init__" = some (some (.ref f20)))
 (Zpe:isFn K (.ref f20)=true)
 (Zqs:PySem.W.plainGet K c_Never Str.empty=true)
 (ZnE:PySem.W.hasDictIn K c_Never=true)
 (Zqz:PySem.W.plainOver K c_Never=true)
 (ZqH:PySem.W.findIn K (.ref c_Never) "__setattr__" = some (some (.builtin "object.__setattr__")))
 (Znx:PySem.W.findIn K (.ref c_Never) "__class__" = some (some (.builtin "object.__class__")))
 (ZnL:PySem.W.mroIn K c_Never (.type "object")=some true)
 (Zpt:PySem.W.makesIn K c_Never=true)
 (Zoz:keepIn K (.ref c_Never)=true)
 (Zpm:PySem.W.findIn K (.ref c_Never) "__init__" = some (some (.ref f21)))
 (Zpf:isFn K (.ref f21)=true)
 (Zqu:PySem.W.plainGet K c_Sum Str.empty=true)
 (ZnG:PySem.W.hasDictIn K c_Sum=true)
 (ZqB:PySem.W.plainOver K c_Sum=true)
 (ZqJ:PySem.W.findIn K (.ref c_Sum) "__setattr__" = some (some (.builtin "object.__setattr__")))
 (Znz:PySem.W.findIn K (.ref c_Sum) "__class__" = some (some (.builtin "object.__class__")))
 (ZnN:PySem.W.mroIn K c_Sum (.type "object")=some true)
 (Zpv:PySem.W.makesIn K c_Sum=true)
 (ZoB:keepIn K (.ref c_Sum)=true)
 (Zpo:PySem.W.findIn K (.ref c_Sum) "__init__" = some (some (.ref f22)))
 (Zph:isFn K (.ref f22)=true)
 (Zqv:PySem.W.plainGet K c_Turn Str.empty=true)
 (ZnH:PySem.W.hasDictIn K c_Turn=true)
 (ZqC:PySem.W.plainOver K c_Turn=true)
 (ZqK:PySem.W.findIn K (.ref c_Turn) "__setattr__" = some (some (.builtin "object.__setattr__")))
 (ZnA:PySem.W.findIn K (.ref c_Turn) "__class__" = some (some (.builtin "object.__class__")))
 (ZnO:PySem.W.mroIn K c_Turn (.type "object")=some true)
 (Zpw:PySem.W.makesIn K c_Turn=true)
 (ZoC:keepIn K (.ref c_Turn)=true)
 (Zpp:PySem.W.findIn K (.ref c_Turn) "__init__" = some (some (.ref f23)))
 (Zpi:isFn K (.ref f23)=true)
 (Zqp:PySem.W.plainGet K c_Alike Str.empty=true)
 (ZnB:PySem.W.hasDictIn K c_Alike=true)
 (Zqw:PySem.W.plainOver K c_Alike=true)
 (ZqE:PySem.W.findIn K (.ref c_Alike) "__setattr__" = some (some (.builtin "object.__setattr__")))
 (Znu:PySem.W.findIn K (.ref c_Alike) "__class__" = some (some (.builtin "object.__class__")))
 (ZnI:PySem.W.mroIn K c_Alike (.type "object")=some true)
 (Zpq:PySem.W.makesIn K c_Alike=true)
 (Zow:keepIn K (.ref c_Alike)=true)
 (Zpj:PySem.W.findIn K (.ref c_Alike) "__init__" = some (some (.ref f24)))
 (Zpc:isFn K (.ref f24)=true)
 (Zqq:PySem.W.plainGet K c_All Str.empty=true)
 (ZnC:PySem.W.hasDictIn K c_All=true)
 (Zqx:PySem.W.plainOver K c_All=true)
 (ZqF:PySem.W.findIn K (.ref c_All) "__setattr__" = some (some (.builtin "object.__setattr__")))
 (Znv:PySem.W.findIn K (.ref c_All) "__class__" = some (some (.builtin "object.__class__")))
 (ZnJ:PySem.W.mroIn K c_All (.type "object")=some true)
 (Zpr:PySem.W.makesIn K c_All=true)
 (Zox:keepIn K (.ref c_All)=true)
 (Zpk:PySem.W.findIn K (.ref c_All) "__init__" = some (some (.ref f25)))
 (Zpd:isFn K (.ref f25)=true)
 (hn_:PySem.W.specialIn K (.builtin "object.__class__") "__get__" = some (some (.builtin "getset_descriptor.__get__")))
 (htk_:PySem.W.takesIn K (.builtin "object.__class__")=some true)
 (Znl:PySem.W.excIn K c_BadMark bmV "ValueError.__new__" = true)
 (Znm:PySem.W.findIn K (.ref c_BadMark) "__getattribute__" = some (some (.builtin "BaseException.__getattribute__")))
 (Znq:PySem.W.mroIn K c_BadMark (.type "BaseException")=some true)
 (Znn:PySem.W.findIn K (.ref c_BadMark) "__getattr__" = some none)
 (Zno:PySem.W.findIn K (.ref c_BadMark) "__class__" = some (some (.builtin "object.__class__")))
 (Znp:PySem.W.mroIn K c_BadMark (.type "object")=some true)
 (Znr:PySem.W.exmOne K (.ref c_BadMark) (.ref c_BadMark)=some true)
 (ZnX:kitOne K (.ref c_BadMark) (.ref c_GrooveError)=some true)
 (ZnY:kitOne K (.ref c_BadMark) (.type "ValueError")=some true)
 (ZnV:kitOne K (.ref c_BadMark) (.ref c_BadMarks)=some false)
 (ZnW:kitOne K (.ref c_BadMark) (.ref c_BadRule)=some false)
 (Zql:PySem.W.findIn K (.ref c_Turn) "at" = some none)
 (Zqm:PySem.W.findIn K (.ref c_Turn) "every" = some none)
 (Zqh:PySem.W.findIn K (.ref c_Sum) "high" = some none)
 (Zqa:PySem.W.findIn K (.ref c_Gap) "least" = some none)
 (Zqi:PySem.W.findIn K (.ref c_Sum) "low" = some none)
 (Zqb:PySem.W.findIn K (.ref c_Gap) "mark" = some none)
 (Zqn:PySem.W.findIn K (.ref c_Turn) "mark" = some none)
 (Zqg:PySem.W.findIn K (.ref c_Rule) "marks" = some none)
 (Zqc:PySem.W.findIn K (.ref c_Gap) "marks" = some none)
 (Zqe:PySem.W.findIn K (.ref c_Never) "marks" = some none)
 (Zqj:PySem.W.findIn K (.ref c_Sum) "marks" = some none)
 (Zqo:PySem.W.findIn K (.ref c_Turn) "marks" = some none)
 (Zp6:PySem.W.findIn K (.ref c_Alike) "marks" = some none)
 (Zp8:PySem.W.findIn K (.ref c_All) "marks" = some none)
 (Zqd:PySem.W.findIn K (.ref c_Gap) "most" = some none)
 (Zp7:PySem.W.findIn K (.ref c_Alike) "most" = some none)
 (Zp9:PySem.W.findIn K (.ref c_All) "rules" = some none)
 (Zqf:PySem.W.findIn K (.ref c_Never) "word" = some none)
 (Zqk:PySem.W.findIn K (.ref c_Sum) "worths" = some none)
 (ZoX:PySem.W.findIn K (.ref c_Rule) "begin" = some (some (.ref f6)))
 (ZpR:isFn K (.ref f6)=true)
 (ZoN:PySem.W.findIn K (.ref c_Gap) "begin" = some (some (.ref f15)))
 (ZpH:isFn K (.ref f15)=true)
 (ZoS:PySem.W.findIn K (.ref c_Never) "begin" = some (some (.ref f6)))
 (ZpM:isFn K (.ref f6)=true)
 (Zo2:PySem.W.findIn K (.ref c_Sum) "begin" = some (some (.ref f6)))
 (ZpW:isFn K (.ref f6)=true)
 (Zo7:PySem.W.findIn K (.ref c_Turn) "begin" = some (some (.ref f6)))
 (Zp1:isFn K (.ref f6)=true)
 (ZoD:PySem.W.findIn K (.ref c_Alike) "begin" = some (some (.ref f16)))
 (Zpx:isFn K (.ref f16)=true)
 (ZoI:PySem.W.findIn K (.ref c_All) "begin" = some (some (.ref f17)))
 (ZpC:isFn K (.ref f17)=true)
 (ZoY:PySem.W.findIn K (.ref c_Rule) "behind" = some (some (.ref f7)))
 (ZpS:isFn K (.ref f7)=true)
 (ZoO:PySem.W.findIn K (.ref c_Gap) "behind" = some (some (.ref f8)))
 (ZpI:isFn K (.ref f8)=true)
 (ZoT:PySem.W.findIn K (.ref c_Never) "behind" = some (some (.ref f9)))
 (ZpN:isFn K (.ref f9)=true)
 (Zo3:PySem.W.findIn K (.ref c_Sum) "behind" = some (some (.ref f10)))
 (ZpX:isFn K (.ref f10)=true)
 (Zo8:PySem.W.findIn K (.ref c_Turn) "behind" = some (some (.ref f11)))
 (Zp2:isFn K (.ref f11)=true)
 (ZoE:PySem.W.findIn K (.ref c_Alike) "behind" = some (some (.ref f12)))
 (Zpy:isFn K (.ref f12)=true)
 (ZoJ:PySem.W.findIn K (.ref c_All) "behind" = some (some (.ref f13)))
 (ZpD:isFn K (.ref f13)=true)
 (ZoZ:PySem.W.findIn K (.ref c_Rule) "broken_at" = some (some (.ref f18)))
 (ZpT:isFn K (.ref f18)=true)
 (ZoP:PySem.W.findIn K (.ref c_Gap) "broken_at" = some (some (.ref f18)))
 (ZpJ:isFn K (.ref f18)=true)
 (ZoU:PySem.W.findIn K (.ref c_Never) "broken_at" = some (some (.ref f18)))
 (ZpO:isFn K (.ref f18)=true)
 (Zo4:PySem.W.findIn K (.ref c_Sum) "broken_at" = some (some (.ref f18)))
 (ZpY:isFn K (.ref f18)=true)
 (Zo9:PySem.W.findIn K (.ref c_Turn) "broken_at" = some (some (.ref f18)))
 (Zp3:isFn K (.ref f18)=true)
 (ZoF:PySem.W.findIn K (.ref c_Alike) "broken_at" = some (some (.ref f18)))
 (Zpz:isFn K (.ref f18)=true)
 (ZoK:PySem.W.findIn K (.ref c_All) "broken_at" = some (some (.ref f18)))
 (ZpE:isFn K (.ref f18)=true)
 (Zo0:PySem.W.findIn K (.ref c_Rule) "keeps" = some (some (.ref f19)))
 (ZpU:isFn K (.ref f19)=true)
 (ZoQ:PySem.W.findIn K (.ref c_Gap) "keeps" = some (some (.ref f19)))
 (ZpK:isFn K (.ref f19)=true)
 (ZoV:PySem.W.findIn K (.ref c_Never) "keeps" = some (some (.ref f19)))
 (ZpP:isFn K (.ref f19)=true)
 (Zo5:PySem.W.findIn K (.ref c_Sum) "keeps" = some (some (.ref f19)))
 (ZpZ:isFn K (.ref f19)=true)
 (Zpa:PySem.W.findIn K (.ref c_Turn) "keeps" = some (some (.ref f19)))
 (Zp4:isFn K (.ref f19)=true)
 (ZoG:PySem.W.findIn K (.ref c_Alike) "keeps" = some (some (.ref f19)))
 (ZpA:isFn K (.ref f19)=true)
 (ZoL:PySem.W.findIn K (.ref c_All) "keeps" = some (some (.ref f19)))
 (ZpF:isFn K (.ref f19)=true)
 (Zo1:PySem.W.findIn K (.ref c_Rule) "step" = some (some (.ref f14)))
 (ZpV:isFn K (.ref f14)=true)
 (ZoR:PySem.W.findIn K (.ref c_Gap) "step" = some (some (.ref f14)))
 (ZpL:isFn K (.ref f14)=true)
 (ZoW:PySem.W.findIn K (.ref c_Never) "step" = some (some (.ref f14)))
 (ZpQ:isFn K (.ref f14)=true)
 (Zo6:PySem.W.findIn K (.ref c_Sum) "step" = some (some (.ref f14)))
 (Zp0:isFn K (.ref f14)=true)
 (Zpb:PySem.W.findIn K (.ref c_Turn) "step" = some (some (.ref f14)))
 (Zp5:isFn K (.ref f14)=true)
 (ZoH:PySem.W.findIn K (.ref c_Alike) "step" = some (some (.ref f14)))
 (ZpB:isFn K (.ref f14)=true)
 (ZoM:PySem.W.findIn K (.ref c_All) "step" = some (some (.ref f14)))
 (ZpG:isFn K (.ref f14)=true)
 (Znt:PySem.W.specialIn K (.ref c_Rule) "__getattribute__" = some (some (.builtin "type.__getattribute__")))
 (ZqD:PySem.W.readsIn K c_Rule (.type "type")=true)
 (Zns:PySem.W.findCls K (.ref c_Rule) (.type "type") "__init__" = some (.val (.ref f5)))
 (Zn5:kitOne K (.type "NoneType") (.ref c_All)=some false)
 (Zoh:kitOne K (.type "bool") (.ref c_All)=some false)
 (Zok:kitOne K (.type "int") (.ref c_All)=some false)
 (Zoq:kitOne K (.type "str") (.ref c_All)=some false)
 (Zon:kitOne K (.type "list") (.ref c_All)=some false)
 (Zot:kitOne K (.type "tuple") (.ref c_All)=some false)
 (Zn8:kitOne K (.ref c_Rule) (.ref c_All)=some false)
 (ZnZ:kitOne K (.ref c_Gap) (.ref c_All)=some false)
 (Zn2:kitOne K (.ref c_Never) (.ref c_All)=some false)
 (Zob:kitOne K (.ref c_Sum) (.ref c_All)=some false)
 (Zoe:kitOne K (.ref c_Turn) (.ref c_All)=some false)
 (ZnP:kitOne K (.ref c_Alike) (.ref c_All)=some false)
 (ZnS:kitOne K (.ref c_All) (.ref c_All)=some true)
 (Zn6:kitOne K (.type "NoneType") (.type "bool")=some false)
 (Zoi:kitOne K (.type "bool") (.type "bool")=some true)
 (Zol:kitOne K (.type "int") (.type "bool")=some false)
 (Zor:kitOne K (.type "str") (.type "bool")=some false)
 (Zoo:kitOne K (.type "list") (.type "bool")=some false)
 (Zou:kitOne K (.type "tuple") (.type "bool")=some false)
 (Zn9:kitOne K (.ref c_Rule) (.type "bool")=some false)
 (Zn0:kitOne K (.ref c_Gap) (.type "bool")=some false)
 (Zn3:kitOne K (.ref c_Never) (.type "bool")=some false)
 (Zoc:kitOne K (.ref c_Sum) (.type "bool")=some false)
 (Zof:kitOne K (.ref c_Turn) (.type "bool")=some false)
 (ZnQ:kitOne K (.ref c_Alike) (.type "bool")=some false)
 (ZnT:kitOne K (.ref c_All) (.type "bool")=some false)
 (Zn7:kitOne K (.type "NoneType") (.type "int")=some false)
 (Zoj:kitOne K (.type "bool") (.type "int")=some true)
 (Zom:kitOne K (.type "int") (.type "int")=some true)
 (Zos:kitOne K (.type "str") (.type "int")=some false)
 (Zop:kitOne K (.type "list") (.type "int")=some false)
 (Zov:kitOne K (.type "tuple") (.type "int")=some false)
 (Zoa:kitOne K (.ref c_Rule) (.type "int")=some false)
 (Zn1:kitOne K (.ref c_Gap) (.type "int")=some false)
 (Zn4:kitOne K (.ref c_Never) (.type "int")=some false)
 (Zod:kitOne K (.ref c_Sum) (.type "int")=some false)
 (Zog:kitOne K (.ref c_Turn) (.type "int")=some false)
 (ZnR:kitOne K (.ref c_Alike) (.type "int")=some false)
 (ZnU:kitOne K (.ref c_All) (.type "int")=some false)
 : ∃fd:FuncData,(∀(s:Shared)(v:Value),BindsTo s fd ⟨[v],[]⟩ [("script",v)])/\∀base:Heap,K.In base->base.Ns mainGlobals mg->FnOk l.prog w K mg base CX0 10 fa fd ["script"] (Ze4 K):=by
 cases hfa.symm.trans (mg_of X G l46.a);have F20:FunX K "__init__" "Gap.__init__" Uu f20 _:=⟨_,_,_,_,_,_,_,_,_,_,rfl,l20,c20⟩
 have b20_0:Binds K _ ["self", "marks", "mark", "least", "most"] []:=Za2 ["self", "marks", "mark", "least", "most"] (x:="__init__") (qual:="Gap.__init__") (st:=Uu) (kV:=kV20) (doc:=dc20) (pm:=pm20) (an:=an20) (cdv:=cd20) (ct:=ct20) y20 yd20 rfl λus hl=>match us,hl with|[_,_,_,_,_],_=>⟨_,rfl,rfl⟩
 have b20_1:Binds K _ ["self", "marks", "mark", "least", "most"] [.none]:=Za2 ["self", "marks", "mark", "least"] (x:="__init__") (qual:="Gap.__init__") (st:=Uu) (kV:=kV20) (doc:=dc20) (pm:=pm20) (an:=an20) (cdv:=cd20) (ct:=ct20) y20 yd20 rfl λus hl=>match us,hl with|[_,_,_,_],_=>⟨_,rfl,rfl⟩
 have T:Txt K mg ⟨f0,f1,f2,f3,f4,f5,f6,f7,f8,f9,f10,f11,f12,f13,f14,f15,f16,f17,f18,f19,f20,f21,f22,f23,f24,f25,f26,f27,f28,f29,f30,f31,f32,f33,f34,f35,f36,f37,f38,f39,f40,f41,f42,f43,f44,f45,fa,c_GrooveError,c_BadMarks,c_BadRule,c_BadMark,c_Rule,c_Gap,c_Never,c_Sum,c_Turn,c_Alike,c_All,d0,d1,d2,d3,d4,d5,d6,d7,d8,d9,d10,d11,d12,d13,d14,d15,d16,d17,d18,d19,_,d21,d22,d23,d24,d25,d26,d27,d28,d29,d30,d31,d32,d33,d34,d35,d36,d37,d38,d39,d40,d41,d42,d43,d44,d45,d46,.str x_MARK_SIGNS t_MARK_SIGNS⟩:=⟨l0.dg X G l0.l.df,l1.dg X G l1.l.df,l2.dg X G l2.l.df,l3.dg X G l3.l.df,l4.dg X G l4.l.df,l5.df,l6.df,l7.df,l8.df,l9.df,l10.df,l11.df,l12.df,l13.df,l14.df,l15.df,l16.df,l17.df,l18.df,l19.df,F20,b20_0,b20_1,k20,l21.df,l22.df,l23.df,l24.df,l25.df,l26.df,l27.dg X G l27.l.df,l28.dg X G l28.l.df,l29.dg X G l29.l.df,l30.dg X G l30.l.df,l31.dg X G l31.l.df,l32.dg X G l32.l.df,l33.dg X G l33.l.df,l34.dg X G l34.l.df,l35.dg X G l35.l.df,l36.dg X G l36.l.df,l37.dg X G l37.l.df,l38.dg X G l38.l.df,l39.dg X G l39.l.df,l40.dg X G l40.l.df,l41.dg X G l41.l.df,l42.dg X G l42.l.df,l43.dg X G l43.l.df,l44.dg X G l44.l.df,l45.dg X G l45.l.df,l46.dg X G l46.l.df,mg_none_of X G ZqY,mg_none_of X G ZqZ,mg_none_of X G Zq0,mg_none_of X G Zq1,mg_none_of X G Zq2,mg_none_of X G Zq3,mg_none_of X G Zq4,mg_none_of X G Zq5,mg_none_of X G Zq6,mg_none_of X G Zq7,mg_none_of X G Zq8,mg_none_of X G Zq9,mg_none_of X G Zra,mg_of X G ZqL,⟨_,by rw [ZqM]⟩,mg_of X G ZqV,⟨Zqt,ZnF,ZqA,ZqI⟩,⟨⟨Zqt,ZnF,ZqA,ZqI⟩,Zny,hn_,htk_,ZnM⟩,⟨Zpu,Zpn,Zpg,ZoA⟩,mg_of X G ZqS,⟨Zqr,ZnD,Zqy,ZqG⟩,⟨⟨Zqr,ZnD,Zqy,ZqG⟩,Znw,hn_,htk_,ZnK⟩,⟨Zps,Zpl,Zpe,Zoy⟩,mg_of X G ZqU,⟨Zqs,ZnE,Zqz,ZqH⟩,⟨⟨Zqs,ZnE,Zqz,ZqH⟩,Znx,hn_,htk_,ZnL⟩,⟨Zpt,Zpm,Zpf,Zoz⟩,mg_of X G ZqW,⟨Zqu,ZnG,ZqB,ZqJ⟩,⟨⟨Zqu,ZnG,ZqB,ZqJ⟩,Znz,hn_,htk_,ZnN⟩,⟨Zpv,Zpo,Zph,ZoB⟩,mg_of X G ZqX,⟨Zqv,ZnH,ZqC,ZqK⟩,⟨⟨Zqv,ZnH,ZqC,ZqK⟩,ZnA,hn_,htk_,ZnO⟩,⟨Zpw,Zpp,Zpi,ZoC⟩,mg_of X G ZqN,⟨Zqp,ZnB,Zqw,ZqE⟩,⟨⟨Zqp,ZnB,Zqw,ZqE⟩,Znu,hn_,htk_,ZnI⟩,⟨Zpq,Zpj,Zpc,Zow⟩,mg_of X G ZqO,⟨Zqq,ZnC,Zqx,ZqF⟩,⟨⟨Zqq,ZnC,Zqx,ZqF⟩,Znv,hn_,htk_,ZnJ⟩,⟨Zpr,Zpk,Zpd,Zox⟩,(by intro c hc;simp only [UT,List.mem_cons,List.mem_nil_iff,or_false]at hc;rcases hc with rfl<;>first|exact⟨⟨Zqv,ZnH,ZqC,ZqK⟩,Zql⟩),(by intro c hc;simp only [UU,List.mem_cons,List.mem_nil_iff,or_false]at hc;rcases hc with rfl<;>first|exact⟨⟨Zqv,ZnH,ZqC,ZqK⟩,Zqm⟩),(by intro c hc;simp only [UV,List.mem_cons,List.mem_nil_iff,or_false]at hc;rcases hc with rfl<;>first|exact⟨⟨Zqu,ZnG,ZqB,ZqJ⟩,Zqh⟩),(by intro c hc;simp only [Vw,List.mem_cons,List.mem_nil_iff,or_false]at hc;rcases hc with rfl<;>first|exact⟨⟨Zqr,ZnD,Zqy,ZqG⟩,Zqa⟩),(by intro c hc;simp only [UW,List.mem_cons,List.mem_nil_iff,or_false]at hc;rcases hc with rfl<;>first|exact⟨⟨Zqu,ZnG,ZqB,ZqJ⟩,Zqi⟩),(by intro c hc;simp only [XU,List.mem_cons,List.mem_nil_iff,or_false]at hc;rcases hc with rfl|rfl<;>first|exact⟨⟨Zqr,ZnD,Zqy,ZqG⟩,Zqb⟩|exact⟨⟨Zqv,ZnH,ZqC,ZqK⟩,Zqn⟩),(by intro c hc;simp only [fc_marks,List.mem_cons,List.mem_nil_iff,or_false]at hc;rcases hc with rfl|rfl|rfl|rfl|rfl|rfl|rfl<;>first|exact⟨⟨Zqt,ZnF,ZqA,ZqI⟩,Zqg⟩|exact⟨⟨Zqr,ZnD,Zqy,ZqG⟩,Zqc⟩|exact⟨⟨Zqs,ZnE,Zqz,ZqH⟩,Zqe⟩|exact⟨⟨Zqu,ZnG,ZqB,ZqJ⟩,Zqj⟩|exact⟨⟨Zqv,ZnH,ZqC,ZqK⟩,Zqo⟩|exact⟨⟨Zqp,ZnB,Zqw,ZqE⟩,Zp6⟩|exact⟨⟨Zqq,ZnC,Zqx,ZqF⟩,Zp8⟩),(by intro c hc;simp only [Xz,List.mem_cons,List.mem_nil_iff,or_false]at hc;rcases hc with rfl|rfl<;>first|exact⟨⟨Zqr,ZnD,Zqy,ZqG⟩,Zqd⟩|exact⟨⟨Zqp,ZnB,Zqw,ZqE⟩,Zp7⟩),(by intro c hc;simp only [UX,List.mem_cons,List.mem_nil_iff,or_false]at hc;rcases hc with rfl<;>first|exact⟨⟨Zqq,ZnC,Zqx,ZqF⟩,Zp9⟩),(by intro c hc;simp only [Vg,List.mem_cons,List.mem_nil_iff,or_false]at hc;rcases hc with rfl<;>first|exact⟨⟨Zqs,ZnE,Zqz,ZqH⟩,Zqf⟩),(by intro c hc;simp only [UY,List.mem_cons,List.mem_nil_iff,or_false]at hc;rcases hc with rfl<;>first|exact⟨⟨Zqu,ZnG,ZqB,ZqJ⟩,Zqk⟩),mg_of X G ZqP,.of Znl Znm Znq Znn Zno hn_ htk_ Znp,mg_of X G ZqQ,mg_of X G ZqR,mg_of X G ZqT,(by intro c hc;simp only [List.mem_cons,List.mem_nil_iff,or_false]at hc;rcases hc with rfl<;>first|exact⟨.of Znl Znm Znq Znn Zno hn_ htk_ Znp,Znr⟩),ZaI (λ_ z=>z) (by intro p hp;simp only [ie_GrooveError,List.mem_cons,List.mem_nil_iff,or_false]at hp;rcases hp with rfl<;>first|exact ZnX),ZaI (λ_ z=>z) (by intro p hp;simp only [ie_ValueError,List.mem_cons,List.mem_nil_iff,or_false]at hp;rcases hp with rfl<;>first|exact ZnY),ZaI (λ_ z=>z) (by intro p hp;simp only [ie_BadMarks,List.mem_cons,List.mem_nil_iff,or_false]at hp;rcases hp with rfl<;>first|exact ZnV),ZaI (λ_ z=>z) (by intro p hp;simp only [ie_BadRule,List.mem_cons,List.mem_nil_iff,or_false]at hp;rcases hp with rfl<;>first|exact ZnW),⟨ZoX,ZpR,l6.kp⟩,⟨ZoN,ZpH,l15.kp⟩,⟨ZoS,ZpM,l6.kp⟩,⟨Zo2,ZpW,l6.kp⟩,⟨Zo7,Zp1,l6.kp⟩,⟨ZoD,Zpx,l16.kp⟩,⟨ZoI,ZpC,l17.kp⟩,⟨ZoY,ZpS,l7.kp⟩,⟨ZoO,ZpI,l8.kp⟩,⟨ZoT,ZpN,l9.kp⟩,⟨Zo3,ZpX,l10.kp⟩,⟨Zo8,Zp2,l11.kp⟩,⟨ZoE,Zpy,l12.kp⟩,⟨ZoJ,ZpD,l13.kp⟩,⟨ZoZ,ZpT,l18.kp⟩,⟨ZoP,ZpJ,l18.kp⟩,⟨ZoU,ZpO,l18.kp⟩,⟨Zo4,ZpY,l18.kp⟩,⟨Zo9,Zp3,l18.kp⟩,⟨ZoF,Zpz,l18.kp⟩,⟨ZoK,ZpE,l18.kp⟩,⟨Zo0,ZpU,l19.kp⟩,⟨ZoQ,ZpK,l19.kp⟩,⟨ZoV,ZpP,l19.kp⟩,⟨Zo5,ZpZ,l19.kp⟩,⟨Zpa,Zp4,l19.kp⟩,⟨ZoG,ZpA,l19.kp⟩,⟨ZoL,ZpF,l19.kp⟩,⟨Zo1,ZpV,l14.kp⟩,⟨ZoR,ZpL,l14.kp⟩,⟨ZoW,ZpQ,l14.kp⟩,⟨Zo6,Zp0,l14.kp⟩,⟨Zpb,Zp5,l14.kp⟩,⟨ZoH,ZpB,l14.kp⟩,⟨ZoM,ZpG,l14.kp⟩,⟨Znt,ZqD,Zns,l5.kp⟩,Zcd (by intro p hp;simp only [it_All,List.mem_cons,List.mem_nil_iff,or_false]at hp;rcases hp with rfl|rfl|rfl|rfl|rfl|rfl|rfl|rfl|rfl|rfl|rfl|rfl|rfl<;>first|exact Zn5|exact Zoh|exact Zok|exact Zoq|exact Zon|exact Zot|exact⟨Zn8,⟨Zqt,ZnF,ZqA,ZqI⟩,Zny,hn_,htk_,ZnM⟩|exact⟨ZnZ,⟨Zqr,ZnD,Zqy,ZqG⟩,Znw,hn_,htk_,ZnK⟩|exact⟨Zn2,⟨Zqs,ZnE,Zqz,ZqH⟩,Znx,hn_,htk_,ZnL⟩|exact⟨Zob,⟨Zqu,ZnG,ZqB,ZqJ⟩,Znz,hn_,htk_,ZnN⟩|exact⟨Zoe,⟨Zqv,ZnH,ZqC,ZqK⟩,ZnA,hn_,htk_,ZnO⟩|exact⟨ZnP,⟨Zqp,ZnB,Zqw,ZqE⟩,Znu,hn_,htk_,ZnI⟩|exact⟨ZnS,⟨Zqq,ZnC,Zqx,ZqF⟩,Znv,hn_,htk_,ZnJ⟩),Zcd (by intro p hp;simp only [QU,List.mem_cons,List.mem_nil_iff,or_false]at hp;rcases hp with rfl|rfl|rfl|rfl|rfl|rfl|rfl|rfl|rfl|rfl|rfl|rfl|rfl<;>first|exact Zn6|exact Zoi|exact Zol|exact Zor|exact Zoo|exact Zou|exact⟨Zn9,⟨Zqt,ZnF,ZqA,ZqI⟩,Zny,hn_,htk_,ZnM⟩|exact⟨Zn0,⟨Zqr,ZnD,Zqy,ZqG⟩,Znw,hn_,htk_,ZnK⟩|exact⟨Zn3,⟨Zqs,ZnE,Zqz,ZqH⟩,Znx,hn_,htk_,ZnL⟩|exact⟨Zoc,⟨Zqu,ZnG,ZqB,ZqJ⟩,Znz,hn_,htk_,ZnN⟩|exact⟨Zof,⟨Zqv,ZnH,ZqC,ZqK⟩,ZnA,hn_,htk_,ZnO⟩|exact⟨ZnQ,⟨Zqp,ZnB,Zqw,ZqE⟩,Znu,hn_,htk_,ZnI⟩|exact⟨ZnT,⟨Zqq,ZnC,Zqx,ZqF⟩,Znv,hn_,htk_,ZnJ⟩),Zcd (by intro p hp;simp only [QV,List.mem_cons,List.mem_nil_iff,or_false]at hp;rcases hp with rfl|rfl|rfl|rfl|rfl|rfl|rfl|rfl|rfl|rfl|rfl|rfl|rfl<;>first|exact Zn7|exact Zoj|exact Zom|exact Zos|exact Zop|exact Zov|exact⟨Zoa,⟨Zqt,ZnF,ZqA,ZqI⟩,Zny,hn_,htk_,ZnM⟩|exact⟨Zn1,⟨Zqr,ZnD,Zqy,ZqG⟩,Znw,hn_,htk_,ZnK⟩|exact⟨Zn4,⟨Zqs,ZnE,Zqz,ZqH⟩,Znx,hn_,htk_,ZnL⟩|exact⟨Zod,⟨Zqu,ZnG,ZqB,ZqJ⟩,Znz,hn_,htk_,ZnN⟩|exact⟨Zog,⟨Zqv,ZnH,ZqC,ZqK⟩,ZnA,hn_,htk_,ZnO⟩|exact⟨ZnR,⟨Zqp,ZnB,Zqw,ZqE⟩,Znu,hn_,htk_,ZnI⟩|exact⟨ZnU,⟨Zqq,ZnC,Zqx,ZqF⟩,Znv,hn_,htk_,ZnJ⟩)⟩
 obtain⟨_,_,_,_,_,_,_,_,_,rfl,_⟩:=l46.l.ex;exact⟨_,λs v => .of_eq rfl,λbase _ _=>Zjm hall T⟩
theorem walk {l:PySem.W.OpenLaw} {q:Program} {loose:List Str} {XP:(Str->Option Value)->Heap->Prop} {YP:World->Heap->Prop} {d:DefRec} {K:Params->PySem.W.Frag} (hn:l.most=some 63) (hdf:d.params.defaults=[])
 (hY:∀(w:World)(h:Heap),YP w h->(K w.params).In h)
 (F:∀(w:World)(mg:Str->Option Value)(fa:Addr)(h:Heap),(K w.params).In h->h.Ns mainGlobals mg->mg d.name=some (.ref fa) ->
   ∃fd:FuncData,(∀(s:Shared)(u:Value),BindsTo s fd ⟨[u],[]⟩ [("script",u)])/\∀base:Heap,(K w.params).In base->base.Ns mainGlobals mg->FnOk l.prog w (K w.params) mg base CX0 10 fa fd ["script"] (Ze4 (K w.params))) :
 PySem.W.WalkO q loose XP YP l.row.toRowW d [] (λf vs=>PySem.call f vs):=
 L2.walk_of (n:=63) (k:=10) (x:="script") (CX:=λ_=>CX0) (sp:=λw=>Ze4 (K w.params)) hn (by decide) hdf ⟨rfl,by decide,by decide⟩ hY F (λ_ _ a ns hl _ hS=>⟨a,ns,rfl,hS,hl,λ_=>rfl⟩) λ_ _ _ _ _ z=>z
end K06
open PySem PySem.W PyProof.Rows
set_option maxRecDepth 100000 in
set_option maxHeartbeats 0 in
theorem PySem.Challenge.cw_grooveway_k06_whole_rows_kept_holds : PySem.Challenge.rw_grooveway_k06_whole_rows_kept.Holds := by
 w_on;o_law
 refine holds_open (r:=PySem.Challenge.rw_grooveway_k06_whole_rows_kept.row) (q:=(view PySem.Challenge.pw_grooveway_k06_whole_rows_kept [0,2,3,4,5,7,8,9,10,11,12,13,14,15,16,17,18,20,21,22,23,24,25,26,27,28,29,30,31,32,33,34,35,36,37,38,39])) (loose:=["Gap"]) (XP:=XL (view PySem.Challenge.pw_grooveway_k06_whole_rows_kept [0,2,3,4,5,7,8,9,10,11,12,13,14,15,16,17,18,20,21,22,23,24,25,26,27,28,29,30,31,32,33,34,35,36,37,38,39]) []) (YP:=InK K06.kP) K06.left (InK.of K06.kP_as) InK.keeps (λs e=>xl_of s (Bool.and_eq_true_iff.mp e).1) XL.keeps (by rfl) (by rfl) (by rfl) (λs e=>recFacts_of (Bool.and_eq_true_iff.mp e).2) (by rfl) (by assumption) (by decide +kernel) ⟨rfl,rfl,rfl,rfl,rfl,by decide +kernel⟩ ?hw ?hc
 case hw=>w_witness2
 k_fill
 refine K06.walk (l:=PySem.Challenge.rw_grooveway_k06_whole_rows_kept) rfl rfl (λw h Y=>Y) ?F
 case F=>
  intro w mg fa h KX G hmg;refine' K06.all_mk K06.all_true KX G hmg ..
  any_goals first|k_is|kit_is|rfl|kernel_rfl|decide +kernel|(refine' L2.Fg.of ?_ ?_ ?_ ?_<;>first|k_is|skip)|(refine' L2.fun_mk ?_ ?_ ?_<;>first|k_is|skip)|skip
