import PyProof.Rows.All
import Wide.All
import OpenK.AllK
import Wide.FinOn
import Lean
import PyProof.EqAt
import PyProof.EqKinds
import PyProof.TupleCall
import PyProof.Rows.StrCountLaw
import PyProof.Rows.StrFirst
import PyProof.Rows.StrLast
import PyProof.Rows.StrNews2
import PyProof.Rows.StrSplitCount
import PyProof.StrBlockI
import PyProof.StrLawsIn
import PyProof.StrLawsLast
import PyProof.EnumMake
import PyProof.FString
import PyProof.ReprStr
import PyProof.StrLawsRepr
import PyProof.ListStr
import PyProof.ListRange
import PySem.Challenge.RW_grooveway_k04_all_at_once
set_option Elab.async false
set_option linter.all false
set_option maxRecDepth 100000
set_option maxHeartbeats 4000000
open PySem.W (keepIn nsIn mg_of fnOf codeIn kitOne mg_none_of isFn instObj emptyDict)
namespace L2
open PySem PySem.Spec PyProof.Rows
abbrev Key:=Sum Int Str
def Zf7:Key->Value->Bool
 | .inl k,v=>Value.isInt k v
 | .inr x,v=>Value.isStrOf x v
def Zkg(w:World):Key->Int
 | .inl k=>hashInt k
 | .inr x=>hashStr w x
theorem Vs:∀{k:Key}{v:Value},Zf7 k v=true->(∃i t,k=Sum.inl i/\v=Value.int i t)\/(∃x t,k=Sum.inr x/\v=Value.str x t)
 | .inl i,v,h=>by
  obtain⟨t,e⟩:=Value.isInt_shape (k:=i) (v:=v) h;exact .inl ⟨i,t,rfl,e⟩
 | .inr x,v,h=>by
  obtain⟨t,e⟩:=Value.isStrOf_shape (x:=x) (v:=v) h;exact .inr ⟨x,t,rfl,e⟩
theorem ZgD(a b:Int):decide ((Sum.inl a:Key)=Sum.inl b)=(a == b):=by
 by_cases e:a=b
 · subst e;simp
 · have h:¬(Sum.inl a:Key)=Sum.inl b:=λq=>e (Sum.inl.inj q)
   rw [decide_eq_false h];exact(beq_eq_false_iff_ne.mpr e).symm
theorem ZgE(a b:Str):decide ((Sum.inr a:Key)=Sum.inr b)=decide (a=b):=by
 by_cases e:a=b
 · subst e;simp
 · have h:¬(Sum.inr a:Key)=Sum.inr b:=λq=>e (Sum.inr.inj q)
   rw [decide_eq_false h,decide_eq_false e]
theorem ZgF(a:Int)(b:Str):decide ((Sum.inl a:Key)=Sum.inr b)=false:=decide_eq_false (λq=>nomatch q)
theorem ZgG(a:Str)(b:Int):decide ((Sum.inr a:Key)=Sum.inl b)=false:=decide_eq_false (λq=>nomatch q)
def ZcW(prog:Program)(w:World):PySem.KeyKind prog w Key where
 is:=Zf7
 hash:=Zkg w
 inj:=λv a b ha hb=>by
  rcases Vs ha with⟨i,t,rfl,rfl⟩|⟨x,t,rfl,rfl⟩
  · rcases Vs hb with⟨j,u,rfl,e⟩|⟨y,u,rfl,e⟩
    · injection e with e1 _;rw [e1]
    · exact nomatch e
  · rcases Vs hb with⟨j,u,rfl,e⟩|⟨y,u,rfl,e⟩
    · exact nomatch e
    · injection e with e1 _;rw [e1]
 byValue:=λk v h=>by
  rcases Vs h with⟨i,t,rfl,rfl⟩|⟨x,t,rfl,rfl⟩<;>rfl
 pyHash:=λhv h=>by
  rcases Vs hv with⟨i,t,rfl,rfl⟩|⟨x,t,rfl,rfl⟩
  · exact wpAny_pyHash_int h
  · exact wpAny_pyHash_str h
 eqBool:=λhu hv h=>by
  rcases Vs hu with⟨i,t,rfl,rfl⟩|⟨x,t,rfl,rfl⟩
  · rcases Vs hv with⟨j,u,rfl,rfl⟩|⟨y,u,rfl,rfl⟩
    · rw [ZgD]at h;exact wpAny_eqBool_int h
    · rw [ZgF]at h;exact SeqAt.EqAt.int_str i t y u _ _ _ _ h
  · rcases Vs hv with⟨j,u,rfl,rfl⟩|⟨y,u,rfl,rfl⟩
    · rw [ZgG]at h;exact SeqAt.EqAt.str_int x t j u _ _ _ _ h
    · rw [ZgE]at h;exact wpAny_eqBool_str h
 «strs» := λk x t v h=>by
  rcases Vs h with⟨i,u,rfl,e⟩|⟨y,u,rfl,e⟩
  · exact nomatch e
  · injection e with e1 _
    subst e1;cases v<;>rfl
end L2
namespace L2
open PySem PySem.Spec PyProof.Rows
inductive V where
 |non|bl (b:Bool)|int (i:Int)|str (x:Str)|byt (b:Array UInt8)|flt (b:UInt64)|ref (a:Addr)|ty (n:String)
 deriving DecidableEq
def RelV:V->Value->Prop
 | .non,u=>u=Value.none
 | .bl b,u=>u=Value.bool b
 | .int i,u=>∃t,u=Value.int i t
 | .str x,u=>∃t,u=Value.str x t
 | .byt b,u=>∃t,u=Value.bytes b t
 | .flt b,u=>∃t,u=Value.float b t
 | .ref a,u=>u=Value.ref a
 | .ty n,u=>u=Value.type n
abbrev Vals:List V->List Value->Prop:=Paired RelV
theorem Vals.length{xs:List V}{us:List Value}(r:Vals xs us):xs.length=us.length:=Paired.length r
theorem Vals.get:∀{xs:List V}{us:List Value}{i:Nat}{x:V},Vals xs us->xs[i]? = some x->∃u,us[i]? = some u/\RelV x u
 |_,_,_,_,.nil,e=>by simp at e
 |_,_,0,_,.cons r _,e=>by simp at e;subst e;exact⟨_,rfl,r⟩
 |_,_,i+1,x,.cons _ t,e=>by
  obtain⟨u,h1,h2⟩:=Vals.get (i:=i) (x:=x) t (by simpa using e);exact⟨u,by simpa using h1,h2⟩
theorem Vals.set{x:V}{u:Value}(r:RelV x u):∀{xs:List V}{us:List Value}(i:Nat),Vals xs us->Vals (xs.set i x) (us.set i u)
 |_,_,_,.nil => .nil
 |_,_,0,.cons _ t => .cons r t
 |_,_,i+1,.cons q t => .cons q (Vals.set r i t)
theorem Vals.append:∀{xs ys:List V}{us ws:List Value},Vals xs us->Vals ys ws->Vals (xs++ys) (us++ws)
 |_,_,_,_,.nil,s=>s
 |_,_,_,_,.cons r t,s => .cons r (Vals.append t s)
theorem Vals.take:∀{xs:List V}{us:List Value}(n:Nat),Vals xs us->Vals (xs.take n) (us.take n)
 |_,_,0,_ => .nil
 |_,_,_+1,.nil => .nil
 |_,_,n+1,.cons r t => .cons r (Vals.take n t)
theorem Vals.drop:∀{xs:List V}{us:List Value}(n:Nat),Vals xs us->Vals (xs.drop n) (us.drop n)
 |_,_,0,r=>r
 |_,_,_+1,.nil => .nil
 |_,_,n+1,.cons _ t=>Vals.drop n t
def RelO:Option V->Option Value->Prop
 |some v,some u=>RelV v u
 |none,none=>True
 |_,_=>False
def KV{κ:Type}:List (κ×V)->List (κ×Value)->Prop:=Paired λ(p:κ×V) (q:κ×Value)=>p.1=q.1/\RelV p.2 q.2
def kV:Key->V
 | .inl i => .int i
 | .inr x => .str x
inductive HO where
 |lst (xs:List V)
 |tup (xs:List V)
 |dK (kvs:List (Key×V))|dT (kvs:List (List Key×V))
 |set (S:Int->Bool) (n:Nat)
 |ins (C dx:Addr) (fs:List (Str×V))
 |own (x:Addr)
 |xd (fs:List (Str×V))
 |met (f x:Addr)
 |rng (lo hi:Int)
 |frz (o:Obj) (u:HO)
 |tbl (ps:Array Value)
 |ext (φ:Heap->Prop)
abbrev Hp:=Addr->Option HO
def upd(H:Hp)(a:Addr)(o:HO):Hp:=λb=>if b=a then some o else H b
theorem Yq{H:Hp}{a:Addr}{o:HO}:upd H a o a=some o:=by unfold upd;rw [if_pos rfl]
theorem Zv{H:Hp}{a b:Addr}{o:HO}(h:b≠a):upd H a o b=H b:=by unfold upd;rw [if_neg h]
theorem YD{H:Hp}{a b:Addr}{o:HO}(h:H a=some o)(h':H b=none):a≠b:=by
 intro e;subst e;rw [h]at h';cases h'
def TupN(h:Heap)(a:Addr)(its:Array Value):Prop:=∃o,h.get? a=some o/\o.cls = .type "tuple" /\ (∃n,o.data = .seq its n)/\o.dict=none
theorem TupN.tup{h:Heap}{a:Addr}{its:Array Value}(x:TupN h a its):IsTup h a its:=let⟨o,e,c,d,_⟩:=x;⟨o,e,c,d⟩
theorem TupN.new(h:Heap)(its:Array Value):TupN (h.push { cls := .type "tuple",data := .seq its }) h.objs.size its:=⟨_,Heap.get?_push_size _ rfl,rfl,⟨_,rfl⟩,rfl⟩
section
variable(P:Program)(w:World)
def ObjOk(H:Hp)(h:Heap)(a:Addr):HO->Prop
 | .lst xs=>xs.length<=sizeLine/\∃(its:List Value) (n:Nat),Vals xs its/\h.get? a=some { cls := .type "list",data := .seq its.toArray n }
 | .tup xs=>xs.length<=sizeLine/\∃its:List Value,Vals xs its/\TupN h a its.toArray
 | .dK kvs=>kvs.length<=sizeLine/\(a == sysModules)=false/\∃vs,KV kvs vs/\h.DictOf (ZcW P w) a vs
 | .dT kvs=>kvs.length<=sizeLine/\(a == sysModules)=false/\∃xs:List (List Key×Addr×Value),
  Paired (λ(p:List Key×V) (q:List Key×Addr×Value)=>p.1=q.1/\H q.2.1=some (.tup (p.1.map kV))/\RelV p.2 q.2.2) kvs xs /\
  ∃o es ep,h.get? a=some o/\o.ExactDict/\o.data = .dict es ep/\es.toList=xs.map (entryOfKey (tupleKind (ZcW P w)))/\(xs.map (·.1)).Nodup
 | .set S n=>h.SetOf (intKind P w) a S n
 | .ins C dx fs=>H dx=some (.own a)/\fs.length<=1000/\dx≠a/\h.get? a=some (instObj C dx) /\
  ∃mA,h.Ns1 dx mA/\(∀f,RelO (fs.lookup f) (mA f))/\PySem.Within mA (fs.map (·.1))
 | .own _=>∃o,h.get? a=some o
 | .xd fs=>∃mA,h.Ns1 a mA/\∀f,RelO (fs.lookup f) (mA f)
 | .rng lo hi=>∃t u v,h.get? a=some { cls := .type "range",data := .fields #[.int lo t,.int hi u,.int 1 v] }
 | .frz o u=>h.get? a=some o/\ObjOk H h a u
 | .tbl ps=>h.get? a=some { cls := .none,data := .fields ps }
 | .met f x=>h.get? a=some (PySem.W.methodObj (.ref f) (.ref x))
 | .ext φ=>φ h/\(∃o,h.get? a=some o)/\∀h1 h2:Heap,φ h1->(∀o,h1.get? a=some o->h2.get? a=some o)->φ h2
def HOk(H:Hp)(h:Heap):Prop:=∀a o,H a=some o->ObjOk P w H h a o
end
section
variable{P:Program}{w:World}{H H':Hp}{h h':Heap}{a:Addr}{o:HO}
theorem ObjOk.lt(x:ObjOk P w H h a o):a<h.objs.size:=by
 cases o with
 |lst xs=>obtain⟨_,_,_,_,e⟩:=x;exact Heap.lt_size e
 |tup xs=>obtain⟨_,_,_,p⟩:=x;exact p.tup.lt
 |dK kvs=>obtain⟨_,_,_,_,o,_,_,e,_⟩:=x;exact Heap.lt_size e
 |dT kvs=>obtain⟨_,_,_,_,o,_,_,e,_⟩:=x;exact Heap.lt_size e
 |set S n=>obtain⟨o,_,_,_,e,_⟩:=x;exact Heap.lt_size e
 |ins C dx fs=>obtain⟨_,_,_,e,_⟩:=x;exact Heap.lt_size e
 |own y=>obtain⟨_,e⟩:=x;exact Heap.lt_size e
 |xd fs=>obtain⟨_,⟨_,_,_,e,_⟩,_⟩:=x;exact Heap.lt_size e
 |rng lo hi=>obtain⟨_,_,_,e⟩:=x;exact Heap.lt_size e
 |frz ob u=>obtain⟨e,_⟩:=x;exact Heap.lt_size e
 |tbl ps=>exact Heap.lt_size (show h.get? a=some _ from x)
 |met f y=>exact Heap.lt_size (show h.get? a=some _ from x)
 |ext φ=>obtain⟨_,⟨_,e⟩,_⟩:=x;exact Heap.lt_size e
theorem Paired.mapP{α β:Type}{F G:α->β->Prop}:∀{l₁:List α}{l₂:List β},Paired F l₁ l₂->(∀a b,F a b->G a b)->Paired G l₁ l₂
 |_,_,.nil,_ => .nil
 |_,_,.cons r t,f => .cons (f _ _ r) (Paired.mapP t f)
theorem ObjOk.stay (x:ObjOk P w H h a o) (k:∀b u,(b=a\/H b=some (.own a))->h.get? b=some u->h'.get? b=some u)
 (ho:∀b,H b=some (.own a)->H' b=some (.own a)) (ht:∀b xs,H b=some (.tup xs)->H' b=some (.tup xs)):ObjOk P w H' h' a o:=by
 induction o with
 |lst xs=>obtain⟨z,its,n,r,e⟩:=x;exact⟨z,its,n,r,k _ _ (.inl rfl) e⟩
 |tup xs=>obtain⟨z,its,r,ob,e,c⟩:=x;exact⟨z,its,r,ob,k _ _ (.inl rfl) e,c⟩
 |dK kvs=>obtain⟨z,y,vs,r,ob,es,ep,e,c⟩:=x;exact⟨z,y,vs,r,ob,es,ep,k _ _ (.inl rfl) e,c⟩
 |dT kvs=>
  obtain⟨z,y,xs,r,ob,es,ep,e,c⟩:=x;exact⟨z,y,xs,Paired.mapP r λp q z=>⟨z.1,ht _ _ z.2.1,z.2.2⟩,ob,es,ep,k _ _ (.inl rfl) e,c⟩
 |set S n=>obtain⟨ob,es,ep,t,e,c⟩:=x;exact⟨ob,es,ep,t,k _ _ (.inl rfl) e,c⟩
 |ins C dx fs=>
  obtain⟨d,z,ne,e,mA,⟨od,es,ep,e2,c⟩,r⟩:=x;exact⟨ho _ d,z,ne,k _ _ (.inl rfl) e,mA,⟨od,es,ep,k _ _ (.inr d) e2,c⟩,r⟩
 |own y=>obtain⟨ob,e⟩:=x;exact⟨ob,k _ _ (.inl rfl) e⟩
 |xd fs=>obtain⟨mA,⟨od,es,ep,e,c⟩,r⟩:=x;exact⟨mA,⟨od,es,ep,k _ _ (.inl rfl) e,c⟩,r⟩
 |rng lo hi=>obtain⟨t,u,v,e⟩:=x;exact⟨t,u,v,k _ _ (.inl rfl) e⟩
 |frz ob u ih=>obtain⟨e,q⟩:=x;exact⟨k _ _ (.inl rfl) e,ih q⟩
 |tbl ps=>
  have e:h.get? a=some { cls := .none,data := .fields ps }:=x;show h'.get? a=some { cls := .none,data := .fields ps };exact k a _ (.inl rfl) e
 |met f y=>
  have e:h.get? a=some (PySem.W.methodObj (.ref f) (.ref y)):=x;show h'.get? a=some (PySem.W.methodObj (.ref f) (.ref y));exact k a _ (.inl rfl) e
 |ext φ=>obtain⟨p,⟨o,e⟩,st⟩:=x;exact⟨st _ _ p λo q=>k _ _ (.inl rfl) q,⟨o,k _ _ (.inl rfl) e⟩,st⟩
theorem HOk.lt(x:HOk P w H h)(e:H a=some o):a<h.objs.size:=(x a o e).lt
theorem HOk.fresh(x:HOk P w H h)(e:h.objs.size<=a):H a=none:=by
 cases q:H a with
 |none=>rfl
 |some u=>exact absurd (Nat.lt_of_lt_of_le (x.lt q) e) (Nat.lt_irrefl _)
theorem HOk.kept(x:HOk P w H h)(k:∀b u,h.get? b=some u->h'.get? b=some u):HOk P w H h':=λa o e=>
 (x a o e).stay (λb u _ q=>k b u q) (λ_ q=>q) λ_ _ q=>q
theorem HOk.laid(x:HOk P w H h)(k:∀b u,h.get? b=some u->h'.get? b=some u)(hp:h.objs.size<=a)(new:ObjOk P w (upd H a o) h' a o):HOk P w (upd H a o) h':=λb u e=>by
 have hn:=x.fresh hp
 by_cases hb:b=a
 · subst hb;rw [Yq]at e;cases e;exact new
 · rw [Zv hb]at e
   exact(x b u e).stay (λc v _ q=>k c v q) (λc q=>by rw [Zv (YD q hn)];exact q) λc xs q=>by rw [Zv (YD q hn)];exact q
end
def Rd(H:Hp)(a:Addr)(u:HO):Prop:=H a=some u\/∃o,H a=some (.frz o u)
theorem Rd.ok{P:Program}{w:World}{H:Hp}{h:Heap}{a:Addr}{u:HO}(r:Rd H a u)(x:HOk P w H h):ObjOk P w H h a u:=by
 rcases r with r|⟨o,r⟩
 · exact x a u r
 · obtain⟨_,q⟩:=x a _ r
   exact q
def Mut:Option HO->Prop
 |some (.lst _)=>True
 |some (.dK _)=>True
 |some (.dT _)=>True
 |some (.set _ _)=>True
 |some (.ins _ _ _)=>True
 |some (.ext _)=>True
 |_=>False
section
variable{P:Program}{w:World}{H:Hp}{h h':Heap}{x e:Addr}{o':HO}
theorem HOk.write (ok:HOk P w H h) (mu:Mut (H x)) (he:e=x\/H e=some (.own x)) (k:∀b u,b≠e->h.get? b=some u->h'.get? b=some u) (heo:∃u,h'.get? e=some u)
 (new:ObjOk P w (upd H x o') h' x o'):HOk P w (upd H x o') h':=λb u q=>by
 have nown:∀c y,H c=some (.own y)->c≠x:=λc y r z=>by subst z;rw [r]at mu;exact mu
 have ntup:∀c xs,H c=some (.tup xs)->c≠x:=λc xs r z=>by subst z;rw [r]at mu;exact mu
 by_cases hb:b=x
 · subst hb;rw [Yq]at q;cases q;exact new
 · rw [Zv hb]at q
   by_cases hbe:b=e
   · have q' : H b = some (.own x) := by
      rcases he with z|z
      · exact absurd (hbe.trans z) hb
      · rw [hbe];exact z
     rw [q]at q';cases q';obtain⟨v,hv⟩:=heo;exact⟨v,by rw [hbe];exact hv⟩
   · refine(ok b u q).stay (λc v hc r=>k c v ?_ r) (λc r=>by rw [Zv (nown c b r)];exact r) λc xs r=>by rw [Zv (ntup c xs r)];exact r
     rcases hc with rfl|hc
     · exact hbe
     · rintro rfl
       rcases he with z|z
       · exact nown c b hc z
       · rw [hc]at z;cases z;exact hb rfl
end
structure Un(fs ex:List Addr)(H H':Hp)(h h':Heap):Prop where
 keep:∀b o,h.get? b=some o->H b=none->b∉fs->b∉ex->h'.get? b=some o
 slot:∀b o,h.get? b=some o->H b=none->b∈fs->b∉ex->∃sl,h'.get? b=some { o with slots:=sl }
 free:∀b o,h.get? b=some o->H b=none->b∉ex->H' b=none
 there:∀b o,h.get? b=some o->b∉ex->∃o',h'.get? b=some o'
 tups:∀b xs,H b=some (.tup xs)->H' b=some (.tup xs)
 frzs:∀b o u,H b=some (.frz o u)->H' b=some (.frz o u)
 tbls:∀b ps,H b=some (.tbl ps)->∃more,H' b=some (.tbl (ps++more))
section
variable{fs fs' ex ex':List Addr}{H H1 H2:Hp}{h h1 h2 h':Heap}{a x e:Addr}{o:HO}
theorem Un.any(u:Un fs ex H H1 h h1){b:Addr}{ob:Obj}(q:h.get? b=some ob)(n:H b=none)(hx:b∉ex):∃sl,h1.get? b=some { ob with slots:=sl }:=by
 by_cases hb:b∈fs
 · exact u.slot b ob q n hb hx
 · exact⟨ob.slots,u.keep b ob q n hb hx⟩
theorem Un.kept(k:∀b u,h.get? b=some u->h'.get? b=some u):Un fs ex H H h h':=
 ⟨λb ob q _ _ _=>k b ob q,λb ob q _ _ _=>⟨ob.slots,k b ob q⟩,λ_ _ _ n _=>n,λb ob q _=>⟨ob,k b ob q⟩,λ_ _ q=>q,λ_ _ _ q=>q,λ_ ps q=>⟨#[],by rw [q];simp⟩⟩
theorem Un.refl:Un fs ex H H h h:=Un.kept λ_ _ q=>q
theorem Un.laid(k:∀b u,h.get? b=some u->h'.get? b=some u)(hp:h.objs.size<=a)(hn:H a=none):Un fs ex H (upd H a o) h h' where
 keep:=λb u q _ _ _=>k b u q
 slot:=λb u q _ _ _=>⟨u.slots,k b u q⟩
 free:=λb u q n _=>by rw [Zv (Nat.ne_of_lt (Nat.lt_of_lt_of_le (Heap.lt_size q) hp))];exact n
 there:=λb u q _=>⟨u,k b u q⟩
 tups:=λb xs q=>by rw [Zv (YD q hn)];exact q
 frzs:=λb u xs q=>by rw [Zv (YD q hn)];exact q
 tbls:=λb ps q=>⟨#[],by rw [Zv (YD q hn),q];simp⟩
theorem Un.write(mu:Mut (H x))(he:e=x\/H e=some (.own x))(k:∀b u,b≠e->h.get? b=some u->h'.get? b=some u)(heo:∃u,h'.get? e=some u):Un fs ex H (upd H x o) h h':=by
 have hx:∀b,H b=none->b≠x:=λb n z=>by subst z;rw [n]at mu;exact mu
 have hb:∀b,H b=none->b≠e:=λb n z=>by
  subst z;rcases he with r|r
  · exact hx b n r
  · rw [n]at r;cases r
 have hm:∀b u,H b=some u->¬Mut (some u)->b≠x:=λb u q nm z=>by subst z;rw [q]at mu;exact nm mu
 refine⟨λb u q n _ _=>k b u (hb b n) q,λb u q n _ _=>⟨u.slots,k b u (hb b n) q⟩,λb u q n _=>by rw [Zv (hx b n)];exact n,λb u q _ => ?_,
  λb xs q=>by rw [Zv (hm b _ q λz=>z)];exact q,λb u xs q=>by rw [Zv (hm b _ q λz=>z)];exact q,λb ps q=>⟨#[],by rw [Zv (hm b _ q λz=>z),q];simp⟩⟩
 by_cases hbe:b=e
 · subst hbe;exact heo
 · exact⟨u,k b u hbe q⟩
end
def trk(h:Heap)(H:Hp):List Addr:=(List.range h.objs.size).filter λa=>(H a).isSome
def Vt(h:Heap)(H:Hp):Heap:=PySem.W.hideAll h (trk h H)
theorem Zdl(h:Heap)(H:Hp):(Vt h H).objs.size=h.objs.size:=PySem.W.hideAll_size _ _
theorem ZdY{h:Heap}{H:Hp}{b:Addr}{o:Obj}(e:h.get? b=some o)(n:H b=none):(Vt h H).get? b=some o:=
 PySem.W.hideAll_get _ e λhm=>by
  have q:(H b).isSome=true:=(List.mem_filter.mp hm).2;rw [n]at q;simp at q
theorem Zfv{h:Heap}{H:Hp}{b:Addr}{o:Obj}(e:(Vt h H).get? b=some o):h.get? b=some o/\H b=none:=by
 have e':h.get? b=some o:=PySem.W.of_hideAll (trk h H) e;refine⟨e',?_⟩;cases q:H b with
 |none=>rfl
 |some x=>
  have hm:b∈trk h H:=List.mem_filter.mpr ⟨List.mem_range.mpr (Heap.lt_size e'),by simp [q]⟩;have z:(Vt h H).get? b=none:=PySem.W.hideAll_none (trk h H) hm;rw [z]at e;cases e
end L2
namespace L2
open PySem PySem.Spec PyProof.Rows
structure Mod(K:PySem.W.Frag)(mg:Str->Option Value)(base:Heap):Prop where
 kin:K.In base
 glob:base.Ns mainGlobals mg
 blt:∃mb,base.Ns builtinsNs mb/\∀x:Str,x ≠ "__name__" -> mb x=bootBuiltins x
 nolimit:base.NoLimit
structure Cx where
 prog:Program
 w:World
 K:PySem.W.Frag
 mg:Str->Option Value
 base:Heap
 A:Around
 N:List Str
 s₀:Shared
 H₀:Hp
 env:Env
 outer:List Env
 stack:List Env
 ex:List Addr
 fn:Str->Bool
 calm:Bool
 pn:List (Addr×Obj)
 xe:Value->Shared->Prop
def frs(l:List Env):List Addr:=l.filterMap (·.frame)
abbrev Cx.fs(X:Cx):List Addr:=frs X.outer
def Vis(sc:Scope)(x:Str):Prop:=sc.names.lookup x=some .local\/sc.names.lookup x=some .cell\/sc.names.lookup x=some .free
def Loc(sc:Scope)(x:Str):Prop:=sc.names.lookup x=some .local\/sc.names.lookup x=some .cell
def ZjZ(env:Env)(h:Heap)(m:Str->Option Value)(x:Str)(u:Value):Prop:=
 (env.kindOf x=some .local/\m x=some u)\/((env.kindOf x=some .cell\/env.kindOf x=some .free)/\∃c,env.cells.lookup x=some c/\h.IsCell c (some u))
structure Cx.Ok(X:Cx):Prop where
 mod:Mod X.K X.mg X.base
 kind:X.env.scope.kind = .function
 glob:X.env.globals=mainGlobals
 blt:X.env.builtins=builtinsNs
 above:X.s₀.heap.objs.size<=X.env.locals
 inj:∀x y c,X.env.cells.lookup x=some c->X.env.cells.lookup y=some c->x=y
 has:∀x,(X.env.kindOf x=some .cell\/X.env.kindOf x=some .free)->∃c,X.env.cells.lookup x=some c
 cab:∀x c,X.fn x=true->X.env.cells.lookup x=some c->X.s₀.heap.objs.size<=c
 hd:X.calm=true->X.A.handled=none
 frames:X.A.frames=some X.stack
 stk:X.stack=X.outer\/(X.stack=X.env::X.outer/\X.env.frame=some X.env.locals)
 exf:∀b∈X.ex,b≠X.env.locals/\∀x c,X.env.cells.lookup x=some c->c≠b
 bs:∀b o,X.base.get? b=some o->X.s₀.heap.get? b=some o/\X.H₀ b=none
 bsz:X.base.objs.size<=X.s₀.heap.objs.size
 noex:∀b o,X.base.get? b=some o->b∉X.ex
 exfs:∀b∈X.ex,b∉X.fs
 funs:X.s₀.heap.FunFrames X.base X.outer
 frf:∀b∈X.fs,X.H₀ b=none
structure Inv(X:Cx)(pins:List (Addr×Obj))(σ:List (Option V))(H:Hp)(s:Shared):Prop where
 ok:X.Ok
 os:s.os=X.s₀.os
 bare:AllBare s.gens
 base:Un X.fs X.ex X.H₀ H X.s₀.heap s.heap
 loc:∃m,s.heap.Ns X.env.locals m/\∀(i:Nat)(x:Str)(v:V),X.N[i]? = some x->σ[i]? = some (some v)->Vis X.env.scope x->∃u,RelV v u/\ZjZ X.env s.heap m x u
 cell:∀x c,X.env.cells.lookup x=some c->∃v,s.heap.IsCell c v
 free:H X.env.locals=none
 freeC:∀x c,X.env.cells.lookup x=some c->H c=none
 pin:∀p∈X.pn++pins,s.heap.get? p.1=some p.2/\H p.1=none/\p.1≠X.env.locals/\p.1∉X.fs/\∀v,p.2.data ≠ .cell v
 hok:HOk X.prog X.w H s.heap
 len:σ.length=X.N.length
section
variable{X:Cx}{pins:List (Addr×Obj)}{σ:List (Option V)}{H H':Hp}{s:Shared}{h':Heap}
theorem Cx.Ok.nofr(ok:X.Ok){b:Addr}{o:Obj}(e:X.base.get? b=some o):b∉X.fs:=λhb=>by
 have:=(ok.funs.mem hb).1;rw [e]at this;cases this
theorem Inv.bs(I:Inv X pins σ H s):∀b o,X.base.get? b=some o->s.heap.get? b=some o/\H b=none:=λb o e=>
 ⟨I.base.keep b o (I.ok.bs b o e).1 (I.ok.bs b o e).2 (I.ok.nofr e) (I.ok.noex b o e),I.base.free b o (I.ok.bs b o e).1 (I.ok.bs b o e).2 (I.ok.noex b o e)⟩
theorem Inv.bk(I:Inv X pins σ H s):∀b o,X.base.get? b=some o->s.heap.get? b=some o:=λb o e=>(I.bs b o e).1
theorem Inv.mod(I:Inv X pins σ H s):Mod X.K X.mg X.base:=I.ok.mod
theorem Inv.kIn(I:Inv X pins σ H s):X.K.In s.heap:=I.ok.mod.kin.keeps I.bk
theorem Inv.nolimit(I:Inv X pins σ H s):s.heap.NoLimit:=I.ok.mod.nolimit.keeps I.bk
theorem Inv.fr(I:Inv X pins σ H s):∃m,Fr X.base X.env.locals s.heap m:=
 let⟨m,hn,_⟩:=I.loc
 ⟨m,hn,I.bk,Nat.le_trans I.ok.bsz I.ok.above⟩
theorem Inv.lt(I:Inv X pins σ H s):X.env.locals<s.heap.objs.size:=let⟨_,hn,_⟩:=I.loc;hn.lt
theorem Inv.sz(I:Inv X pins σ H s):X.s₀.heap.objs.size<=s.heap.objs.size:=Nat.le_trans I.ok.above (Nat.le_of_lt I.lt)
theorem Inv.nofs(I:Inv X pins σ H s){a:Addr}(h:s.heap.objs.size<=a):a∉X.fs:=λhb=>by
 obtain⟨_,o,ho,_⟩:=I.ok.funs.mem hb;exact absurd (Nat.lt_of_lt_of_le (Heap.lt_size ho) (Nat.le_trans I.sz h)) (Nat.lt_irrefl _)
theorem Inv.cne(I:Inv X pins σ H s):∀x c,X.env.cells.lookup x=some c->c≠X.env.locals:=λx c e z=>by
 obtain⟨v,o,ho,hd⟩:=I.cell x c e;obtain⟨m,⟨o',es,ep,ho',hd',_⟩,_⟩:=I.loc;rw [z,ho']at ho;cases ho;rw [hd']at hd;cases hd
theorem Inv.funs(I:Inv X pins σ H s):s.heap.FunFrames X.base X.outer:=by
 have all:∀(l:List Env),(∀b∈frs l,b∈X.fs)->X.s₀.heap.FunFrames X.base l->s.heap.FunFrames X.base l:=by
  intro l
  induction l with
  |nil=>intro _ _;trivial
  |cons env r ih=>
   intro hs hl;obtain⟨hk,⟨L,o,hf,hn,ho,hd⟩,hr⟩:=hl;have hL:L∈X.fs:=hs L (by unfold frs;rw [List.filterMap_cons,hf];exact List.mem_cons_self);obtain⟨sl,e⟩:=I.base.slot L o ho (I.ok.frf L hL) hL λz=>I.ok.exfs L z hL
   exact⟨hk,⟨L,_,hf,hn,e,hd⟩,ih (λb hb=>hs b (by unfold frs;rw [List.filterMap_cons,hf];exact List.mem_cons_of_mem _ hb)) hr⟩
 exact all X.outer (λ_ hb=>hb) I.ok.funs
theorem Inv.stack(I:Inv X pins σ H s):s.heap.FunFrames X.base X.stack:=by
 rcases I.ok.stk with e|⟨e,hf⟩
 · rw [e];exact I.funs
 · rw [e]
   obtain⟨m,hn,_⟩:=I.loc;refine .cons (by rw [I.ok.kind];decide) hf hn ?_ I.funs;exact Heap.get?_none_of_le (Nat.le_trans I.ok.bsz I.ok.above)
theorem Inv.stkSub(I:Inv X pins σ H s):∀b∈frs X.stack,b∈X.env.locals::X.fs:=λb hb=>by
 rcases I.ok.stk with e|⟨e,hf⟩
 · rw [e]at hb;exact List.mem_cons_of_mem _ hb
 · rw [e]at hb
   unfold frs at hb;rw [List.filterMap_cons,hf]at hb;exact hb
theorem Inv.stkFree(I:Inv X pins σ H s):∀b∈frs X.stack,H b=none:=λb hb=>by
 rcases List.mem_cons.mp (I.stkSub b hb)with e|hb
 · rw [e];exact I.free
 · obtain⟨_,o,ho,_⟩:=I.ok.funs.mem hb
   exact I.base.free b o ho (I.ok.frf b hb) λz=>I.ok.exfs b z hb
theorem Inv.step {g':Array GenState} {t':Nat} {d':Drawn} {ch:List Addr} (I:Inv X pins σ H s)
 (hch:∀b∈ch,(b∈X.ex\/X.s₀.heap.objs.size<=b)/\b≠X.env.locals/\(∀x c,X.env.cells.lookup x=some c->c≠b)/\∀p∈X.pn++pins,p.1≠b)
 (keep:∀b o,b≠X.env.locals->b∉X.fs->b∉ch->s.heap.get? b=some o->H b=none->h'.get? b=some o)
 (slot:∀b o,b≠X.env.locals->b∈X.fs->b∉ch->s.heap.get? b=some o->H b=none->∃sl,h'.get? b=some { o with slots:=sl }) (free:∀b o,b∉ch->s.heap.get? b=some o->H b=none->H' b=none)
 (there:∀b o,b∉ch->s.heap.get? b=some o->∃o',h'.get? b=some o')
 (tups:∀b xs,H b=some (.tup xs)->H' b=some (.tup xs)) (frzs:∀b o u,H b=some (.frz o u)->H' b=some (.frz o u)) (tbls:∀b ps,H b=some (.tbl ps)->∃more,H' b=some (.tbl (ps++more)))
 (ns:∀m,s.heap.Ns X.env.locals m->h'.Ns X.env.locals m) (hok:HOk X.prog X.w H' h') (hg:AllBare g') :
 Inv X pins σ H' { s with heap:=h',gens:=g',drawn:=d',toks:=t' }:=by
 have neL:∀b o,X.s₀.heap.get? b=some o->b≠X.env.locals:=λb o e=>Nat.ne_of_lt (Nat.lt_of_lt_of_le (Heap.lt_size e) I.ok.above)
 have neC:∀b o,X.s₀.heap.get? b=some o->b∉X.ex->b∉ch:=λb o e hx hb=>by
  rcases(hch b hb).1 with z|z
  · exact hx z
  · exact absurd (Nat.lt_of_lt_of_le (Heap.lt_size e) z) (Nat.lt_irrefl _)
 have cellK:∀x c,X.env.cells.lookup x=some c->∀v,s.heap.IsCell c v->h'.IsCell c v:=λx c e v ⟨o,ho,hd⟩=>by
  have nch:c∉ch:=λz=>(hch c z).2.2.1 x c e rfl
  by_cases hc:c∈X.fs
  · obtain⟨sl,q⟩:=slot c o (I.cne x c e) hc nch ho (I.freeC x c e)
    exact⟨_,q,hd⟩
  · exact⟨o,keep c o (I.cne x c e) hc nch ho (I.freeC x c e),hd⟩
 refine⟨I.ok,I.os,hg,⟨λb o e n hb hx => ?_,λb o e n hb hx => ?_,λb o e n hx => ?_,λb o e hx => ?_,λb xs e=>tups b xs (I.base.tups b xs e),λb o xs e=>frzs b o xs (I.base.frzs b o xs e),λb ps e => ?_⟩,?_,λx c e => ?_,?_,λx c e => ?_,λp hp => ?_,hok,I.len⟩
 · exact keep b o (neL b o e) hb (neC b o e hx) (I.base.keep b o e n hb hx) (I.base.free b o e n hx)
 · obtain⟨sl,e1⟩:=I.base.slot b o e n hb hx
   obtain⟨sl',e2⟩:=slot b _ (neL b o e) hb (neC b o e hx) e1 (I.base.free b o e n hx);exact⟨sl',e2⟩
 · obtain⟨o',e1⟩:=I.base.there b o e hx
   exact free b o' (neC b o e hx) e1 (I.base.free b o e n hx)
 · obtain⟨o',e1⟩:=I.base.there b o e hx
   exact there b o' (neC b o e hx) e1
 · obtain⟨m1,e1⟩:=I.base.tbls b ps e
   obtain⟨m2,e2⟩:=tbls b _ e1;exact⟨m1++m2,by rw [e2,Array.append_assoc]⟩
 · obtain⟨m,hn,hl⟩:=I.loc
   refine⟨m,ns m hn,λi x v e1 e2 e3 => ?_⟩;obtain⟨u,r,l⟩:=hl i x v e1 e2 e3;refine⟨u,r,?_⟩;rcases l with l|⟨k,c,e,z⟩
   · exact .inl l
   · exact .inr ⟨k,c,e,cellK x c e _ z⟩
 · obtain⟨v,z⟩:=I.cell x c e
   exact⟨v,cellK x c e v z⟩
 · obtain⟨m,⟨o,_,_,ho,_⟩,_⟩:=I.loc
   exact free _ o (λz=>(hch _ z).2.1 rfl) ho I.free
 · obtain⟨v,o,ho,hd⟩:=I.cell x c e
   exact free c o (λz=>(hch c z).2.2.1 x c e rfl) ho (I.freeC x c e)
 · obtain⟨e,n,ne,nf,d⟩:=I.pin p hp
   have nch:p.1∉ch:=λz=>(hch p.1 z).2.2.2 p hp rfl
   exact⟨keep p.1 p.2 ne nf nch e n,free p.1 p.2 nch e n,ne,nf,d⟩
theorem Inv.un{t':Nat}(I:Inv X pins σ H s)(u:Un X.fs [] H H' s.heap h')(hok:HOk X.prog X.w H' h'):Inv X pins σ H' { s with heap:=h',toks:=t' }:=by
 obtain⟨m,⟨o,es,ep,ho,r⟩,_⟩:=id I.loc;obtain⟨sl,hL⟩:=u.any ho I.free (by simp)
 exact I.step (g':=s.gens) (d':=s.drawn) (ch:=[]) (λ_ z=>nomatch z) (λb o _ hb _ e n=>u.keep b o e n hb (by simp)) (λb o _ hb _ e n=>u.slot b o e n hb (by simp)) (λb o _ e n=>u.free b o e n (by simp)) (λb o _ e=>u.there b o e (by simp)) u.tups u.frzs u.tbls (λm' hm=>by
  obtain⟨o',es',ep',ho',r'⟩:=hm;rw [ho]at ho';cases ho';exact⟨_,es',ep',hL,r'⟩) hok I.bare
theorem Inv.call {g':Array GenState} {t':Nat} {d':Drawn} {ch:List Addr} (I:Inv X pins σ H s) (u:Un (frs X.stack) ch H H' s.heap h') (hok:HOk X.prog X.w H' h') (hg:AllBare g')
 (hch:∀b∈ch,(b∈X.ex\/X.s₀.heap.objs.size<=b)/\b≠X.env.locals/\(∀x c,X.env.cells.lookup x=some c->c≠b)/\∀p∈X.pn++pins,p.1≠b) :
 Inv X pins σ H' { s with heap:=h',gens:=g',drawn:=d',toks:=t' }:=by
 obtain⟨m,⟨o,es,ep,ho,r⟩,_⟩:=id I.loc;obtain⟨sl,hL⟩:=u.any ho I.free λz=>(hch _ z).2.1 rfl
 exact I.step (ch:=ch) hch (λb o hL hb hc e n=>u.keep b o e n (λz=>(List.mem_cons.mp (I.stkSub b z)).elim hL hb) hc) (λb o _ _ hc e n=>u.any e n hc) (λb o hc e n=>u.free b o e n hc) (λb o hc e=>u.there b o e hc) u.tups u.frzs u.tbls (λm' hm=>by
  obtain⟨o',es',ep',ho',r'⟩:=hm;rw [ho]at ho';cases ho';exact⟨_,es',ep',hL,r'⟩) hok hg
theorem Inv.turned {t':Nat} {it:Addr} (I:Inv X pins σ H s) (k:∀b o,b≠it->s.heap.get? b=some o->h'.get? b=some o) (hn:H it=none) (hL:it≠X.env.locals)
 (h1:it∈X.ex\/X.s₀.heap.objs.size<=it) (h2:∀x c,X.env.cells.lookup x=some c->c≠it) (h3:∀p∈X.pn++pins,p.1≠it):Inv X pins σ H { s with heap:=h',toks:=t' }:=by
 have nit:∀b u,H b=some u->b≠it:=λb u e z=>by rw [z,hn]at e;cases e
 refine I.step (g':=s.gens) (d':=s.drawn) (ch:=[it]) (λb hb => ?_) (λb o _ _ hc e _=>k b o (λz=>hc (by simp [z])) e) (λb o _ _ hc e _=>⟨o.slots,k b o (λz=>hc (by simp [z])) e⟩) (λ_ _ _ _ n=>n)
  (λb o hc e=>⟨o,k b o (λz=>hc (by simp [z])) e⟩) (λ_ _ e=>e) (λ_ _ _ e=>e) (λb ps e=>⟨#[],by rw [e];simp⟩) (λm hm => ?_) (λb u e => ?_) I.bare
 · have e:b=it:=by simpa using hb
   subst e;exact⟨h1,hL,h2,h3⟩
 · obtain⟨o,es,ep,ho,r⟩:=hm
   exact⟨o,es,ep,k _ o (Ne.symm hL) ho,r⟩
 · refine(I.hok b u e).stay (λc v hc q=>k c v ?_ q) (λ_ q=>q) λ_ _ q=>q
   rcases hc with z|z
   · rw [z];exact nit b u e
   · exact nit c _ z
theorem Inv.tok(I:Inv X pins σ H s)(t:Nat):Inv X pins σ H { s with toks:=t }:=I.un (h':=s.heap) (t':=t) Un.refl I.hok
theorem Inv.kept{t':Nat}(I:Inv X pins σ H s)(k:∀b u,s.heap.get? b=some u->h'.get? b=some u):Inv X pins σ H { s with heap:=h',toks:=t' }:=I.un (Un.kept k) (I.hok.kept k)
theorem Inv.laid{a:Addr}{o:HO}{t':Nat}(I:Inv X pins σ H s)(k:∀b u,s.heap.get? b=some u->h'.get? b=some u)(hp:s.heap.objs.size<=a)(new:ObjOk X.prog X.w (upd H a o) h' a o) :
 Inv X pins σ (upd H a o) { s with heap:=h',toks:=t' }:=I.un (Un.laid k hp (I.hok.fresh hp)) (I.hok.laid k hp new)
theorem Inv.write {x e:Addr} {o:HO} {t':Nat} (I:Inv X pins σ H s) (mu:Mut (H x)) (he:e=x\/H e=some (.own x)) (k:∀b u,b≠e->s.heap.get? b=some u->h'.get? b=some u) (heo:∃u,h'.get? e=some u)
 (new:ObjOk X.prog X.w (upd H x o) h' x o):Inv X pins σ (upd H x o) { s with heap:=h',toks:=t' }:=I.un (Un.write mu he k heo) (I.hok.write mu he k heo new)
theorem Inv.pins_of{pins':List (Addr×Obj)}(I:Inv X pins σ H s)(h:∀p∈pins',s.heap.get? p.1=some p.2/\H p.1=none/\p.1≠X.env.locals/\p.1∉X.fs/\∀v,p.2.data ≠ .cell v):Inv X pins' σ H s:=
 ⟨I.ok,I.os,I.bare,I.base,I.loc,I.cell,I.free,I.freeC,λp hp=>(List.mem_append.mp hp).elim (λz=>I.pin p (List.mem_append_left _ z)) (h p),I.hok,I.len⟩
theorem Zb2{N:List Str}(hN:N.Nodup){i j:Nat}{x:Str}(a:N[i]? = some x)(b:N[j]? = some x):i=j:=by
 obtain⟨h1,e1⟩:=List.getElem?_eq_some_iff.mp a;obtain⟨h2,e2⟩:=List.getElem?_eq_some_iff.mp b;exact(List.getElem_inj hN).mp (e1.trans e2.symm)
theorem Za8 {M:Model} {A:Around} {E:Value->Shared->Prop} {i:Nat} {x:Str} {v:V} {u:Value} {Q:Unit->Shared->Prop} (I:Inv X pins σ H s) (hN:X.N.Nodup) (hi:X.N[i]? = some x) (hx:Loc X.env.scope x) (r:RelV v u)
 (h:∀s',Inv X pins (σ.set i (some v)) H s'->(∃a,Heap.SameBut a s.heap s'.heap/\(a=X.env.locals\/X.env.cells.lookup x=some a))->Q () s') (hf:X.fn x=true\/X.env.scope.names.lookup x=some .local:=by first|exact .inl rfl|exact .inr rfl|assumption):wpAny M A (storeName X.env x u) Q E s:=by
 obtain⟨m,hn,hl⟩:=id I.loc;have hcls:(X.env.scope.kind == .class||(X.env.scope.kind == .module&&X.env.locals != X.env.globals))=false:=by rw [I.ok.kind];rfl
 have hiσ:i<σ.length:=by rw [I.len];exact(List.getElem?_eq_some_iff.mp hi).1
 have cne:=I.cne
 have tracked:∀{a:Addr}{h':Heap},(∃o,s.heap.get? a=some o/\H a=none)->Heap.SameBut a s.heap h'->HOk X.prog X.w H h':=λ{a h'} ha hs b ob e=>by
  obtain⟨_,_,hfree⟩:=ha;refine(I.hok b ob e).stay (λc w' hc q=>(hs.2 c ?_).trans q) (λ_ q=>q) λ_ _ q=>q
  rintro rfl
  rcases hc with rfl|hc
  · rw [hfree]at e;cases e
  · rw [hfree]at hc;cases hc
 rcases hx with hk|hk
 · refine wpAny_storeName_local hk hn (λh' hn' hs => ?_) hcls
   obtain⟨oL,_,_,hoL,_⟩:=id hn;refine h _ ⟨I.ok,I.os,I.bare,⟨λb o e n hb hx => ?_,λb o e n hb hx => ?_,I.base.free,λb o e hx => ?_,I.base.tups,I.base.frzs,I.base.tbls⟩,⟨_,hn',λj y v' e1 e2 e3 => ?_⟩,λy c e => ?_,I.free,I.freeC,λp hp => ?_,tracked ⟨oL,hoL,I.free⟩ hs,by simpa using I.len⟩ ⟨_,hs,.inl rfl⟩
   · exact(hs.2 b (Nat.ne_of_lt (Nat.lt_of_lt_of_le (Heap.lt_size e) I.ok.above))).trans (I.base.keep b o e n hb hx)
   · obtain⟨sl,e1⟩:=I.base.slot b o e n hb hx
     exact⟨sl,(hs.2 b (Nat.ne_of_lt (Nat.lt_of_lt_of_le (Heap.lt_size e) I.ok.above))).trans e1⟩
   · obtain⟨o',e1⟩:=I.base.there b o e hx
     exact⟨o',(hs.2 b (Nat.ne_of_lt (Nat.lt_of_lt_of_le (Heap.lt_size e) I.ok.above))).trans e1⟩
   · by_cases hj:j=i
     · subst hj
       rw [hi]at e1;cases e1;rw [List.getElem?_set_self hiσ]at e2;cases e2;exact⟨u,r,.inl ⟨hk,by simp⟩⟩
     · rw [List.getElem?_set_ne (Ne.symm hj)]at e2
       obtain⟨u',r',q⟩:=hl j y v' e1 e2 e3;refine⟨u',r',?_⟩;rcases q with⟨k,e⟩|⟨k,c,e,z⟩
       · refine .inl ⟨k,?_⟩
         have:y≠x:=λe=>hj (Zb2 hN e1 (e▸hi))
         simp [this,e]
       · exact .inr ⟨k,c,e,z.sameBut hs (cne y c e)⟩
   · obtain⟨w',z⟩:=I.cell y c e
     exact⟨w',z.sameBut hs (cne y c e)⟩
   · obtain⟨e,n,ne,nf,d⟩:=I.pin p hp
     exact⟨(hs.2 p.1 ne).trans e,n,ne,nf,d⟩
 · have hfn : X.fn x = true := by
    rcases hf with z|z
    · exact z
    · rw [z]at hk;cases hk
   obtain⟨c,hc⟩:=I.ok.has x (.inl hk);obtain⟨w',z⟩:=I.cell x c hc;refine wpAny_storeName_cell I.ok.kind hk hc z (λh' hc' hs => ?_);obtain⟨oc,hoc,hocd⟩:=id z;refine h { s with heap:=h' } ⟨I.ok,I.os,I.bare,⟨λb o e n hb hx => ?_,λb o e n hb hx => ?_,I.base.free,λb o e hx => ?_,I.base.tups,I.base.frzs,I.base.tbls⟩,⟨m,hn.sameBut hs (Ne.symm (cne x c hc)),λj y v' e1 e2 e3 => ?_⟩,λy c' e => ?_,I.free,I.freeC,λp hp => ?_,tracked ⟨oc,hoc,I.freeC x c hc⟩ hs,by simpa using I.len⟩ ⟨c,hs,.inr hc⟩
   · exact(hs.2 b (Nat.ne_of_lt (Nat.lt_of_lt_of_le (Heap.lt_size e) (I.ok.cab x c hfn hc)))).trans (I.base.keep b o e n hb hx)
   · obtain⟨sl,e1⟩:=I.base.slot b o e n hb hx
     exact⟨sl,(hs.2 b (Nat.ne_of_lt (Nat.lt_of_lt_of_le (Heap.lt_size e) (I.ok.cab x c hfn hc)))).trans e1⟩
   · obtain⟨o',e1⟩:=I.base.there b o e hx
     exact⟨o',(hs.2 b (Nat.ne_of_lt (Nat.lt_of_lt_of_le (Heap.lt_size e) (I.ok.cab x c hfn hc)))).trans e1⟩
   · by_cases hj:j=i
     · subst hj
       rw [hi]at e1;cases e1;rw [List.getElem?_set_self hiσ]at e2;cases e2;exact⟨u,r,.inr ⟨.inl hk,c,hc,hc'⟩⟩
     · rw [List.getElem?_set_ne (Ne.symm hj)]at e2
       obtain⟨u',r',q⟩:=hl j y v' e1 e2 e3;refine⟨u',r',?_⟩;rcases q with q|⟨k,c',e,z'⟩
       · exact .inl q
       · refine .inr ⟨k,c',e,z'.sameBut hs ?_⟩
         rintro rfl
         exact hj (Zb2 hN e1 (I.ok.inj _ _ _ e hc▸hi))
   · by_cases hcc:c'=c
     · subst hcc;exact⟨_,hc'⟩
     · obtain⟨w2,z2⟩:=I.cell y c' e
       exact⟨w2,z2.sameBut hs hcc⟩
   · obtain⟨e,n,ne,nf,d⟩:=I.pin p hp
     refine⟨(hs.2 p.1 ?_).trans e,n,ne,nf,d⟩;intro q;rw [q,hoc]at e;have q':oc=p.2:=Option.some.inj e;exact d w' (by rw [<-q'];exact hocd)
theorem Zb3 {M:Model} {A:Around} {E:Value->Shared->Prop} {i:Nat} {x:Str} {v:V} {u:Value} {Q:Unit->Shared->Prop} (I:Inv X pins σ H s) (hN:X.N.Nodup) (hi:X.N[i]? = some x) (hx:Loc X.env.scope x) (r:RelV v u)
 (h:∀s',Inv X pins (σ.set i (some v)) H s'->Q () s') (hf:X.fn x=true\/X.env.scope.names.lookup x=some .local:=by first|exact .inl rfl|exact .inr rfl|assumption):wpAny M A (storeName X.env x u) Q E s:=
 Za8 I hN hi hx r (λs' I' _=>h s' I') hf
theorem Inv.call' {s':Shared} {ch:List Addr} (I:Inv X pins σ H s) (ho:s'.os=s.os) (u:Un (frs X.stack) ch H H' s.heap s'.heap) (hok:HOk X.prog X.w H' s'.heap) (hg:AllBare s'.gens)
 (hch:∀b∈ch,(b∈X.ex\/X.s₀.heap.objs.size<=b)/\b≠X.env.locals/\(∀x c,X.env.cells.lookup x=some c->c≠b)/\∀p∈X.pn++pins,p.1≠b):Inv X pins σ H' s':=by
 obtain⟨h',g',d',t',o'⟩:=s';have e:o'=s.os:=ho;subst e;exact I.call (g':=g') (t':=t') (d':=d') u hok hg hch
end
abbrev XK:=Value->Option Addr->Hp->Prop
abbrev St:=List (Option V)
abbrev VK:=V->Hp->Prop
abbrev TE:=St->Hp->VK->Prop
abbrev TT:=St->Hp->(Bool->Hp->Prop)->Prop
abbrev TA:=St->Hp->(List V->Hp->Prop)->Prop
structure Ends where
 nx:St->Hp->Prop
 rt:VK
 bk:St->Hp->Prop:=λ_ _=>False
 ct:St->Hp->Prop:=λ_ _=>False
abbrev TS:=Ends->St->Hp->Prop
def EP(X:Cx)(pins:List (Addr×Obj))(σ:St)(Q:VK)(u:Value)(s':Shared):Prop:=∃v H',Inv X pins σ H' s'/\RelV v u/\Q v H'
def TP(X:Cx)(pins:List (Addr×Obj))(σ:St)(Q:Bool->Hp->Prop)(b:Bool)(s':Shared):Prop:=∃H',Inv X pins σ H' s'/\Q b H'
def AP(X:Cx)(pins:List (Addr×Obj))(σ:St)(Q:List V->Hp->Prop)(us:List Value)(s':Shared):Prop:=∃vs H',Inv X pins σ H' s'/\Vals vs us/\Q vs H'
def SP(X:Cx)(pins:List (Addr×Obj))(D:Ends)(f:Flow)(s':Shared):Prop:=
 match f with
 | .next=>∃σ' H',Inv X pins σ' H' s'/\D.nx σ' H'
 | .brk=>∃σ' H',Inv X pins σ' H' s'/\D.bk σ' H'
 | .cont=>∃σ' H',Inv X pins σ' H' s'/\D.ct σ' H'
 | .ret u=>∃v σ' H',Inv X pins σ' H' s'/\RelV v u/\D.rt v H'
def PE(X:Cx)(e:Expr)(t:TE):Prop:=
 ∀(pins:List (Addr×Obj))(s:Shared)(σ:St)(H:Hp)(Q:VK),Inv X pins σ H s->t σ H Q->wpAny (model X.prog X.w) X.A (eval e X.env) (EP X pins σ Q) X.xe s
def PT(X:Cx)(e:Expr)(t:TT):Prop:=
 ∀(pins:List (Addr×Obj))(s:Shared)(σ:St)(H:Hp)(Q:Bool->Hp->Prop),Inv X pins σ H s->t σ H Q->wpAny (model X.prog X.w) X.A (isTrue e X.env (eval e X.env)) (TP X pins σ Q) X.xe s
def PW(X:Cx)(e:Expr)(t:TT):Prop:=
 ∀(whole:Sem Value)(pins:List (Addr×Obj))(s:Shared)(σ:St)(H:Hp)(Q:Bool->Hp->Prop),Inv X pins σ H s->t σ H Q->wpAny (model X.prog X.w) X.A (isTrue e X.env whole) (TP X pins σ Q) X.xe s
theorem PW.pt{X:Cx}{e:Expr}{t:TT}(h:PW X e t):PT X e t:=h _
def PA(X:Cx)(es:List Expr)(t:TA):Prop:=
 ∀(pos:Pos)(pins:List (Addr×Obj))(s:Shared)(σ:St)(H:Hp)(Q:List V->Hp->Prop),Inv X pins σ H s->t σ H Q->wpAny (model X.prog X.w) X.A (spliced (backTo pos (starEach es X.env))) (AP X pins σ Q) X.xe s
def PS(X:Cx)(st:Stmt)(t:TS):Prop:=
 ∀(pins:List (Addr×Obj))(s:Shared)(σ:St)(H:Hp)(D:Ends),Inv X pins σ H s->t D σ H->wpAny (model X.prog X.w) X.A (exec st X.env) (SP X pins D) X.xe s
def PSs(X:Cx)(st:List Stmt)(t:TS):Prop:=
 ∀(pins:List (Addr×Obj))(s:Shared)(σ:St)(H:Hp)(D:Ends),Inv X pins σ H s->t D σ H->wpAny (model X.prog X.w) X.A (execs st X.env) (SP X pins D) X.xe s
theorem thn{α:Type}{t:Sem α}{Q Q':α->Shared->Prop}{M:Model}{A:Around}{E:Value->Shared->Prop}{s:Shared}(h:wpAny M A t Q E s)(hQ:∀a s,Q a s->Q' a s):wpAny M A t Q' E s:=wpAny_mono h hQ λ_ _ x=>x
end L2
namespace L2
open PySem PySem.Spec PyProof.Rows
section
variable{X:Cx}
def YZ(i:Nat):TE:=λσ H Q=>∃v,σ[i]? = some (some v)/\Q v H
def tC(v:V):TE:=λ_ H Q=>Q v H
theorem ZgH {i:Nat} {x:Str} {pos:Pos} (hN:X.N[i]? = some x) (hv:Vis X.env.scope x) (hd:(x == ("__debug__" : Str))=false:=by decide) (hcd:(x == ("__classdict__" : Str))=false:=by decide):PE X (.Name x pos) (YZ i):=by
 intro pins s σ H Q I h;obtain⟨v,e,h⟩:=h;obtain⟨m,hn,hl⟩:=I.loc;obtain⟨u,r,l⟩:=hl i x v hN e hv;have fin:EP X pins σ Q u s:=⟨v,H,I,r,h⟩
 rcases l with⟨hk,hm⟩|⟨hk,c,hc,hcell⟩
 · exact wpAny_Name (wpAny_loadName_local I.ok.kind hk hn hm fin) hd
 · rcases hk with hk|hk
   · exact wpAny_Name (wpAny_loadName_cell I.ok.kind hk hc hcell fin) hd
   · exact wpAny_Name (wpAny_loadName_free I.ok.kind hk hc hcell fin hcd) hd
theorem Zj{i j pos}:PE X (.Constant (.int i) j pos) (tC (.int i)):=λ_ _ _ H _ I h=>wpAny_Constant_int ⟨.int i,H,I.tok _,⟨_,rfl⟩,h⟩
theorem Uj{b j pos}:PE X (.Constant (.bool b) j pos) (tC (.bl b)):=λ_ _ _ H _ I h=>Constant_bool ⟨.bl b,H,I,rfl,h⟩
theorem X4{j pos}:PE X (.Constant .none j pos) (tC .non):=λ_ _ _ H _ I h=>Constant_none ⟨.non,H,I,rfl,h⟩
theorem ZgI{x j pos}:PE X (.Constant (.str x) j pos) (tC (.str x)):=λ_ _ _ H _ I h=>Calls.Constant_str ⟨.str x,H,I.tok _,⟨_,rfl⟩,h⟩
def Gl(X:Cx)(x:Str):Prop:=X.env.kindOf x=some .globalImplicit
theorem Jk {E:Value->Shared->Prop} {pins:List (Addr×Obj)} {s:Shared} {σ:St} {H:Hp} {x:Str} {u:Value} {pos:Pos} {Q:Value->Shared->Prop} (I:Inv X pins σ H s) (hg:Gl X x) (hm:X.mg x=some u) (h:Q u s)
 (hd:(x == ("__debug__" : Str))=false:=by decide):wpAny (model X.prog X.w) X.A (eval (.Name x pos) X.env) Q E s:=
 Calls.Name_function_global I.ok.kind hg (Calls.loadGlobal_global (by rw [I.ok.glob];exact I.mod.glob.keeps I.bk) hm h) hd
theorem Uk {E:Value->Shared->Prop} {pins:List (Addr×Obj)} {s:Shared} {σ:St} {H:Hp} {x:Str} {u:Value} {pos:Pos} {Q:Value->Shared->Prop} (I:Inv X pins σ H s) (hg:Gl X x) (hm:X.mg x=none) (hv:bootBuiltins x=some u) (h:Q u s)
 (hn:x ≠ "__name__" := by decide) (hd:(x == ("__debug__" : Str))=false:=by decide):wpAny (model X.prog X.w) X.A (eval (.Name x pos) X.env) Q E s:=by
 obtain⟨mb,h1,h2⟩:=I.mod.blt;exact Calls.Name_function_global I.ok.kind hg (Calls.loadGlobal_builtin (by rw [I.ok.glob];exact I.mod.glob.keeps I.bk) hm (by rw [I.ok.blt];exact h1.keeps I.bk) ((h2 x hn).trans hv) h) hd
theorem ZcX {x:Str} {v:V} {u:Value} {pos:Pos} (hg:Gl X x) (hm:X.mg x=some u) (r:RelV v u) (hd:(x == ("__debug__" : Str))=false:=by decide):PE X (.Name x pos) (tC v):=
 λ_ _ _ H _ I h=>Jk I hg hm ⟨v,H,I,r,h⟩ hd
theorem Qq {x:Str} {v:V} {u:Value} {pos:Pos} (hg:Gl X x) (hm:X.mg x=none) (hv:bootBuiltins x=some u) (r:RelV v u) (hn:x ≠ "__name__" := by decide) (hd:(x == ("__debug__" : Str))=false:=by decide):PE X (.Name x pos) (tC v):=
 λ_ _ _ H _ I h=>Uk I hg hm hv ⟨v,H,I,r,h⟩ hn hd
variable{a b:Expr}{ta tb:TE}{pos:Pos}
def PC(X:Cx)(op:CmpOp)(a b:Expr)(t:TE):Prop:=
 ∀(pins:List (Addr×Obj))(s:Shared)(σ:St)(H:Hp)(Q:VK),Inv X pins σ H s->t σ H Q ->
  wpAny (model X.prog X.w) X.A (eval a X.env) (λv s₁=>wpAny (model X.prog X.w) X.A (eval b X.env) (λu s₂=>wpAny (model X.prog X.w) X.A (compareOp op v u) (EP X pins σ Q) X.xe s₂) X.xe s₁) X.xe s
theorem Zb4(b:Expr){op:CmpOp}(h:op ≠ .In)(h2:op ≠ .NotIn):behindInMarks op b=false:=by
 have e1:(op == CmpOp.In)=false:=by cases op<;>first|rfl|exact absurd rfl h
 have e2:(op == CmpOp.NotIn)=false:=by cases op<;>first|rfl|exact absurd rfl h2
 cases b<;>simp [behindInMarks,e1,e2]
def Zj0(ta:TE):TE:=λσ H Q=>ta σ H λx H1=>Q (.bl (decide (x = .non))) H1
def Zf8(ta:TE):TE:=λσ H Q=>ta σ H λx H1=>Q (.bl (!decide (x = .non))) H1
theorem RelV.none_iff{x:V}{v:Value}(r:RelV x v):(v == Value.none)=decide (x = .non):=by
 cases x with
 |non=>cases r;rfl
 |bl _=>cases r;rfl
 |int _=>obtain⟨t,rfl⟩:=r;rfl
 |str _=>obtain⟨t,rfl⟩:=r;rfl
 |byt _=>obtain⟨t,rfl⟩:=r;rfl
 |flt _=>obtain⟨t,rfl⟩:=r;rfl
 |ref _=>cases r;rfl
 |ty _=>cases r;rfl
theorem Vu{j pos'}(ha:PE X a ta):PC X .Is a (.Constant .none j pos') (Zj0 ta):=by
 intro pins s σ H Q I h;refine thn (ha pins s σ H _ I h) λv s1 ⟨x,H1,I1,r1,q1⟩ => ?_
 exact Constant_none (is_none_gen ⟨.bl _,H1,I1,by rw [r1.none_iff];rfl,q1⟩)
theorem Jl{j pos'}(ha:PE X a ta):PC X .IsNot a (.Constant .none j pos') (Zf8 ta):=by
 intro pins s σ H Q I h;refine thn (ha pins s σ H _ I h) λv s1 ⟨x,H1,I1,r1,q1⟩ => ?_
 exact Constant_none (isnot_none_gen ⟨.bl _,H1,I1,by rw [r1.none_iff];rfl,q1⟩)
def tB(t:TE):TT:=λσ H Q=>t σ H λx H1=>∃c,x = .bl c/\Q c H1
theorem Qr{op:CmpOp}{t:TE}(h:PC X op a b t)(h1:behindInMarks op b=false:=by first|exact Zb4 _ (by decide) (by decide)|rfl):PE X (.Compare a [op] [b] pos) t:=λpins s σ H Q I hw=>wpAny_Compare1 (h pins s σ H Q I hw) h1
theorem VV{op:CmpOp}{t:TE}(h:PC X op a b t)(h1:behindInMarks op b=false:=by first|exact Zb4 _ (by decide) (by decide)|rfl):PT X (.Compare a [op] [b] pos) (tB t):=by
 intro pins s σ H Q I hw;refine wpAny_isTrue_Compare1 (thn (h pins s σ H _ I hw) λv s1 h1=>thn h1 λu s2 h2=>thn h2 λc s3 ⟨x,H1,I1,r1,q1⟩ => ?_) h1;obtain⟨d,rfl,q⟩:=q1;cases r1;exact wpAny_truthy_bool ⟨H1,I1,q⟩
theorem XS{e:Expr}{t:TE}(h:PE X e t)(he:∀whole,isTrue e X.env whole=(do let v <-whole;standAt e.pos;holding [v] (truthy v)):=by intro _;rfl):PT X e (tB t):=by
 intro pins s σ H Q I hw;refine isTrue_plain (thn (h pins s σ H _ I hw) λv s1 ⟨x,H1,I1,r1,q1⟩ => ?_) (he _);obtain⟨d,rfl,q⟩:=q1;cases r1;exact wpAny_truthy_bool ⟨H1,I1,q⟩
variable{tA tB':TT}{rest:List Expr}
def Zj1(t u:TT):TT:=λσ H Q=>t σ H λc H1=>if c=true then u σ H1 Q else Q false H1
def tOr(t u:TT):TT:=λσ H Q=>t σ H λc H1=>if c=true then Q true H1 else u σ H1 Q
def Zig(t:TT):TT:=λσ H Q=>t σ H λc H1=>Q (!c) H1
theorem Jm(ha:PT X a tA):PW X (.BoolOp .And [a] pos) tA:=by
 intro wh pins s σ H Q I h;refine isTrue_and (thn (ha pins s σ H Q I h) λc s1 e => ?_);cases c with
 |true=>exact isTrue_and_nil e
 |false=>exact e
theorem UF(ha:PT X a tA):PW X (.BoolOp .Or [a] pos) tA:=by
 intro wh pins s σ H Q I h;refine isTrue_or (thn (ha pins s σ H Q I h) λc s1 e => ?_);cases c with
 |false=>exact isTrue_or_nil e
 |true=>exact e
theorem Jn(ha:PT X a tA)(hb:PW X (.BoolOp .And (b::rest) pos) tB'):PW X (.BoolOp .And (a::b::rest) pos) (Zj1 tA tB'):=by
 intro wh pins s σ H Q I h;refine isTrue_and (thn (ha pins s σ H _ I h) λc s1 ⟨H1,I1,q1⟩ => ?_);cases c with
 |true=>exact hb wh pins s1 σ H1 Q I1 q1
 |false=>exact⟨H1,I1,q1⟩
theorem UG(ha:PT X a tA)(hb:PW X (.BoolOp .Or (b::rest) pos) tB'):PW X (.BoolOp .Or (a::b::rest) pos) (tOr tA tB'):=by
 intro wh pins s σ H Q I h;refine isTrue_or (thn (ha pins s σ H _ I h) λc s1 ⟨H1,I1,q1⟩ => ?_);cases c with
 |true=>exact⟨H1,I1,q1⟩
 |false=>exact hb wh pins s1 σ H1 Q I1 q1
theorem Vb(ha:PT X a tA):PT X (.UnaryOp .Not a pos) (Zig tA):=by
 intro pins s σ H Q I h;exact isTrue_not (ha pins s σ H (λc H1=>Q (!c) H1) I h)
def Zff(ta tb:TE):TE:=λσ H Q=>ta σ H λx H1=>∃c,x = .bl c/\if c=true then tb σ H1 Q else Q (.bl false) H1
def Zj2(ta tb:TE):TE:=λσ H Q=>ta σ H λx H1=>∃c,x = .bl c/\if c=true then Q (.bl true) H1 else tb σ H1 Q
def Zf9(ta:TE):TE:=λσ H Q=>ta σ H λx H1=>∃c,x = .bl c/\Q (.bl (!c)) H1
theorem Ul{op}{t:TE}(h:PE X a t):PE X (.BoolOp op [a] pos) t:=λpins s σ H Q I hw=>BoolOp_one (h pins s σ H Q I hw)
theorem Qs(ha:PE X a ta)(hb:PE X (.BoolOp .And (b::rest) pos) tb):PE X (.BoolOp .And (a::b::rest) pos) (Zff ta tb):=by
 intro pins s σ H Q I h;refine BoolOp_and (thn (ha pins s σ H _ I h) λv s1 ⟨x,H1,I1,r1,q1⟩ => ?_);obtain⟨c,rfl,q1⟩:=q1;cases r1;refine wpAny_truthy_bool ?_;cases c with
 |true=>exact hb pins s1 σ H1 Q I1 q1
 |false=>exact⟨.bl false,H1,I1,rfl,q1⟩
theorem Zga(ha:PE X a ta)(hb:PE X (.BoolOp .Or (b::rest) pos) tb):PE X (.BoolOp .Or (a::b::rest) pos) (Zj2 ta tb):=by
 intro pins s σ H Q I h;refine BoolOp_or (thn (ha pins s σ H _ I h) λv s1 ⟨x,H1,I1,r1,q1⟩ => ?_);obtain⟨c,rfl,q1⟩:=q1;cases r1;refine wpAny_truthy_bool ?_;cases c with
 |false=>exact hb pins s1 σ H1 Q I1 q1
 |true=>exact⟨.bl true,H1,I1,rfl,q1⟩
theorem ZgJ(ha:PE X a ta):PE X (.UnaryOp .Not a pos) (Zf9 ta):=by
 intro pins s σ H Q I h;refine UnaryOp_ (thn (ha pins s σ H _ I h) λv s1 ⟨x,H1,I1,r1,q1⟩ => ?_);obtain⟨c,rfl,q1⟩:=q1;cases r1;exact not_of (wpAny_truthy_bool ⟨.bl (!c),H1,I1,rfl,q1⟩)
def tIf(t:TT)(ta tb:TE):TE:=λσ H Q=>t σ H λc H1=>if c=true then ta σ H1 Q else tb σ H1 Q
theorem Qt{c:Expr}(hc:PT X c tA)(ha:PE X a ta)(hb:PE X b tb):PE X (.IfExp c a b pos) (tIf tA ta tb):=by
 intro pins s σ H Q I h;refine wpAny_IfExp (thn (hc pins s σ H _ I h) λd s1 ⟨H1,I1,q1⟩ => ?_);cases d with
 |true=>exact ha pins s1 σ H1 Q I1 q1
 |false=>exact hb pins s1 σ H1 Q I1 q1
end
end L2
namespace L2
open PySem PySem.Spec PyProof.Rows
def SqL(K:PySem.W.Frag)(H:Hp)(a:Addr)(xs:List V):Prop:=
 Rd H a (.lst xs) \/
  ∃(o:Obj) (its:Array Value) (n:Nat),K.lookup a=some o/\o.cls = .type "list" /\ o.dict=none/\o.data = .seq its n/\its.size<=sizeLine/\Vals xs its.toList
def SqT(K:PySem.W.Frag)(H:Hp)(a:Addr)(xs:List V):Prop:=
 Rd H a (.tup xs) \/
  ∃(o:Obj) (its:Array Value) (n:Nat),K.lookup a=some o/\o.cls = .type "tuple" /\ o.data = .seq its n/\its.size<=sizeLine/\Vals xs its.toList
def Zkh:Value->Option V
 | .none=>some .non
 | .bool b=>some (.bl b)
 | .int i _=>some (.int i)
 | .str x _=>some (.str x)
 | .bytes b _=>some (.byt b)
 | .float b _=>some (.flt b)
 | .ref a=>some (.ref a)
 | .type n=>some (.ty n)
 |_=>none
theorem RelV.abs{x:V}{u:Value}(r:RelV x u):Zkh u=some x:=by
 cases x with
 |non=>cases r;rfl
 |bl _=>cases r;rfl
 |int _=>obtain⟨t,rfl⟩:=r;rfl
 |str _=>obtain⟨t,rfl⟩:=r;rfl
 |byt _=>obtain⟨t,rfl⟩:=r;rfl
 |flt _=>obtain⟨t,rfl⟩:=r;rfl
 |ref _=>cases r;rfl
 |ty _=>cases r;rfl
theorem RelV.inj{x y:V}{u:Value}(r:RelV x u)(q:RelV y u):x=y:=Option.some.inj (r.abs.symm.trans q.abs)
theorem Vals.inj:∀{xs ys:List V}{us:List Value},Vals xs us->Vals ys us->xs=ys
 |_,_,_,.nil,.nil=>rfl
 |_,_,_,.cons r t,.cons r' t'=>by rw [r.inj r',Vals.inj t t']
section
variable{X:Cx}{pins:List (Addr×Obj)}{σ:St}{H:Hp}{s:Shared}{a:Addr}{xs ys:List V}
theorem SqL.of{K:PySem.W.Frag}(h:H a=some (.lst xs)):SqL K H a xs := .inl (.inl h)
theorem SqT.of{K:PySem.W.Frag}(h:H a=some (.tup xs)):SqT K H a xs := .inl (.inl h)
theorem Inv.list(I:Inv X pins σ H s)(h:SqL X.K H a xs):∃its:List Value,Vals xs its/\PlainL s.heap a its.toArray/\xs.length<=sizeLine:=by
 rcases h with h|⟨o,its,n,hk,hc,hd,hs,hz,r⟩
 · obtain⟨z,its,n,r,e⟩:=h.ok I.hok
   exact⟨its,r,⟨_,n,e,rfl,rfl,rfl⟩,z⟩
 · refine⟨its.toList,r,⟨o,n,I.kIn a o hk,hc,hd,by simpa using hs⟩,?_⟩
   have e:=r.length;simp only [Array.length_toList]at e;omega
theorem Inv.tuple(I:Inv X pins σ H s)(h:SqT X.K H a xs):∃its:List Value,Vals xs its/\IsTup s.heap a its.toArray/\xs.length<=sizeLine:=by
 rcases h with h|⟨o,its,n,hk,hc,hs,hz,r⟩
 · obtain⟨z,its,r,p⟩:=h.ok I.hok
   exact⟨its,r,p.tup,z⟩
 · refine⟨its.toList,r,⟨o,I.kIn a o hk,hc,n,by simpa using hs⟩,?_⟩
   have e:=r.length;simp only [Array.length_toList]at e;omega
theorem Inv.list_inj(I:Inv X pins σ H s)(h:SqL X.K H a xs)(h':SqL X.K H a ys):xs=ys:=by
 obtain⟨its,r,⟨o,n,e,_,_,d⟩,_⟩:=I.list h;obtain⟨its',r',⟨o',n',e',_,_,d'⟩,_⟩:=I.list h';rw [e]at e';cases e';rw [d]at d';injection d' with d1 _
 have:its=its':=by simpa using congrArg Array.toList d1
 subst this;exact r.inj r'
theorem Inv.tuple_inj(I:Inv X pins σ H s)(h:SqT X.K H a xs)(h':SqT X.K H a ys):xs=ys:=by
 obtain⟨its,r,⟨o,e,_,n,d⟩,_⟩:=I.tuple h;obtain⟨its',r',⟨o',e',_,n',d'⟩,_⟩:=I.tuple h';rw [e]at e';cases e';rw [d]at d';injection d' with d1 _
 have:its=its':=by simpa using congrArg Array.toList d1
 subst this;exact r.inj r'
end
abbrev Cx.wish(X:Cx)(E:Value->Shared->Prop):Cx:={ X with xe:=E }
abbrev Cx.nox(X:Cx):Cx:=X.wish λ_ _=>False
theorem Cx.Ok.wish{X:Cx}(ok:X.Ok)(E:Value->Shared->Prop):(X.wish E).Ok:=
 ⟨ok.mod,ok.kind,ok.glob,ok.blt,ok.above,ok.inj,ok.has,ok.cab,ok.hd,ok.frames,ok.stk,ok.exf,ok.bs,ok.bsz,ok.noex,ok.exfs,ok.funs,ok.frf⟩
theorem Cx.Ok.unwish{X:Cx}{E:Value->Shared->Prop}(ok:(X.wish E).Ok):X.Ok:=
 ⟨ok.mod,ok.kind,ok.glob,ok.blt,ok.above,ok.inj,ok.has,ok.cab,ok.hd,ok.frames,ok.stk,ok.exf,ok.bs,ok.bsz,ok.noex,ok.exfs,ok.funs,ok.frf⟩
section
variable{X:Cx}{pins:List (Addr×Obj)}{σ:St}{H:Hp}{s:Shared}{E:Value->Shared->Prop}
theorem Inv.wish(I:Inv X pins σ H s)(E:Value->Shared->Prop):Inv (X.wish E) pins σ H s:=⟨I.ok.wish E,I.os,I.bare,I.base,I.loc,I.cell,I.free,I.freeC,I.pin,I.hok,I.len⟩
theorem Inv.unwish(I:Inv (X.wish E) pins σ H s):Inv X pins σ H s:=⟨I.ok.unwish,I.os,I.bare,I.base,I.loc,I.cell,I.free,I.freeC,I.pin,I.hok,I.len⟩
theorem SP.unwish{D:Ends}{f:Flow}{s':Shared}(h:SP (X.wish E) pins D f s'):SP X pins D f s':=by
 cases f with
 |next=>obtain⟨σ',H',I,q⟩:=h;exact⟨σ',H',I.unwish,q⟩
 |brk=>obtain⟨σ',H',I,q⟩:=h;exact⟨σ',H',I.unwish,q⟩
 |cont=>obtain⟨σ',H',I,q⟩:=h;exact⟨σ',H',I.unwish,q⟩
 |ret u=>obtain⟨v,σ',H',I,r,q⟩:=h;exact⟨v,σ',H',I.unwish,r,q⟩
theorem PSs.nox{st:List Stmt}{t:TS}(h:PSs X.nox st t):PSs X st t:=λpins s σ H D I hw=>
 wpAny_mono (h pins s σ H D (I.wish _) hw) (λ_ _ q=>q.unwish) λ_ _ z=>False.elim z
end
section
variable{X:Cx}{st:Stmt}{rest:List Stmt}{t u:TS}{e:Expr}{te:TE}{pos:Pos}
def tNext:TS:=λD σ H=>D.nx σ H
def Vc(t u:TS):TS:=λD σ H=>t { D with nx:=u D } σ H
theorem Yi:PSs X [] tNext:=λ_ _ σ H _ I h=>wpAny_execs_nil ⟨σ,H,I,h⟩
theorem Zo(h1:PS X st t)(h2:PSs X rest u):PSs X (st::rest) (Vc t u):=by
 intro pins s σ H D I h;refine wpAny_execs_cons (thn (h1 pins s σ H { D with nx:=u D } I h) λf s1 q => ?_);cases f with
 |next=>
  obtain⟨σ',H',I',q⟩:=q;exact h2 pins s1 σ' H' D I' q
 |ret v=>exact q
 |brk=>exact q
 |cont=>exact q
theorem Zw(h1:PS X st t):PSs X [st] t:=by
 intro pins s σ H D I h;refine wpAny_execs_cons (thn (h1 pins s σ H D I h) λf s1 q => ?_);cases f with
 |next=>exact wpAny_execs_nil q
 |ret v=>exact q
 |brk=>exact q
 |cont=>exact q
def tBreak:TS:=λD σ H=>D.bk σ H
theorem ZaU:PS X (.Break pos) tBreak:=λ_ _ σ H _ I h=>wpAny_Break ⟨σ,H,I,h⟩
theorem Inv.quiet{pins:List (Addr×Obj)}{σ:St}{H:Hp}{s:Shared}(I:Inv X pins σ H s):interactive X.env=false:=by simp [interactive,I.ok.kind]
def UH(te:TE):TS:=λD σ H=>te σ H λ_ H1=>D.nx σ H1
theorem YE(he:PE X e te)(hs:swapsWith e none pos.line X.env=pure false:=by rfl):PS X (.Expr e pos) (UH te):=by
 intro pins s σ H D I h;exact wpAny_Expr_any (thn (he pins s σ H _ I h) λv s1 ⟨x,H1,I1,r1,q1⟩=>⟨σ,H1,I1,q1⟩) I.quiet hs
def Jo(te:TE):TS:=λD σ H=>te σ H D.rt
theorem ZT(he:PE X e te):PS X (.Return (some e) pos) (Jo te):=by
 intro pins s σ H D I h;exact wpAny_Return_some (thn (he pins s σ H _ I h) λv s1 ⟨x,H1,I1,r1,q1⟩=>⟨x,σ,H1,I1,r1,q1⟩)
def Zih(c:TT)(t u:TS):TS:=λD σ H=>c σ H λb H1=>if b=true then t D σ H1 else u D σ H1
theorem Yj{c:Expr}{a b:List Stmt}{tc:TT}(hc:PT X c tc)(ha:PSs X a t)(hb:PSs X b u):PS X (.If c a b pos) (Zih tc t u):=by
 intro pins s σ H D I h;refine wpAny_If (thn (hc pins s σ H _ I h) λd s1 ⟨H1,I1,q1⟩ => ?_);cases d with
 |true=>exact ha pins s1 σ H1 D I1 q1
 |false=>exact hb pins s1 σ H1 D I1 q1
def tNever:TS:=λ_ _ _=>False
theorem Jp:PS X st tNever:=λ_ _ _ _ _ _ h=>h.elim
end
abbrev TG:=V->St->Hp->(St->Hp->Prop)->Prop
abbrev TGs:=List V->St->Hp->(St->Hp->Prop)->Prop
def PG(X:Cx)(target:Expr)(t:TG):Prop:=
 ∀(pins:List (Addr×Obj))(s:Shared)(σ:St)(H:Hp)(v:V)(u:Value)(Q:St->Hp->Prop),Inv X pins σ H s->RelV v u->t v σ H Q ->
  wpAny (model X.prog X.w) X.A (assign target X.env u) (λ_ s'=>∃σ' H',Inv X pins σ' H' s'/\Q σ' H') X.xe s
def PGs(X:Cx)(ts:List Expr)(t:TGs):Prop:=
 ∀(pins:List (Addr×Obj))(s:Shared)(σ:St)(H:Hp)(vs:List V)(us:List Value)(Q:St->Hp->Prop),Inv X pins σ H s->Vals vs us->t vs σ H Q ->
  wpAny (model X.prog X.w) X.A (assignInOrder ((assignEach ts X.env).map (·.2)) us) (λ_ s'=>∃σ' H',Inv X pins σ' H' s'/\Q σ' H') X.xe s
section
variable{X:Cx}{pos:Pos}
def Vd(i:Nat):TG:=λv σ H Q=>Q (σ.set i (some v)) H
theorem YH{i:Nat}{x:Str}(hN:X.N.Nodup)(hi:X.N[i]? = some x:=by rfl)(hx:Loc X.env.scope x:=by first|exact Or.inl rfl|exact Or.inr rfl)(hf:X.fn x=true\/X.env.scope.names.lookup x=some .local:=by first|exact .inl rfl|exact .inr rfl|assumption):PG X (.Name x pos) (Vd i):=by
 intro pins s σ H v u Q I r h;exact wpAny_assign_Name (Zb3 I hN hi hx r (λs' I'=>⟨_,H,I',h⟩) hf)
def gNil:TGs:=λvs σ H Q=>vs=[]/\Q σ H
def Zgb(t:TG)(u:TGs):TGs:=λvs σ H Q=>∃v r,vs=v::r/\t v σ H λσ' H'=>u r σ' H' Q
theorem ZbB:PGs X [] gNil:=by
 intro pins s σ H vs us Q I r h;obtain⟨e,h⟩:=h;subst e;cases r;exact assignInOrder_nil ⟨σ,H,I,h⟩
theorem UI {e:Expr} {es:List Expr} {t:TG} {u:TGs} (h1:PG X e t) (h2:PGs X es u)
 (hs:(assignEach (e::es) X.env).map (·.2)=assign e X.env::(assignEach es X.env).map (·.2):=by rfl):PGs X (e::es) (Zgb t u):=by
 intro pins s σ H vs us Q I r h;obtain⟨v,vr,e1,h⟩:=h;subst e1;cases r with
 |cons r rr=>
  rw [hs];refine assignInOrder_cons (thn (h1 pins s σ H _ _ _ I r h) λ_ s1 ⟨σ1,H1,I1,q1⟩ => ?_);exact h2 pins s1 σ1 H1 _ _ Q I1 rr q1
def Zii(K:PySem.W.Frag)(n:Nat)(t:TGs):TG:=λv σ H Q=>∃a xs,v = .ref a/\SqT K H a xs/\xs.length=n/\t xs σ H Q
theorem ZgK {es:List Expr} {k:Nat} {t:TGs} {n:Nat} (hc:X.calm=true) (h:PGs X es t)
 (hn:(assignEach es X.env).length=n:=by rfl) (hst:(assignEach es X.env).findIdx? (·.1)=none:=by rfl):PG X (.Tuple es k pos) (Zii X.K n t):=by
 intro pins s σ H v u Q I r hw;obtain⟨a,xs,e1,hq,hl,hw⟩:=hw;subst e1;cases r;obtain⟨its,rv,ht,hz⟩:=I.tuple hq;refine assign_Tuple_tuple (I.ok.hd hc) ht (by simp [hn,<-hl,rv.length]) hst λh' hx => ?_
 have I1:Inv X pins σ H { s with heap:=h' }:=I.kept (t':=s.toks) λb o e=>hx b o (Nat.ne_of_lt (Heap.lt_size e)) e
 exact h pins _ σ H xs _ Q I1 (by simpa using rv) hw
def Um(te:TE)(g:TG):TS:=λD σ H=>te σ H λx H1=>g x σ H1 D.nx
theorem Yh{i:Nat}{x:Str}{e:Expr}{te:TE}{pos':Pos}(hN:X.N.Nodup)(hi:X.N[i]? = some x)(hx:Loc X.env.scope x)(he:PE X e te)(hs:swapsWith e (some (.Name x pos')) pos.line X.env=pure false:=by rfl)(hf:X.fn x=true\/X.env.scope.names.lookup x=some .local:=by first|exact .inl rfl|exact .inr rfl|assumption) :
 PS X (.Assign [.Name x pos'] e pos) (Um te (Vd i)):=by
 intro pins s σ H D I h;refine wpAny_Assign_Name (thn (he pins s σ H _ I h) λv s1 ⟨y,H1,I1,r1,q1⟩ => ?_) hs;exact Zb3 I1 hN hi hx r1 (λs2 I2=>⟨_,H1,I2,q1⟩) hf
end
section
variable{X:Cx}{pos:Pos}
def ZeR(c:TT)(tb:TS):TS:=λD σ H=>∃W:Nat->St->Hp->Prop,(∃m,W m σ H)/\∀m σ H,W m σ H ->
 c σ H λb H1=>if b=true then ∃N:St->Hp->Prop,(∀σ' H',N σ' H'->∃m',m'<m/\W m' σ' H')/\tb { D with nx:=N,ct:=N,bk:=D.nx } σ H1 else D.nx σ H1
theorem ZdZ{c:Expr}{body:List Stmt}{tc:TT}{tb:TS}(hp:PassesOwn (model X.prog X.w) X.A X.env X.xe)(hc:PT X c tc)(hb:PSs X body tb):PS X (.While c body [] pos) (ZeR tc tb):=by
 intro pins s σ H D I h;obtain⟨W,⟨m0,w0⟩,turn⟩:=h;refine wpAny_While (codeAny_whileLoop (λn s'=>∃σ' H',Inv X pins σ' H' s'/\W n σ' H') ?_ m0 ⟨σ,H,I,w0⟩)
 rintro n s1 ⟨σ1,H1,I1,w1⟩
 refine wpAny_passesOwn hp (thn (hc pins s1 σ1 H1 _ I1 (turn n σ1 H1 w1)) λb s2 ⟨H2,I2,q2⟩ => ?_);cases b with
 |true=>
  obtain⟨N,hN,q2⟩:=q2;rw [if_pos rfl];refine wpAny_passesOwn hp (thn (hb pins s2 σ1 H2 _ I2 q2) λf s3 q3 => ?_);cases f with
  |next=>
   obtain⟨σ3,H3,I3,n3⟩:=q3;obtain⟨m',hm,w3⟩:=hN σ3 H3 n3;exact⟨m',hm,σ3,H3,I3,w3⟩
  |cont=>
   obtain⟨σ3,H3,I3,n3⟩:=q3;obtain⟨m',hm,w3⟩:=hN σ3 H3 n3;exact⟨m',hm,σ3,H3,I3,w3⟩
  |brk=>exact q3
  |ret v=>exact q3
 |false=>
  rw [if_neg Bool.false_ne_true];exact wpAny_execs_nil ⟨σ1,H2,I2,q2⟩
end
structure It where
 go:Nat->Hp->Prop
 yld:Nat->Hp->V->Hp->Prop
 stop:Nat->Hp->Prop
def Xm(X:Cx)(pins:List (Addr×Obj))(H:Hp)(b:Addr):Prop:=
 H b=none/\b≠X.env.locals/\b∉X.fs/\(b∈X.ex\/X.s₀.heap.objs.size<=b)/\(∀x c,X.env.cells.lookup x=some c->c≠b)/\∀p∈X.pn++pins,p.1≠b
theorem Inv.fpOk{X:Cx}{pins:List (Addr×Obj)}{σ:St}{H H':Hp}{s:Shared}{b:Addr}(I:Inv X pins σ H s)(hb:s.heap.objs.size<=b)(hn:H' b=none):Xm X pins H' b:=by
 refine⟨hn,Nat.ne_of_gt (Nat.lt_of_lt_of_le I.lt hb),I.nofs hb,.inr (Nat.le_trans I.sz hb),λx c e z => ?_,λp hp z => ?_⟩
 · obtain⟨v,q⟩:=I.cell x c e
   exact absurd (Nat.lt_of_lt_of_le q.lt (by rw [z];exact hb)) (Nat.lt_irrefl _)
 · exact absurd (Nat.lt_of_lt_of_le (Heap.lt_size (I.pin p hp).1) (by rw [z];exact hb)) (Nat.lt_irrefl _)
structure Turn(P:Program)(w:World)(K:PySem.W.Frag)(tg:Expr)(J:It)(fp:List Addr)(it:Addr)(tn:Nat->Heap->Prop):Prop where
 mem:it∈fp
 obj:∀i h,tn i h->∀b∈fp,∃o,h.get? b=some o/\∀v,o.data ≠ .cell v
 keep:∀i h h',tn i h->(∀b∈fp,∀o,h.get? b=some o->h'.get? b=some o)->tn i h'
 item:∀(X:Cx),X.prog=P->X.w=w->X.K=K->X.calm=true->∀(i:Nat)(pins:List (Addr×Obj))(s:Shared)(σ:St)(H:Hp)(E:Value->Shared->Prop),Inv X pins σ H s->(∀b∈fp,Xm X pins H b)->tn i s.heap->J.go i H ->
  wpAny (model P w) X.A (pyNext (.ref it)) (λr s1=>∃u,r=some u /\
   wpAny (model P w) X.A (letOwnedTupleGo tg (.ref it) u) (λ_ s2=>∃x H',Inv X pins σ H' s2/\RelV x u/\J.yld i H x H'/\tn (i+1) s2.heap/\∀b∈fp,H' b=none) E s1) E s
 done:∀(X:Cx),X.prog=P->X.w=w->X.K=K->X.calm=true->∀(i:Nat)(pins:List (Addr×Obj))(s:Shared)(σ:St)(H:Hp)(E:Value->Shared->Prop),Inv X pins σ H s->(∀b∈fp,Xm X pins H b)->tn i s.heap->J.stop i H ->
  wpAny (model P w) X.A (pyNext (.ref it)) (λr s1=>r=none/\Inv X pins σ H s1) E s
 self:∀(A:Around)(i:Nat)(s:Shared)(Q:Value->Shared->Prop)(E:Value->Shared->Prop),tn i s.heap->Q (.ref it) s->wpAny (model P w) A (pyIter (.ref it)) Q E s
abbrev TI:=St->Hp->(It->Hp->Prop)->Prop
def PIE(X:Cx)(pins:List (Addr×Obj))(σ:St)(tg:Expr)(R:It->Hp->Prop)(itv:Value)(s2:Shared):Prop:=
 ∃(it:Addr) (fp:List Addr) (tn:Nat->Heap->Prop) (J:It) (H':Hp),itv = .ref it/\Inv X pins σ H' s2/\Turn X.prog X.w X.K tg J fp it tn/\tn 0 s2.heap/\(∀b∈fp,Xm X pins H' b)/\R J H'
def PI(X:Cx)(tg iter:Expr)(wi:TI):Prop:=
 ∀(pins:List (Addr×Obj))(s:Shared)(σ:St)(H:Hp)(R:It->Hp->Prop),Inv X pins σ H s->wi σ H R ->
  wpAny (model X.prog X.w) X.A (eval iter X.env) (λv s1=>wpAny (model X.prog X.w) X.A (pyIter v) (PIE X pins σ tg R) X.xe s1) X.xe s
theorem Jq {M:Model} {A:Around} {E:Value->Shared->Prop} {s:Shared} {tg:Expr} {it:Addr} {u:Value} {o:Obj} {n:String} {vs:Array Value} {Q:Unit->Shared->Prop} (ho:s.heap.get? it=some o) (hc:o.cls = .type n) (hd:o.data = .fields vs)
 (hn:["enumerate", "zip", "dict_itemiterator", "dict_reverseitemiterator", "odict_iterator", "itertools.zip_longest", "itertools.pairwise"].contains n=false) (hQ:Q () s):wpAny M A (letOwnedTupleGo tg (.ref it) u) Q E s:=by
 unfold letOwnedTupleGo
 cases tg<;>first
  |exact wpAny_pure hQ
  | (cases u <;> first
      |exact wpAny_pure hQ
      | (refine wpAny_bind (wpAny_load ho ?_)
         rw [hc,hd];show wpAny M A (if(["enumerate", "zip", "dict_itemiterator", "dict_reverseitemiterator", "odict_iterator", "itertools.zip_longest", "itertools.pairwise"].contains n&&vs[0]? == some (rawInt _))=true then _ else _) Q E s;rw [if_neg (by intro h;rw [hn,Bool.false_and]at h;cases h)];exact wpAny_pure hQ))
def Itl(K:PySem.W.Frag)(a:Addr):It:=
 ⟨λi H=>∃xs x,SqL K H a xs/\xs[i]? = some x,λi H x H'=>H'=H/\∀xs,SqL K H a xs->xs[i]? = some x,λi H=>∃xs,SqL K H a xs/\xs.length<=i⟩
def Itt(K:PySem.W.Frag)(a:Addr):It:=
 ⟨λi H=>∃xs x,SqT K H a xs/\xs[i]? = some x,λi H x H'=>H'=H/\∀xs,SqT K H a xs->xs[i]? = some x,λi H=>∃xs,SqT K H a xs/\xs.length<=i⟩
def Itr(lo:Int)(n:Nat):It:=⟨λi _=>i<n,λi H x H'=>H'=H/\x = .int (lo+i),λi _=>n<=i⟩
theorem Zdm{P:Program}{w:World}{K:PySem.W.Frag}{tg:Expr}(a it:Addr):Turn P w K tg (Itl K a) [it] it (λi h=>h.IsListIter it a i) where
 mem:=by simp
 obj:=λi h st b hb=>by
  have e:b=it:=by simpa using hb
  subst e;obtain⟨o,e,c,d⟩:=st;exact⟨o,e,λv z=>by rw [d]at z;cases z⟩
 keep:=λi h h' st k=>st.at λo e=>k it (by simp) o e
 item:=by
  intro X hP hw hK hc i pins s σ H E I hf st hg;subst hP hw hK;obtain⟨xs,x,hq,hx⟩:=hg;obtain⟨its,rv,p,hz⟩:=I.list hq;obtain⟨u,hu,ru⟩:=rv.get hx;obtain⟨f0,f1,f2,f3,f4,f5⟩:=hf it (by simp);refine wpAny_pyNext_list_item st p.isList (x:=u) (by simpa using hu) λh' st' sb => ?_
  have I1:Inv X pins σ H { s with heap:=h' }:=I.turned (t':=s.toks) (λb o hb e=>(sb.2 b hb).trans e) f0 f1 f3 f4 f5;obtain⟨o,e,c,d⟩:=id st';exact⟨u,rfl,Jq (s:={ s with heap:=h' }) e c d (by decide) ⟨x,H,I1,ru,⟨rfl,λys hy=>by rw [I.list_inj hy hq];exact hx⟩,st',λb hb=>(hf b hb).1⟩⟩
 done:=by
  intro X hP hw hK hc i pins s σ H E I hf st hg;subst hP hw hK;obtain⟨xs,hq,hx⟩:=hg;obtain⟨its,rv,p,hz⟩:=I.list hq;obtain⟨f0,f1,f2,f3,f4,f5⟩:=hf it (by simp);have hl:=rv.length;exact wpAny_pyNext_list_end (I.ok.hd hc) st p.isList (by simp;omega) λh' eb=>⟨rfl,I.turned (t':=s.toks) (λb o hb e=>eb b o hb e) f0 f1 f3 f4 f5⟩
 self:=λ_ _ _ _ _ st h=>wpAny_pyIter_listiter st h
theorem ZaG{P:Program}{w:World}{K:PySem.W.Frag}{tg:Expr}(a it:Addr):Turn P w K tg (Itt K a) [it] it (λi h=>h.IsTupleIter it a i) where
 mem:=by simp
 obj:=λi h st b hb=>by
  have e:b=it:=by simpa using hb
  subst e;obtain⟨o,e,c,d⟩:=st;exact⟨o,e,λv z=>by rw [d]at z;cases z⟩
 keep:=λi h h' st k=>st.at λo e=>k it (by simp) o e
 item:=by
  intro X hP hw hK hc i pins s σ H E I hf st hg;subst hP hw hK;obtain⟨xs,x,hq,hx⟩:=hg;obtain⟨its,rv,p,hz⟩:=I.tuple hq;obtain⟨u,hu,ru⟩:=rv.get hx;obtain⟨f0,f1,f2,f3,f4,f5⟩:=hf it (by simp);refine wpAny_pyNext_tuple_item st (show s.heap.IsTuple a its.toArray from p) (x:=u) (by simpa using hu) λh' st' sb => ?_
  have I1:Inv X pins σ H { s with heap:=h' }:=I.turned (t':=s.toks) (λb o hb e=>(sb.2 b hb).trans e) f0 f1 f3 f4 f5;obtain⟨o,e,c,d⟩:=id st';exact⟨u,rfl,Jq (s:={ s with heap:=h' }) e c d (by decide) ⟨x,H,I1,ru,⟨rfl,λys hy=>by rw [I.tuple_inj hy hq];exact hx⟩,st',λb hb=>(hf b hb).1⟩⟩
 done:=by
  intro X hP hw hK hc i pins s σ H E I hf st hg;subst hP hw hK;obtain⟨xs,hq,hx⟩:=hg;obtain⟨its,rv,p,hz⟩:=I.tuple hq;obtain⟨f0,f1,f2,f3,f4,f5⟩:=hf it (by simp);have hl:=rv.length;exact wpAny_pyNext_tuple_end (I.ok.hd hc) st (show s.heap.IsTuple a its.toArray from p) (by simp;omega) λh' eb=>⟨rfl,I.turned (t':=s.toks) (λb o hb e=>eb b o hb e) f0 f1 f3 f4 f5⟩
 self:=λ_ _ _ _ _ st h=>wpAny_pyIter_tupleiter st h
theorem Zcp{P:Program}{w:World}{K:PySem.W.Frag}{tg:Expr}(it:Addr)(lo:Int)(n:Nat):Turn P w K tg (Itr lo n) [it] it (λi h=>IsRangeIter h it (lo+(i:Nat)*1) ((n:Int)-(i:Nat)) 1) where
 mem:=by simp
 obj:=λi h st b hb=>by
  have e:b=it:=by simpa using hb
  subst e
  exact⟨_,st,λv z=>by
   have z':Data.fields _=Data.cell v:=z;cases z'⟩
 keep:=λi h h' st k=>k it (by simp) _ st
 item:=by
  intro X hP hw hK hc i pins s σ H E I hf st hg;subst hP hw hK;obtain⟨f0,f1,f2,f3,f4,f5⟩:=hf it (by simp);have W:=Walks.range (prog:=X.prog) (w:=X.w) (I.ok.hd hc) it lo 1 n;refine W.item i s _ _ hg st λv h' tk hv st' kk => ?_
  obtain⟨t,rfl⟩:=hv;have I1:Inv X pins σ H { s with heap:=h',toks:=tk }:=I.turned (λb o hb e=>kk b o (by simpa using hb) e) f0 f1 f3 f4 f5;refine⟨_,rfl,Jq (s:={ s with heap:=h',toks:=tk }) (n:="range_iterator") st' rfl rfl (by decide) ⟨.int (lo+i),H,I1,⟨t,?_⟩,⟨rfl,rfl⟩,st',λb hb=>(hf b hb).1⟩⟩;rw [Int.mul_one]
 done:=by
  intro X hP hw hK hc i pins s σ H E I hf st hg;subst hP hw hK;obtain⟨f0,f1,f2,f3,f4,f5⟩:=hf it (by simp);exact wpAny_pyNext_range_end (I.ok.hd hc) st (by have:n<=i:=hg;omega) λh' eb=>⟨rfl,I.turned (t':=s.toks) (λb o hb e=>eb b o hb e) f0 f1 f3 f4 f5⟩
 self:=λ_ _ _ _ _ st h=>wpAny_pyIter_rangeiter st h
end L2
namespace L2
open PySem PySem.Spec PyProof.Rows
section
variable{X:Cx}{tg:Expr}
def Zki(K:PySem.W.Frag)(tl:TE):TI:=λσ H R=>tl σ H λx H1=>∃a,x = .ref a/\(∃xs,SqT K H1 a xs)/\R (Itt K a) H1
theorem ZgL{l:Expr}{tl:TE}(hl:PE X l tl):PI X tg l (Zki X.K tl):=by
 intro pins s σ H R I h;refine thn (hl pins s σ H _ I h) λv s1 ⟨x,H1,I1,r1,q1⟩ => ?_
 obtain⟨a,e,⟨xs,hq⟩,q⟩:=q1;subst e;cases r1;obtain⟨its,rv,p,hz⟩:=I1.tuple hq;refine wpAny_pyIter_tuple (show s1.heap.IsTuple a its.toArray from p) ?_;refine⟨s1.heap.objs.size,[s1.heap.objs.size],_,_,H1,rfl,I1.kept (t':=s1.toks) λb o e=>Heap.get?_push_of_some _ e,ZaG a _,⟨_,Heap.get?_push_size _ rfl,rfl,rfl⟩,λb hb => ?_,q⟩;have e:b=s1.heap.objs.size:=by simpa using hb
 subst e;exact I1.fpOk (Nat.le_refl _) (I1.hok.fresh (Nat.le_refl _))
theorem Zd0 {pins:List (Addr×Obj)} {σ:St} {H:Hp} {s:Shared} {R:It->Hp->Prop} {E:Value->Shared->Prop} {lo hi:Int} {t u v:Tok} {tk:Nat} (I:Inv X pins σ H s) (h1 : -(2 ^ 62)<=lo) (h2:lo<2 ^ 62) (h3 : -(2 ^ 62)<=hi) (h4:hi<2 ^ 62)
 (q:R (Itr lo (hi-lo).toNat) H):wpAny (model X.prog X.w) X.A (pyIter (.ref s.heap.objs.size)) (PIE X pins σ tg R) E { s with heap:=s.heap.push { cls := .type "range",data := .fields #[.int lo t,.int hi u,.int 1 v] },toks:=tk }:=by
 refine wpAny_pyIter_range (IsRange.new ..) (small_one h1 h2 h3 h4) ?_;have I1:Inv X pins σ H { s with heap:=s.heap.push { cls := .type "range",data := .fields #[.int lo t,.int hi u,.int 1 v] },toks:=tk }:=I.kept λb o e=>Heap.get?_push_of_some _ e
 refine⟨(s.heap.push { cls := .type "range",data := .fields #[.int lo t,.int hi u,.int 1 v] }).objs.size,[(s.heap.push { cls := .type "range",data := .fields #[.int lo t,.int hi u,.int 1 v] }).objs.size],_,_,H,rfl,
  I1.kept (t':=tk) λb o e=>Heap.get?_push_of_some _ e,Zcp _ lo (hi-lo).toNat,?_,λb hb => ?_,q⟩
 · have e1:lo+((0:Nat):Int)*1=lo:=by simp
   have e2:(((hi-lo).toNat:Nat):Int)-((0:Nat):Int)=Builtin.Range.rangeSize lo hi 1:=by rw [rangeSize_one];split<;>omega
   show IsRangeIter _ _ (lo+((0:Nat):Int)*1) ((((hi-lo).toNat:Nat):Int)-((0:Nat):Int)) 1;rw [e1,e2];exact Heap.get?_push_size _ rfl
 · have e:b=(s.heap.push { cls := .type "range",data := .fields #[.int lo t,.int hi u,.int 1 v] }).objs.size:=by simpa using hb
   subst e;exact I1.fpOk (Nat.le_refl _) (I1.hok.fresh (Nat.le_refl _))
def Zgc(ta:TA):TI:=λσ H R=>ta σ H λvs H1=>∃j:Int,vs=[.int j] /\ -(2 ^ 62)<=j/\j<2 ^ 62/\R (Itr 0 j.toNat) H1
theorem UJ {a:Expr} {ta:TA} {p pos:Pos} (hg:Gl X "range") (hm:X.mg "range" = none) (ha:PA X [a] ta) (hs:starEach [a] X.env=[(false,eval a X.env)]:=by rfl):PI X tg (.Call (.Name "range" p) [a] [] pos) (Zgc ta):=by
 intro pins s σ H R I h;refine Call_ (Uk I hg hm boot_range (PyProof.Rows.callWith_type1 (thn (ha pos pins s σ H _ I h) λus s1 ⟨vs,H1,I1,r1,q1⟩ => ?_) hs rfl));obtain⟨j,e,q1,q2,q⟩:=q1;subst e;cases r1 with
 |cons r rr=>
  cases rr;obtain⟨t,rfl⟩:=r;exact call_range_1 (Zd0 I1 (by omega) (by omega) q1 q2 (by simpa using q))
def Zj3(wi:TI)(g:TG)(tb:TS):TS:=λD σ H=>wi σ H λJ H1=>∃W:Nat->Nat->St->Hp->Prop,(∃m,W 0 m σ H1)/\∀i m σ H,W i m σ H ->
 (J.stop i H/\D.nx σ H)\/(J.go i H/\∃N:St->Hp->Prop,(∀σ' H',N σ' H'->∃m',m'<m/\W (i+1) m' σ' H')/\∀x H',J.yld i H x H'->g x σ H' λσ2 H2=>tb { D with nx:=N,ct:=N,bk:=D.nx } σ2 H2)
def Ve(fp:List Addr)(h:Heap):List (Addr×Obj):=fp.filterMap λb=>(h.get? b).map λo=>(b,o)
theorem Jr{fp:List Addr}{h:Heap}{b:Addr}{o:Obj}(hb:b∈fp)(e:h.get? b=some o):(b,o)∈Ve fp h:=List.mem_filterMap.mpr ⟨b,hb,by rw [e];rfl⟩
theorem Za9{fp:List Addr}{h:Heap}{p:Addr×Obj}(hp:p∈Ve fp h):p.1∈fp/\h.get? p.1=some p.2:=by
 obtain⟨b,hb,e⟩:=List.mem_filterMap.mp hp;cases q:h.get? b with
 |none=>rw [q]at e;cases e
 |some o=>
  rw [q]at e;have e':(b,o)=p:=Option.some.inj e;subst e';exact⟨hb,q⟩
theorem Inv.pinned{pins:List (Addr×Obj)}{σ:St}{H:Hp}{s:Shared}{fp:List Addr}(I:Inv X pins σ H s)(hf:∀b∈fp,Xm X pins H b)(ho:∀b∈fp,∃o,s.heap.get? b=some o/\∀v,o.data ≠ .cell v):Inv X (pins++Ve fp s.heap) σ H s:=
 I.pins_of λp hp=>(List.mem_append.mp hp).elim (λz=>I.pin p (List.mem_append_right _ z)) λz=>by
  obtain⟨hb,e⟩:=Za9 z;obtain⟨f0,f1,f2,_⟩:=hf p.1 hb;obtain⟨o,e',d⟩:=ho p.1 hb;rw [e]at e';cases e';exact⟨e,f0,f1,f2,d⟩
theorem Inv.unpinned{pins pl:List (Addr×Obj)}{σ:St}{H:Hp}{s:Shared}(I:Inv X (pins++pl) σ H s):Inv X pins σ H s:=I.pins_of λp hp=>I.pin p (List.mem_append_right _ (List.mem_append_left _ hp))
theorem UK {iter:Expr} {body:List Stmt} {wi:TI} {g:TG} {tb:TS} {pos:Pos} (hp:PassesOwn (model X.prog X.w) X.A X.env X.xe) (hc:X.calm=true) (hi:PI X tg iter wi) (hg:PG X tg g) (hb:PSs X body tb)
 (hs:∀x,foldedSetIterable iter X.env x=pure x:=by intro _;rfl):PS X (.For tg iter body [] pos) (Zj3 wi g tb):=by
 intro pins s σ H D I h;refine wpAny_For (thn (hi pins s σ H _ I h) λv s1 h1=>thn h1 λitv s2 h2 => ?_) hs;obtain⟨it,fp,tn,J,H2,e,I2,T,st2,f2,W,⟨m0,w0⟩,turn⟩:=h2;subst e;have stat:∀{H':Hp},(∀b∈fp,H' b=none)->∀b∈fp,Xm X pins H' b:=λhn b hb=>⟨hn b hb,(f2 b hb).2⟩
 refine codeAny_forLoop_any (λn s'=>∃i σ' H',Inv X pins σ' H' s'/\tn i s'.heap/\(∀b∈fp,H' b=none)/\W i n σ' H') ?_ m0 ⟨0,σ,H2,I2,st2,λb hb=>(f2 b hb).1,w0⟩
 rintro n s3 ⟨i,σ3,H3,I3,st3,fr3,w3⟩
 rcases turn i n σ3 H3 w3 with⟨stop,qn⟩|⟨go,N,hN,step⟩
 · refine wpAny_passesOwn hp (thn (T.done X rfl rfl rfl hc i pins s3 σ3 H3 X.xe I3 (stat fr3) st3 stop) λr s4 ⟨hr,I4⟩ => ?_)
   subst hr;exact wpAny_execs_nil ⟨σ3,H3,I4,qn⟩
 · refine wpAny_passesOwn hp (thn (T.item X rfl rfl rfl hc i pins s3 σ3 H3 X.xe I3 (stat fr3) st3 go) λr s4 ⟨u,hr,h4⟩ => ?_)
   subst hr;refine wpAny_passesOwn hp (thn h4 λ_ s5 ⟨x,H5,I5,r5,y5,st5,fr5⟩ => ?_);have I5':=I5.pinned (stat fr5) (T.obj _ _ st5);refine wpAny_passesOwn hp (thn (hg _ s5 σ3 H5 x u _ I5' r5 (step x H5 y5)) λ_ s6 ⟨σ6,H6,I6,q6⟩ => ?_);refine wpAny_passesOwn hp (thn (hb _ s6 σ6 H6 _ I6 q6) λf s7 q7 => ?_)
   have again:∀{σ7:St}{H7:Hp},Inv X (pins++Ve fp s5.heap) σ7 H7 s7->N σ7 H7->∃m,m<n/\∃i σ' H',Inv X pins σ' H' s7/\tn i s7.heap/\(∀b∈fp,H' b=none)/\W i m σ' H':=λ{σ7 H7} I7 n7=>by
    obtain⟨m',hm,w7⟩:=hN σ7 H7 n7;refine⟨m',hm,i+1,σ7,H7,I7.unpinned,T.keep _ _ _ st5 λb hb o e=>(I7.pin (b,o) (List.mem_append_right _ (List.mem_append_right _ (Jr hb e)))).1,λb hb => ?_,w7⟩;obtain⟨o,e,d⟩:=T.obj _ _ st5 b hb;exact(I7.pin (b,o) (List.mem_append_right _ (List.mem_append_right _ (Jr hb e)))).2.1
   cases f with
   |next=>obtain⟨σ7,H7,I7,n7⟩:=q7;exact again I7 n7
   |cont=>obtain⟨σ7,H7,I7,n7⟩:=q7;exact again I7 n7
   |brk=>obtain⟨σ7,H7,I7,q7⟩:=q7;exact⟨σ7,H7,I7.unpinned,q7⟩
   |ret v=>obtain⟨x7,σ7,H7,I7,r7,q7⟩:=q7;exact⟨x7,σ7,H7,I7.unpinned,r7,q7⟩
end
end L2
namespace L2
open PySem PySem.Spec PyProof.Rows
abbrev R2:=V->V->Hp->VK->Prop
def OpR(X:Cx)(f:Value->Value->Sem Value)(r:R2):Prop:=
 ∀(pins:List (Addr×Obj))(s:Shared)(σ:St)(H:Hp)(x y:V)(v u:Value)(Q:VK),Inv X pins σ H s->RelV x v->RelV y u->r x y H Q ->
  wpAny (model X.prog X.w) X.A (f v u) (EP X pins σ Q) X.xe s
def UnR(X:Cx)(f:Value->Sem Value)(r:V->Hp->VK->Prop):Prop:=
 ∀(pins:List (Addr×Obj))(s:Shared)(σ:St)(H:Hp)(x:V)(v:Value)(Q:VK),Inv X pins σ H s->RelV x v->r x H Q ->
  wpAny (model X.prog X.w) X.A (f v) (EP X pins σ Q) X.xe s
def YI(X:Cx)(f:Value)(r:List V->Hp->VK->Prop):Prop:=
 ∀(pins:List (Addr×Obj))(s:Shared)(σ:St)(H:Hp)(xs:List V)(us:List Value)(Q:VK),Inv X pins σ H s->Vals xs us->r xs H Q ->
  wpAny (model X.prog X.w) X.A (call f us) (EP X pins σ Q) X.xe s
def tOp(r:R2)(ta tb:TE):TE:=λσ H Q=>ta σ H λx H1=>tb σ H1 λy H2=>r x y H2 Q
def tUn(r:V->Hp->VK->Prop)(ta:TE):TE:=λσ H Q=>ta σ H λx H1=>r x H1 Q
def rI(C:Int->Int->Prop)(g:Int->Int->V):R2:=λx y H Q=>∃i j,x = .int i/\y = .int j/\C i j/\Q (g i j) H
def rI0(g:Int->Int->V):R2:=λx y H Q=>∃i j,x = .int i/\y = .int j/\Q (g i j) H
def rU(g:Int->V):V->Hp->VK->Prop:=λx H Q=>∃i,x = .int i/\Q (g i) H
section
variable{X:Cx}{a b c:Expr}{ta tb tc:TE}{pos:Pos}
theorem Zij (ha:PE X a ta) (hb:PE X b tb) {pins:List (Addr×Obj)} {s:Shared} {σ:St} {H:Hp} {R:V->V->Hp->Prop} (I:Inv X pins σ H s)
 (h:ta σ H λx H1=>tb σ H1 λy H2=>R x y H2) {Q:Value->Shared->Prop} {f:Value->Value->Sem Value}
 (hf:∀v u s2 x y H2,Inv X pins σ H2 s2->RelV x v->RelV y u->R x y H2->wpAny (model X.prog X.w) X.A (f v u) Q X.xe s2) :
 wpAny (model X.prog X.w) X.A (eval a X.env) (λv s₁=>wpAny (model X.prog X.w) X.A (eval b X.env) (λu s₂=>wpAny (model X.prog X.w) X.A (f v u) Q X.xe s₂) X.xe s₁) X.xe s:=by
 refine thn (ha pins s σ H _ I h) λv s1 ⟨x,H1,I1,r1,q1⟩ => ?_
 refine thn (hb pins s1 σ H1 _ I1 q1) λu s2 ⟨y,H2,I2,r2,q2⟩ => ?_
 exact hf v u s2 x y H2 I2 r1 r2 q2
theorem ZB{op:Operator}{r:R2}(ho:OpR X (binaryOp op) r)(ha:PE X a ta)(hb:PE X b tb):PE X (.BinOp a op b pos) (tOp r ta tb):=by
 intro pins s σ H Q I h;exact wpAny_BinOp (Zij ha hb I h λv u s2 x y H2 I2 rx ry q=>ho pins s2 σ H2 x y v u Q I2 rx ry q)
theorem Uo{op:UnaryOp}{r:V->Hp->VK->Prop}(ho:UnR X (unaryOp op) r)(ha:PE X a ta):PE X (.UnaryOp op a pos) (tUn r ta):=by
 intro pins s σ H Q I h;exact UnaryOp_ (thn (ha pins s σ H _ I h) λv s1 ⟨x,H1,I1,r1,q1⟩=>ho pins s1 σ H1 x v Q I1 r1 q1)
theorem opI {f:Value->Value->Sem Value} {C:Int->Int->Prop} {g:Int->Int->Int}
 (rule:∀(i j:Int)(t u:Tok)(s:Shared)(Q:Value->Shared->Prop)(E:Value->Shared->Prop),C i j->Q (.int (g i j) s.toks) { s with toks:=s.toks+1 }->wpAny (model X.prog X.w) X.A (f (.int i t) (.int j u)) Q E s) :
 OpR X f (rI C λi j => .int (g i j)):=by
 intro pins s σ H x y v u Q I rx ry h;obtain⟨i,j,rfl,rfl,hc,q⟩:=h;obtain⟨t,rfl⟩:=rx;obtain⟨t',rfl⟩:=ry;exact rule i j t t' s _ _ hc ⟨.int (g i j),H,I.tok _,⟨_,rfl⟩,q⟩
theorem Zj4 {f:Value->Value->Sem Value} {g:Int->Int->Int}
 (rule:∀(i j:Int)(t u:Tok)(s:Shared)(Q:Value->Shared->Prop)(E:Value->Shared->Prop),Q (.int (g i j) s.toks) { s with toks:=s.toks+1 }->wpAny (model X.prog X.w) X.A (f (.int i t) (.int j u)) Q E s) :
 OpR X f (rI0 λi j => .int (g i j)):=by
 intro pins s σ H x y v u Q I rx ry h;obtain⟨i,j,rfl,rfl,q⟩:=h;obtain⟨t,rfl⟩:=rx;obtain⟨t',rfl⟩:=ry;exact rule i j t t' s _ _ ⟨.int (g i j),H,I.tok _,⟨_,rfl⟩,q⟩
theorem Js {f:Value->Value->Sem Value} {g:Int->Int->Bool}
 (rule:∀(i j:Int)(t u:Tok)(s:Shared)(Q:Value->Shared->Prop)(E:Value->Shared->Prop),Q (.bool (g i j)) s->wpAny (model X.prog X.w) X.A (f (.int i t) (.int j u)) Q E s) :
 OpR X f (rI0 λi j => .bl (g i j)):=by
 intro pins s σ H x y v u Q I rx ry h;obtain⟨i,j,rfl,rfl,q⟩:=h;obtain⟨t,rfl⟩:=rx;obtain⟨t',rfl⟩:=ry;exact rule i j t t' s _ _ ⟨.bl (g i j),H,I,rfl,q⟩
def ZG(i j:Int):Prop:=0<j/\j<1073741824
def Zj5(i j:Int):Prop:=0<=j/\j<=1000000/\i.natAbs<2 ^ 64
def CMul(i j:Int):Prop:=(-(2 ^ 64)<i/\i<2 ^ 64)\/(-(2 ^ 64)<j/\j<2 ^ 64)
theorem CMul.ok{i j:Int}(h:CMul i j):IntMulOk i j:=by
 rcases h with⟨h1,h2⟩|⟨h1,h2⟩
 · exact .of_left (intBits_le_64 h1 h2)
 · exact .of_right (intBits_le_64 h1 h2)
theorem op_add:OpR X (binaryOp .Add) (rI0 λi j => .int (i+j)):=Zj4 λ_ _ _ _ _ _ _ q=>add_int q
theorem Vv:OpR X (binaryOp .Sub) (rI0 λi j => .int (i-j)):=Zj4 λ_ _ _ _ _ _ _ q=>sub_int q
theorem op_mul:OpR X (binaryOp .Mult) (rI CMul λi j => .int (i*j)):=opI λ_ _ _ _ _ _ _ hc q=>mul_int q hc.ok
theorem XT:OpR X (binaryOp .FloorDiv) (rI ZG λi j => .int (i / j)):=opI λi j _ _ _ _ _ hc q=>by
 have h1:(0:Int)<j:=hc.1;have h2:j<1073741824:=hc.2;exact floordiv_int (by omega) (by rw [Int.fdiv_eq_ediv_of_nonneg i (by omega)];exact q) (.inl (PyProof.noPylong_small (by omega)))
theorem Yw:OpR X (binaryOp .Mod) (rI (λ_ j=>0<j) λi j => .int (i % j)):=opI λi j _ _ _ _ _ hc q=>by
 have h1:(0:Int)<j:=hc;exact mod_int' (by omega) (by rw [Int.fmod_eq_emod_of_nonneg i (by omega)];exact q)
theorem unI {f:Value->Sem Value} {g:Int->Int}
 (rule:∀(i:Int)(t:Tok)(s:Shared)(Q:Value->Shared->Prop)(E:Value->Shared->Prop),Q (.int (g i) s.toks) { s with toks:=s.toks+1 }->wpAny (model X.prog X.w) X.A (f (.int i t)) Q E s) :
 UnR X f (rU λi => .int (g i)):=by
 intro pins s σ H x v Q I rx h;obtain⟨i,rfl,q⟩:=h;obtain⟨t,rfl⟩:=rx;exact rule i t s _ _ ⟨.int (g i),H,I.tok _,⟨_,rfl⟩,q⟩
theorem Up:UnR X (unaryOp .USub) (rU λi => .int (-i)):=unI λ_ _ _ _ _ q=>neg_int q
end
def Vf:V->V->Bool
 | .non,.non=>true | .non,.int _=>true | .int _,.non=>true | .non,.bl _=>true | .bl _,.non=>true | .non,.str _=>true | .str _,.non=>true
 | .int _,.int _=>true | .bl _,.bl _=>true | .str _,.str _=>true | .byt _,.byt _=>true
 | .int _,.str _=>true | .str _,.int _=>true | .bl _,.str _=>true | .str _,.bl _=>true
 |_,_=>false
def rEq:R2:=λx y H Q=>Vf x y=true/\Q (.bl (decide (x=y))) H
def rNe:R2:=λx y H Q=>Vf x y=true/\Q (.bl (!decide (x=y))) H
theorem ZcY{i j:Int}:decide (V.int i=V.int j)=(i == j):=by
 rw [Bool.eq_iff_iff];simp
theorem ZeS{i j:Bool}:decide (V.bl i=V.bl j)=(i == j):=by
 rw [Bool.eq_iff_iff];simp
theorem ZcZ{i j:Str}:decide (V.str i=V.str j)=(i == j):=by
 rw [Bool.eq_iff_iff];simp
theorem Zc0{i j:Array UInt8}:decide (V.byt i=V.byt j)=(i.toList == j.toList):=by
 rw [Bool.eq_iff_iff];cases i;cases j;simp
section
variable{X:Cx}{a b c:Expr}{ta tb tc:TE}{pos:Pos}
theorem Yu{pins:List (Addr×Obj)}{σ:St}{H:Hp}{s:Shared}{Q:VK}{k k':Bool}(I:Inv X pins σ H s)(q:Q (.bl k) H)(e:k=k'):EP X pins σ Q (.bool k') s:=by
 subst e;exact⟨.bl k,H,I,rfl,q⟩
theorem ZiI:OpR X (compareOp .Eq) rEq:=by
 intro pins s σ H x y v u Q I rx ry h;obtain⟨hs,q⟩:=h;cases x with
 |non=>
  cases rx;cases y with
  |non=>cases ry;exact PySem.EqNone.eq_none_none (Yu I q (by simp))
  |bl j=>cases ry;exact PySem.EqNone.eq_none_bool (Yu I q (by simp))
  |int j=>obtain⟨t',rfl⟩:=ry;exact PySem.EqNone.eq_none_int (Yu I q (by simp))
  |str j=>obtain⟨t',rfl⟩:=ry;exact PySem.EqNone.eq_none_str (Yu I q (by simp))
  |_=>exact absurd (show false=true from hs) Bool.false_ne_true
 |bl i=>
  cases rx;cases y with
  |non=>cases ry;exact PySem.EqNone.eq_bool_none (Yu I q (by simp))
  |bl j=>cases ry;exact eq_bool (Yu I q ZeS)
  |str j=>obtain⟨t',rfl⟩:=ry;exact PySem.EqMixed.eq_bool_str (Yu I q (by simp))
  |_=>exact absurd (show false=true from hs) Bool.false_ne_true
 |int i=>
  obtain⟨t,rfl⟩:=rx;cases y with
  |non=>cases ry;exact PySem.EqNone.eq_int_none (Yu I q (by simp))
  |int j=>obtain⟨t',rfl⟩:=ry;exact eq_int (Yu I q ZcY)
  |str j=>obtain⟨t',rfl⟩:=ry;exact PySem.EqMixed.eq_int_str (Yu I q (by simp))
  |_=>exact absurd (show false=true from hs) Bool.false_ne_true
 |str i=>
  obtain⟨t,rfl⟩:=rx;cases y with
  |non=>cases ry;exact PySem.EqNone.eq_str_none (Yu I q (by simp))
  |bl j=>cases ry;exact PySem.EqMixed.eq_str_bool (Yu I q (by simp))
  |int j=>obtain⟨t',rfl⟩:=ry;exact PySem.EqMixed.eq_str_int (Yu I q (by simp))
  |str j=>obtain⟨t',rfl⟩:=ry;exact eq_str (Yu I q ZcZ)
  |_=>exact absurd (show false=true from hs) Bool.false_ne_true
 |byt i=>
  obtain⟨t,rfl⟩:=rx;cases y with
  |byt j=>obtain⟨t',rfl⟩:=ry;exact PySem.W.eq_bytes (Yu I q Zc0)
  |_=>exact absurd (show false=true from hs) Bool.false_ne_true
 |_=>cases y<;>exact absurd (show false=true from hs) Bool.false_ne_true
theorem ZiJ:OpR X (compareOp .NotEq) rNe:=by
 intro pins s σ H x y v u Q I rx ry h;obtain⟨hs,q⟩:=h;cases x with
 |non=>
  cases rx;cases y with
  |non=>cases ry;exact PySem.EqNone.ne_none_none (Yu I q (by simp))
  |bl j=>cases ry;exact PySem.EqNone.ne_none_bool (Yu I q (by simp))
  |int j=>obtain⟨t',rfl⟩:=ry;exact PySem.EqNone.ne_none_int (Yu I q (by simp))
  |str j=>obtain⟨t',rfl⟩:=ry;exact PySem.EqNone.ne_none_str (Yu I q (by simp))
  |_=>exact absurd (show false=true from hs) Bool.false_ne_true
 |bl i=>
  cases rx;cases y with
  |non=>cases ry;exact PySem.EqNone.ne_bool_none (Yu I q (by simp))
  |bl j=>cases ry;exact ne_bool (Yu I q (congrArg not ZeS))
  |str j=>obtain⟨t',rfl⟩:=ry;exact PySem.EqMixed.ne_bool_str (Yu I q (by simp))
  |_=>exact absurd (show false=true from hs) Bool.false_ne_true
 |int i=>
  obtain⟨t,rfl⟩:=rx;cases y with
  |non=>cases ry;exact PySem.EqNone.ne_int_none (Yu I q (by simp))
  |int j=>obtain⟨t',rfl⟩:=ry;exact ne_int (Yu I q (congrArg not ZcY))
  |str j=>obtain⟨t',rfl⟩:=ry;exact PySem.EqMixed.ne_int_str (Yu I q (by simp))
  |_=>exact absurd (show false=true from hs) Bool.false_ne_true
 |str i=>
  obtain⟨t,rfl⟩:=rx;cases y with
  |non=>cases ry;exact PySem.EqNone.ne_str_none (Yu I q (by simp))
  |bl j=>cases ry;exact PySem.EqMixed.ne_str_bool (Yu I q (by simp))
  |int j=>obtain⟨t',rfl⟩:=ry;exact PySem.EqMixed.ne_str_int (Yu I q (by simp))
  |str j=>obtain⟨t',rfl⟩:=ry;exact ne_str (Yu I q (congrArg not ZcZ))
  |_=>exact absurd (show false=true from hs) Bool.false_ne_true
 |byt i=>
  obtain⟨t,rfl⟩:=rx;cases y with
  |byt j=>obtain⟨t',rfl⟩:=ry;exact PySem.W.ne_bytes (Yu I q (congrArg not Zc0))
  |_=>exact absurd (show false=true from hs) Bool.false_ne_true
 |_=>cases y<;>exact absurd (show false=true from hs) Bool.false_ne_true
theorem UL:OpR X (compareOp .Lt) (rI0 λi j => .bl (decide (i<j))):=Js λ_ _ _ _ _ _ _ q=>lt_int q
theorem VW:OpR X (compareOp .LtE) (rI0 λi j => .bl (decide (i<=j))):=Js λ_ _ _ _ _ _ _ q=>le_int q
theorem Jt:OpR X (compareOp .Gt) (rI0 λi j => .bl (decide (j<i))):=Js λ_ _ _ _ _ _ _ q=>gt_int q
theorem ZiK:OpR X (compareOp .GtE) (rI0 λi j => .bl (decide (j<=i))):=Js λ_ _ _ _ _ _ _ q=>ge_int q
theorem Zdn:OpR X (compareOp .In) (λx y H Q=>∃i j,x = .str i/\y = .str j/\Q (.bl (!(Builtin.Str.occurrences j i 0 j.length 1).isEmpty)) H):=by
 intro pins s σ H x y v u Q I rx ry h;obtain⟨i,j,rfl,rfl,q⟩:=h;obtain⟨t,rfl⟩:=rx;obtain⟨t',rfl⟩:=ry;exact in_str (Yu I q rfl)
def isObj:HO->Bool
 | .lst _=>true
 | .ins _ _ _=>true
 |_=>false
theorem OpR.or{f:Value->Value->Sem Value}{r r':R2}(h:OpR X f r)(h':OpR X f r'):OpR X f (λx y H Q=>r x y H Q\/r' x y H Q):=by
 intro pins s σ H x y v u Q I rx ry q;rcases q with q|q
 · exact h pins s σ H x y v u Q I rx ry q
 · exact h' pins s σ H x y v u Q I rx ry q
theorem Yb(b:Expr){op:CmpOp}(h:op ≠ .In:=by decide)(h2:op ≠ .NotIn:=by decide):behindInMarks op b=false:=by
 have e1:(op == CmpOp.In)=false:=by cases op<;>first|rfl|exact absurd rfl h
 have e2:(op == CmpOp.NotIn)=false:=by cases op<;>first|rfl|exact absurd rfl h2
 cases b<;>simp [behindInMarks,e1,e2]
theorem Xn{op:CmpOp}{r:R2}(ho:OpR X (compareOp op) r)(ha:PE X a ta)(hb:PE X b tb)(hm:behindInMarks op b=false):PE X (.Compare a [op] [b] pos) (tOp r ta tb):=by
 intro pins s σ H Q I h;exact wpAny_Compare1 (Zij ha hb I h λv u s2 x y H2 I2 rx ry q=>ho pins s2 σ H2 x y v u Q I2 rx ry q) hm
def Ju(t:TE):TT:=λσ H Q=>t σ H λx H'=>∃k,x = .bl k/\Q k H'
theorem Yr{op:CmpOp}{r:R2}(ho:OpR X (compareOp op) r)(ha:PE X a ta)(hb:PE X b tb)(hm:behindInMarks op b=false):PT X (.Compare a [op] [b] pos) (Ju (tOp r ta tb)):=by
 intro pins s σ H Q I h
 refine wpAny_isTrue_Compare1 (thn (ha pins s σ H _ I h) λv s1 ⟨x,H1,I1,r1,q1⟩=>thn (hb pins s1 σ H1 _ I1 q1) λu s2 ⟨y,H2,I2,r2,q2⟩=>
  thn (ho pins s2 σ H2 x y v u _ I2 r1 r2 q2) λc s3 ⟨z,H3,I3,r3,k,e,q3⟩ => ?_) hm
 subst e;cases r3;exact wpAny_truthy_bool ⟨H3,I3,q3⟩
def ZcJ(r r':R2)(ta tb tc:TE):TE:=λσ H Q=>ta σ H λx H1=>tb σ H1 λy H2=>r x y H2 λz H3=>∃k,z = .bl k /\
 (if k=true then tc σ H3 λw' H4=>r' y w' H4 Q else Q (.bl false) H3)
theorem Zb5 {op op':CmpOp} {r r':R2} (ho:OpR X (compareOp op) r) (ho':OpR X (compareOp op') r') (ha:PE X a ta) (hb:PE X b tb) (hc:PE X c tc)
 (hm:lastMarks [op,op'] [b,c]=false:=by with_unfolding_all rfl):PE X (.Compare a [op,op'] [b,c] pos) (ZcJ r r' ta tb tc):=by
 intro pins s σ H Q I h
 refine Compare_chain (thn (ha pins s σ H _ I h) λv s1 ⟨x,H1,I1,r1,q1⟩=>chain_link (thn (hb pins s1 σ H1 _ I1 q1) λu s2 ⟨y,H2,I2,r2,q2⟩=>
  thn (ho pins s2 σ H2 x y v u _ I2 r1 r2 q2) λd s3 ⟨z,H3,I3,r3,k,e,q3⟩ => ?_)) hm
 subst e;cases r3;refine wpAny_truthy_bool ?_;cases k with
 |false=>exact ite_ff ⟨.bl false,H3,I3,rfl,q3⟩
 |true=>exact ite_tt (chain_last (thn (hc pins s3 σ H3 _ I3 q3) λw' s4 ⟨z',H4,I4,r4,q4⟩=>ho' pins s4 σ H4 y z' u w' Q I4 r2 r4 q4))
theorem Zd1 {op op':CmpOp} {r r':R2} (ho:OpR X (compareOp op) r) (ho':OpR X (compareOp op') r') (ha:PE X a ta) (hb:PE X b tb) (hc:PE X c tc)
 (hm:lastMarks [op,op'] [b,c]=false:=by with_unfolding_all rfl):PT X (.Compare a [op,op'] [b,c] pos) (Ju (ZcJ r r' ta tb tc)):=by
 intro pins s σ H Q I h
 refine isTrue_chain (thn (ha pins s σ H _ I h) λv s1 ⟨x,H1,I1,r1,q1⟩=>test_link (thn (hb pins s1 σ H1 _ I1 q1) λu s2 ⟨y,H2,I2,r2,q2⟩=>
  thn (ho pins s2 σ H2 x y v u _ I2 r1 r2 q2) λd s3 ⟨z,H3,I3,r3,k,e,q3⟩ => ?_)) hm
 subst e;cases r3;refine wpAny_truthy_bool ?_;cases k with
 |false=>
  obtain⟨k',e',q'⟩:=q3;cases e';exact ite_ff ⟨H3,I3,q'⟩
 |true=>
  refine ite_tt (test_last (thn (hc pins s3 σ H3 _ I3 q3) λw' s4 ⟨z',H4,I4,r4,q4⟩=>thn (ho' pins s4 σ H4 y z' u w' _ I4 r2 r4 q4) λd' s5 ⟨z2,H5,I5,r5,k2,e2,q5⟩ => ?_));subst e2;cases r5;exact wpAny_truthy_bool ⟨H5,I5,q5⟩
theorem Qu:(sizeLine:Nat)<2 ^ 63:=by rw [sizeLine_eq];decide
theorem Zcq:OpR X (binaryOp .Add) (λx y H Q=>∃i j,x = .str i/\y = .str j/\i.length+j.length<=sizeLine/\Q (.str (i++j)) H):=by
 intro pins s σ H x y v u Q I rx ry h;obtain⟨i,j,rfl,rfl,hz,q⟩:=h;obtain⟨t,rfl⟩:=rx;obtain⟨t',rfl⟩:=ry;exact add_str (λt' tk=>⟨.str (i++j),H,I.tok _,⟨_,rfl⟩,q⟩) hz
theorem Y2{x:V}{us:List Value}(r:Vals [x] us):∃u,us=[u]/\RelV x u:=by
 cases r with
 |cons r1 r2=>cases r2;exact⟨_,rfl,r1⟩
theorem Zfg{x y:V}{us:List Value}(r:Vals [x,y] us):∃u w',us=[u,w']/\RelV x u/\RelV y w':=by
 cases r with
 |cons r1 r2=>
  cases r2 with
  |cons r3 r4=>cases r4;exact⟨_,_,rfl,r1,r3⟩
theorem Zba(hc:X.calm=true):YI X (.builtin "min") (λxs H Q=>∃i j,xs=[.int i,.int j]/\Q (.int (if j<i then j else i)) H):=by
 intro pins s σ H xs us Q I r h;obtain⟨i,j,rfl,q⟩:=h;obtain⟨u,w',rfl,⟨t,rfl⟩,⟨t',rfl⟩⟩:=Zfg r;refine min_two_ints (I.ok.hd hc) λh' tk k=>⟨_,H,I.kept k,?_,q⟩
 by_cases hj:j<i
 · rw [if_pos hj,if_pos hj];exact⟨_,rfl⟩
 · rw [if_neg hj,if_neg hj];exact⟨_,rfl⟩
theorem Zdo:YI X (.type "int") (λxs H Q=>(∃i,xs=[.int i]/\Q (.int i) H)\/∃k,xs=[.bl k]/\Q (.int (if k then 1 else 0)) H):=by
 intro pins s σ H xs us Q I r h;rcases h with⟨i,rfl,q⟩|⟨k,rfl,q⟩
 · obtain⟨u,rfl,t,rfl⟩:=Y2 r
   exact call_int_int ⟨.int i,H,I,⟨_,rfl⟩,q⟩
 · obtain⟨u,rfl,r1⟩:=Y2 r
   cases r1;exact call_int_bool ⟨.int (if k then 1 else 0),H,I.tok _,⟨_,rfl⟩,q⟩
end
end L2
namespace L2
open PySem PySem.Spec PyProof.Rows
structure ObjM(h:Heap)(x dx C:Addr)(mA:Str->Option Value):Prop where
 obj:h.get? x=some (instObj C dx)
 ns:h.Ns1 dx mA
 ne:dx≠x
theorem Zdp{h:Heap}{dx:Addr}{mA:Str->Option Value}(n:h.Ns1 dx mA):∃od,h.get? dx=some od/\∀name,PySem.W.lookIn name od=some (mA name):=by
 obtain⟨o,es,ep,ho,hd,hk,_,hm⟩:=n;refine⟨o,ho,λname => ?_⟩;have e:=hm name;unfold nsFind findBy at e;rw [<-Array.find?_toList]at e;unfold PySem.W.lookIn;rw [hd];dsimp only
 split
 · rename_i y q
   rw [q]at e;exact congrArg some e
 · rename_i q
   rw [q]at e
   have a:es.toList.any (·.refKey)=false:=by
    rw [List.any_eq_false];intro y hy;obtain⟨z,t,hkey⟩:=hk y (Array.mem_toList_iff.mp hy);simp [DictEntry.refKey,hkey]
   have a':¬es.toList.any (·.refKey)=true:=by rw [a];exact Bool.false_ne_true
   rw [if_neg a'];exact congrArg some e
theorem ObjM.look{h:Heap}{x dx C:Addr}{mA:Str->Option Value}(I:ObjM h x dx C mA):∃od,PySem.W.InstAt h x (instObj C dx) C (some od)/\∀name,PySem.W.lookIn name od=some (mA name):=
 let⟨od,ho,hl⟩:=Zdp I.ns
 ⟨od,⟨I.obj,rfl,rfl,ho⟩,hl⟩
section
variable{prog:Program}{w:World}{A:Around}{E:Value->Shared->Prop}{s:Shared}{K:PySem.W.Frag}{x dx C f:Addr}{mA:Str->Option Value}{name:Str}{v:Value}
theorem Zfw {expr:Bool} {Q:Value->Shared->Prop} (X:K.In s.heap) (I:ObjM s.heap x dx C mA) (hg:PySem.W.plainGet K C name=true) (hh:PySem.W.hasDictIn K C=true)
 (ha:PySem.W.findIn K (.ref C) name=some none) (hv:mA name=some v) (hv':PySem.W.handedIn v=true) (h:Q v { s with toks:=s.toks+1 }) :
 wpAny (model prog w) A (getAttr (.ref x) name expr) Q E s:=by
 obtain⟨od,J,hl⟩:=I.look;exact PySem.W.get_value X J (PySem.W.plainGet_of hg).1 (PySem.W.findObj_own hh ha rfl (by rw [hl,hv])) hv' h
theorem Zd2 {pl:Sem Bool} {Q:Value×List Value->Shared->Prop} (X:K.In s.heap) (I:ObjM s.heap x dx C mA) (hg:PySem.W.plainGet K C name=true)
 (hf:PySem.W.findIn K (.ref C) name=some (some (.ref f))) (ht:isFn K (.ref f)=true) (hv:mA name=none) (h:Q (.ref f,[.ref x]) s) :
 wpAny (model prog w) A (getMethod (.ref x) name pl) Q E s:=by
 obtain⟨od,J,hl⟩:=I.look;exact PySem.W.method_fn X J (PySem.W.plainGet_of hg).1 (PySem.W.plainGet_of hg).2 hf (beq_iff_eq.mp ht) (by show(PySem.W.lookIn name od).map (·.isSome)=some false;rw [hl,hv];rfl) h
theorem Zfx {ns:List Str} {Q:Unit->Shared->Prop} (X:K.In s.heap) (I:ObjM s.heap x dx C mA)
 (hs:PySem.W.findIn K (.ref C) "__setattr__" = some (some (.builtin "object.__setattr__"))) (hp:PySem.W.plainOver K C=true) (ht:PySem.W.takerIn K C name=some none) (hh:PySem.W.hasDictIn K C=true)
 (hw:PySem.Within mA ns) (hsz:ns.length<=sizeLine)
 (h:∀h',ObjM h' x dx C (λy=>if y=name then some v else mA y)->Heap.SameBut dx s.heap h'->Q () { s with heap:=h',toks:=s.toks+2 }) :
 wpAny (model prog w) A (setAttr (.ref x) name v) Q E s:=by
 obtain⟨od,J,hl⟩:=I.look;refine PySem.W.set_plain X J hs (PySem.W.osa_open (s:={ s with toks:=s.toks+1 }) (r:=none) X J hp ht λb => ?_);obtain⟨cd,hc,hd'⟩:=PySem.W.any_some hh;have hx:s.heap.get? x=some ⟨.ref C,some dx,.plain,#[]⟩:=I.obj;refine wpAny_bind (wpAny_pure (wpAny_bind (wpAny_bind (wpAny_loadPart hx (wpAny_bind (PySem.W.Looks.here (s:={ s with toks:=s.toks+1 }) (PySem.W.looks_clsIn X hc) ?_))))))
 rw [hd'];refine wpAny_pure (a:=some dx) (wpAny_bind (wpAny_pure (wpAny_bind ?_)));refine wpAny_nsSet1 (s:={ s with toks:=s.toks+1 }) I.ns λh' hn2 hs2 => ?_
 obtain⟨oD,esD,epD,hoD,hdD,hcD⟩:=hn2.count (PySem.Within.cons name v hw);refine wpAny_bind (wpAny_lookBehind hoD (by rw [hdD];exact pastItsLine_dict (Nat.le_trans hcD (by rw [List.length_cons];omega))) ?_);exact wpAny_pure (h _ ⟨(hs2.2 _ (Ne.symm I.ne)).trans I.obj,hn2,I.ne⟩ hs2)
theorem Zd3 {R:Result->Shared->Prop} {vs:List Value} {kw:List (Str×Value)} (X:K.In s.heap) (hm:PySem.W.makesIn K C=true)
 (hi:PySem.W.findIn K (.ref C) "__init__" = some (some (.ref f))) (hf:PySem.W.typeIn K (.ref f)=some (.type "function"))
 (h:codeAny (model prog w) (A.under (.builtin "type.__call__" ⟨.ref C::vs,kw⟩)) (.call (.ref f) ⟨.ref (s.heap.objs.size+1)::vs,kw⟩) (PySem.W.InitBack (s.heap.objs.size+1) R)
   { s with heap:=(s.heap.push emptyDict).push (instObj C s.heap.objs.size) }) :
 codeAny (model prog w) A (.call (.ref C) ⟨vs,kw⟩) R s:=by
 obtain⟨hh,g,d,t,os⟩:=s;exact PySem.W.make_core (PySem.W.makes_of X hm) (PySem.W.looks_findIn X hi) (λself=>PySem.W.bind_fn X self hf) (.inl rfl) h
end
def Y0(f:Str)(v:V):List (Str×V)->List (Str×V)
 | []=>[(f,v)]
 |(g,x)::r=>if g=f then(g,v)::r else(g,x)::Y0 f v r
theorem ZaB(f g:Str)(v:V):∀fs:List (Str×V),(Y0 f v fs).lookup g=if g=f then some v else fs.lookup g
 | []=>by
  show List.lookup g [(f,v)]=_
  by_cases h:g=f
  · have hb:(g == f)=true:=beq_iff_eq.mpr h
    simp only [List.lookup,hb,if_pos h]
  · have hb:(g == f)=false:=beq_eq_false_iff_ne.mpr h
    simp only [List.lookup,hb,if_neg h]
 |(k,x)::r=>by
  have ih:=ZaB f g v r;rw [show Y0 f v ((k,x)::r)=(if k=f then(k,v)::r else(k,x)::Y0 f v r)from rfl]
  by_cases hk:k=f
  · rw [if_pos hk]
    by_cases h:g=k
    · have hb:(g == k)=true:=beq_iff_eq.mpr h
      simp only [List.lookup,hb,if_pos (h.trans hk)]
    · have hb:(g == k)=false:=beq_eq_false_iff_ne.mpr h
      simp only [List.lookup,hb,if_neg (λe:g=f=>h (e.trans hk.symm))]
  · rw [if_neg hk]
    by_cases h:g=k
    · have hb:(g == k)=true:=beq_iff_eq.mpr h
      simp only [List.lookup,hb,if_neg (λe:g=f=>hk (h.symm.trans e))]
    · have hb:(g == k)=false:=beq_eq_false_iff_ne.mpr h
      simp only [List.lookup,hb];exact ih
theorem Zat(f:Str)(v:V):∀fs:List (Str×V),f∈(Y0 f v fs).map (·.1)/\∀g,g∈fs.map (·.1)->g∈(Y0 f v fs).map (·.1)
 | []=>⟨by simp [Y0],λg h=>by simp at h⟩
 |(k,x)::r=>by
  obtain⟨i1,i2⟩:=Zat f v r;rw [show Y0 f v ((k,x)::r)=(if k=f then(k,v)::r else(k,x)::Y0 f v r)from rfl]
  by_cases hk:k=f
  · rw [if_pos hk]
    subst hk;exact⟨by simp,λg h=>by simpa using h⟩
  · rw [if_neg hk]
    refine⟨?_,λg h => ?_⟩
    · rw [List.map_cons]
      exact List.mem_cons_of_mem _ i1
    · rw [List.map_cons]at h ⊢
      rcases List.mem_cons.mp h with e|e
      · exact List.mem_cons.mpr (.inl e)
      · exact List.mem_cons_of_mem _ (i2 g e)
theorem ZaC(f:Str)(v:V):∀fs:List (Str×V),(Y0 f v fs).length<=fs.length+1
 | []=>by simp [Y0]
 |(k,x)::r=>by
  have ih:=ZaC f v r;rw [show Y0 f v ((k,x)::r)=(if k=f then(k,v)::r else(k,x)::Y0 f v r)from rfl]
  by_cases hk:k=f
  · rw [if_pos hk,List.length_cons,List.length_cons];omega
  · rw [if_neg hk,List.length_cons,List.length_cons];omega
theorem RelO.some_of{v:V}{o:Option Value}(r:RelO (some v) o):∃u,o=some u/\RelV v u:=by
 cases o with
 |none=>exact(show False from r).elim
 |some u=>exact⟨u,rfl,r⟩
theorem RelO.none_of{o:Option Value}(r:RelO none o):o=none:=by
 cases o with
 |none=>rfl
 |some u=>exact(show False from r).elim
theorem Zdq{v:V}{u:Value}(r:RelV v u):PySem.W.handedIn u=true:=by
 cases v with
 |non=>cases(show u=Value.none from r);rfl
 |bl b=>cases(show u=Value.bool b from r);rfl
 |int i=>obtain⟨t,e⟩:=(show ∃t,u=Value.int i t from r);cases e;rfl
 |str x=>obtain⟨t,e⟩:=(show ∃t,u=Value.str x t from r);cases e;rfl
 |byt b=>obtain⟨t,e⟩:=(show ∃t,u=Value.bytes b t from r);cases e;rfl
 |flt b=>obtain⟨t,e⟩:=(show ∃t,u=Value.float b t from r);cases e;rfl
 |ref a=>cases(show u=Value.ref a from r);rfl
 |ty n=>cases(show u=Value.type n from r);rfl
section
variable{P:Program}{w:World}{H H':Hp}{h h':Heap}{a C dx:Addr}{fs fs':List (Str×V)}
theorem Jv(hok:HOk P w H h)(e:H a=some (.ins C dx fs)):∃mA,ObjM h a dx C mA/\(∀f,RelO (fs.lookup f) (mA f))/\PySem.Within mA (fs.map (·.1))/\fs.length<=1000/\H dx=some (.own a):=by
 obtain⟨d,z,ne,ob,mA,n,r,q⟩:=(show ObjOk P w H h a (.ins C dx fs)from hok a _ e)
 exact⟨mA,⟨ob,n,ne⟩,r,q,z,d⟩
end
structure Cls(K:PySem.W.Frag)(C:Addr):Prop where
 pg:PySem.W.plainGet K C Str.empty=true
 hd:PySem.W.hasDictIn K C=true
 po:PySem.W.plainOver K C=true
 sa:PySem.W.findIn K (.ref C) "__setattr__" = some (some (.builtin "object.__setattr__"))
theorem Cls.get{K:PySem.W.Frag}{C:Addr}(c:Cls K C)(f:Str):PySem.W.plainGet K C f=true:=c.pg
def NoAttr(K:PySem.W.Frag)(C:Addr)(f:Str):Prop:=PySem.W.findIn K (.ref C) f=some none
theorem NoAttr.taker{K:PySem.W.Frag}{C:Addr}{f:Str}(n:NoAttr K C f):PySem.W.takerIn K C f=some none:=by
 unfold PySem.W.takerIn;rw [show PySem.W.findIn K (.ref C) f=some none from n];rfl
structure Con(K:PySem.W.Frag)(C:Addr)(f:Str)(v:V)(u:Value):Prop where
 at_:PySem.W.findIn K (.ref C) f=some (some u)
 rel:RelV v u
 get:PySem.W.specialIn K u "__get__" = some none
 cp:PySem.W.copiedNames.contains f=false
structure Meth(K:PySem.W.Frag)(C:Addr)(m:Str)(f:Addr):Prop where
 at_:PySem.W.findIn K (.ref C) m=some (some (.ref f))
 fn:isFn K (.ref f)=true
 kp:keepIn K (.ref f)=true
section
variable{X:Cx}{pins:List (Addr×Obj)}{σ:St}{H:Hp}{s:Shared}{a C dx:Addr}{fs:List (Str×V)}{f:Str}{v:V}{A:Around}{E:Value->Shared->Prop}
theorem Zcr {b:Bool} {Q:Value->Shared->Prop} (I:Inv X pins σ H s) (e:H a=some (.ins C dx fs)) (c:Cls X.K C) (n:NoAttr X.K C f) (l:fs.lookup f=some v)
 (h:∀u s',Inv X pins σ H s'->RelV v u->Q u s'):wpAny (model X.prog X.w) A (getAttr (.ref a) f b) Q E s:=by
 obtain⟨mA,O,r,_,_,_⟩:=Jv I.hok e;obtain⟨u,hu,ru⟩:=RelO.some_of (v:=v) (o:=mA f) (by rw [<-l];exact r f);exact Zfw I.kIn O (c.get f) c.hd n hu (Zdq ru) (h u _ (I.tok _) ru)
theorem Zam {m:Str} {g:Addr} {pl:Sem Bool} {Q:Value×List Value->Shared->Prop} (I:Inv X pins σ H s) (e:H a=some (.ins C dx fs)) (c:Cls X.K C) (k:Meth X.K C m g) (l:fs.lookup m=none)
 (h:Q (.ref g,[.ref a]) s):wpAny (model X.prog X.w) A (getMethod (.ref a) m pl) Q E s:=by
 obtain⟨mA,O,r,_,_,_⟩:=Jv I.hok e;have hn:mA m=none:=RelO.none_of (by rw [<-l];exact r m);exact Zd2 I.kIn O (c.get m) k.at_ k.fn hn h
theorem Zcs {y:V} {u:Value} {Q:Unit->Shared->Prop} (I:Inv X pins σ H s) (e:H a=some (.ins C dx fs)) (c:Cls X.K C) (n:NoAttr X.K C f) (hl:fs.length<1000) (ry:RelV y u)
 (h:∀s',Inv X pins σ (upd H a (.ins C dx (Y0 f y fs))) s'->Q () s'):wpAny (model X.prog X.w) A (setAttr (.ref a) f u) Q E s:=by
 obtain⟨mA,O,r,wi,_,ho⟩:=Jv I.hok e;have hz:(fs.map (·.1)).length<=sizeLine:=by rw [List.length_map,sizeLine_eq];omega
 refine Zfx I.kIn O c.sa c.po n.taker c.hd wi hz λh' O' sb=>h _ ?_
 have hd:∃o,h'.get? dx=some o:=let⟨o,_,_,e',_⟩:=O'.ns;⟨o,e'⟩
 refine I.write (x:=a) (e:=dx) (by rw [e];exact True.intro) (.inr ho) (λb q hb z=>(sb.2 b hb).trans z) hd ?_;refine⟨by rw [Zv O.ne];exact ho,?_,O.ne,O'.obj,_,O'.ns,λg => ?_,λg hg => ?_⟩
 · have:=ZaC f y fs;omega
 · show RelO ((Y0 f y fs).lookup g) (if g=f then some u else mA g)
   rw [ZaB]
   by_cases q:g=f
   · rw [if_pos q,if_pos q];exact ry
   · rw [if_neg q,if_neg q];exact r g
 · by_cases q:g=f
   · rw [q];exact(Zat f y fs).1
   · refine(Zat f y fs).2 g (wi g λz=>hg ?_)
     show(if g=f then some u else mA g)=none;rw [if_neg q];exact z
theorem Inv.made(I:Inv X pins σ H s):Inv X pins σ (upd (upd H s.heap.objs.size (.own (s.heap.objs.size+1))) (s.heap.objs.size+1) (.ins C s.heap.objs.size []))
 { s with heap:=(s.heap.push emptyDict).push (instObj C s.heap.objs.size) }:=by
 have e1:(s.heap.push emptyDict).get? s.heap.objs.size=some emptyDict:=Heap.get?_push_size s.heap rfl
 have e2:((s.heap.push emptyDict).push (instObj C s.heap.objs.size)).get? (s.heap.objs.size+1)=some (instObj C s.heap.objs.size):=by
  have:=Heap.get?_push_size (s.heap.push emptyDict) (o:=instObj C s.heap.objs.size) rfl
  rwa [Heap.size_push]at this
 have e3:(s.heap.push emptyDict).Ns s.heap.objs.size (λ_=>none):=⟨emptyDict,#[],_,e1,rfl,(λe he=>absurd he (by simp)),λ_=>rfl⟩
 have I1:=I.laid (a:=s.heap.objs.size) (o:=.own (s.heap.objs.size+1)) (h':=s.heap.push emptyDict) (t':=s.toks) (λb u q=>Heap.get?_push_of_some _ q) (Nat.le_refl _) ⟨_,e1⟩;refine I1.laid (a:=s.heap.objs.size+1) (o:=.ins C s.heap.objs.size []) (t':=s.toks) (λb u q=>Heap.get?_push_of_some _ q) (Nat.le_of_eq (Heap.size_push _ _)) ?_;have ne:s.heap.objs.size≠s.heap.objs.size+1:=Nat.ne_of_lt (Nat.lt_succ_self _)
 refine⟨by rw [Zv ne,Yq],Nat.zero_le _,ne,e2,λ_=>none,(Heap.Ns1.of_empty e3).at λo q=>Heap.get?_push_of_some _ q,λ_=>True.intro,λy hy=>absurd rfl hy⟩
theorem Zfy {prog:Program} {w:World} {env:Env} {e:Expr} {f:Str} {pos:Pos} {s:Shared} {Q:Value->Shared->Prop} (hb:attributeBase e f env (eval e env)=eval e env)
 (h:wpAny (model prog w) A (eval e env) (λo s₁=>wpAny (model prog w) A (getAttr o f true) Q E s₁) E s):wpAny (model prog w) A (eval (.Attribute e f pos) env) Q E s:=
 Attribute_any_ h (by rw [arm_eval_Attribute,hb])
end
def Jw(K:PySem.W.Frag)(ta:TE)(f:Str):TE:=λσ H Q=>ta σ H λx H1=>∃a C dx fs v,x = .ref a/\H1 a=some (.ins C dx fs)/\Cls K C/\NoAttr K C f/\fs.lookup f=some v/\Q v H1
def Zik(K:PySem.W.Frag)(ta tv:TE)(f:Str):TS:=λD σ H=>tv σ H λy H1=>ta σ H1 λx H2=>∃a C dx fs,x = .ref a/\H2 a=some (.ins C dx fs)/\Cls K C/\NoAttr K C f/\fs.length<1000 /\
 D.nx σ (upd H2 a (.ins C dx (Y0 f y fs)))
section
variable{X:Cx}{o e value:Expr}{f:Str}{pos pos' tpos:Pos}{ta tv:TE}
theorem ZgM(he:PE X e ta)(hb:attributeBase e f X.env (eval e X.env)=eval e X.env):PE X (.Attribute e f pos) (Jw X.K ta f):=by
 intro pins s σ H Q I h;refine Zfy hb (thn (he pins s σ H _ I h) λu s1 ⟨x,H1,I1,rx,a,C,dx,fs,v,ex,ea,c,n,l,q⟩ => ?_);subst ex;obtain rfl:u=Value.ref a:=rx;exact Zcr I1 ea c n l λu' s2 I2 ru=>⟨v,H1,I2,ru,q⟩
theorem XF(ha:PE X o ta)(hv:PE X value tv)(hs:swapsWith value (some (.Attribute o f pos')) pos.line X.env=pure false):PS X (.Assign [.Attribute o f pos'] value pos) (Zik X.K ta tv f):=by
 intro pins s σ H D I h;refine plainObj_wpAny_Assign_Attribute (thn (hv pins s σ H _ I h) λu s1 ⟨y,H1,I1,ry,q⟩=>thn (ha pins s1 σ H1 _ I1 q) λov s2 ⟨x,H2,I2,rx,a,C,dx,fs,ex,ea,c,n,l,q2⟩ => ?_) hs;subst ex;obtain rfl:ov=Value.ref a:=rx;exact Zcs I2 ea c n l ry λs3 I3=>⟨σ,_,I3,q2⟩
end
section
variable{X:Cx}{pins:List (Addr×Obj)}{σ:St}{H:Hp}{s:Shared}{A:Around}{E:Value->Shared->Prop}{Q:Value->Shared->Prop}{c:Value}{b:Bool}
inductive TyOf(K:PySem.W.Frag)(H:Hp):V->Value->Prop where
 |non:TyOf K H .non (.type "NoneType")
 |bl (x:Bool):TyOf K H (.bl x) (.type "bool")
 |int (i:Int):TyOf K H (.int i) (.type "int")
 |str (x:Str):TyOf K H (.str x) (.type "str")
 |flt (x:UInt64):TyOf K H (.flt x) (.type "float")
 |lst {a:Addr} {xs:List V} (e:H a=some (.lst xs)):TyOf K H (.ref a) (.type "list")
 |frz {a:Addr} {o:Obj} {xs:List V} (e:H a=some (.frz o (.lst xs))):TyOf K H (.ref a) (.type "list")
 |tup {a:Addr} {xs:List V} (e:H a=some (.tup xs)):TyOf K H (.ref a) (.type "tuple")
 |dK {a:Addr} {kvs:List (Key×V)} (e:H a=some (.dK kvs)):TyOf K H (.ref a) (.type "dict")
 |dT {a:Addr} {kvs:List (List Key×V)} (e:H a=some (.dT kvs)):TyOf K H (.ref a) (.type "dict")
 |ins {a C dx:Addr} {fs:List (Str×V)} (e:H a=some (.ins C dx fs)) (cl:Cls K C) (ha:PySem.W.findIn K (.ref C) "__class__" = some (some (.builtin "object.__class__")))
  (hn:PySem.W.specialIn K (.builtin "object.__class__") "__get__" = some (some (.builtin "getset_descriptor.__get__"))) (htk:PySem.W.takesIn K (.builtin "object.__class__")=some true)
  (hm:PySem.W.mroIn K C (.type "object")=some true):TyOf K H (.ref a) (.ref C)
theorem Zdr{x:V}{u t:Value}(I:Inv X pins σ H s)(rx:RelV x u)(ty:TyOf X.K H x t)(e:kitOne X.K t c=some b)(h:∀tk,Q (.bool b) { s with toks:=tk }) :
 wpAny (model X.prog X.w) A (call (.builtin "isinstance") [u,c]) Q E s:=by
 cases ty with
 |non=>cases(show u=Value.none from rx);exact PySem.W.kia_one PySem.W.kitx_none I.kIn True.intro e (λz=>nomatch z) h
 |bl y=>cases(show u=Value.bool y from rx);exact PySem.W.kia_one PySem.W.kitx_bool I.kIn True.intro e (λz=>nomatch z) h
 |int i=>obtain⟨t,q⟩:=(show ∃t,u=Value.int i t from rx);cases q;exact PySem.W.kia_one PySem.W.kitx_int I.kIn True.intro e (λz=>nomatch z) h
 |str y=>obtain⟨t,q⟩:=(show ∃t,u=Value.str y t from rx);cases q;exact PySem.W.kia_one PySem.W.kitx_str I.kIn True.intro e (λz=>nomatch z) h
 |flt y=>obtain⟨t,q⟩:=(show ∃t,u=Value.float y t from rx);cases q;exact PySem.W.kia_one PySem.W.kitx_float I.kIn True.intro e (λz=>nomatch z) h
 | @lst a xs ea=>
  cases(show u=Value.ref a from rx);obtain⟨_,_,n,_,h1⟩:=(show ObjOk X.prog X.w H s.heap a (.lst xs)from I.hok a _ ea)
  exact PySem.W.kia_one PySem.W.kitx_list I.kIn ⟨_,h1,rfl⟩ e (λz=>nomatch z) h
 | @frz a ob xs ea=>
  cases(show u=Value.ref a from rx);obtain⟨_,_,_,n,_,h1⟩:=(show ObjOk X.prog X.w H s.heap a (.frz ob (.lst xs))from I.hok a _ ea)
  exact PySem.W.kia_one PySem.W.kitx_list I.kIn ⟨_,h1,rfl⟩ e (λz=>nomatch z) h
 | @tup a xs ea=>
  cases(show u=Value.ref a from rx);obtain⟨_,_,_,p⟩:=(show ObjOk X.prog X.w H s.heap a (.tup xs)from I.hok a _ ea)
  obtain⟨o,h1,h2,_⟩:=p;exact PySem.W.kia_one PySem.W.kitx_tuple I.kIn ⟨o,h1,h2⟩ e (λz=>nomatch z) h
 | @dK a kvs ea=>
  cases(show u=Value.ref a from rx);obtain⟨_,_,vs,_,p⟩:=(show ObjOk X.prog X.w H s.heap a (.dK kvs)from I.hok a _ ea)
  obtain⟨o,es,ep,h1,h2,_⟩:=p;exact PySem.W.kia_one PySem.W.kitx_dict I.kIn ⟨o,h1,h2.1⟩ e (λz=>nomatch z) h
 | @dT a kvs ea=>
  cases(show u=Value.ref a from rx);obtain⟨_,_,xs,_,o,es,ep,h1,h2,_⟩:=(show ObjOk X.prog X.w H s.heap a (.dT kvs)from I.hok a _ ea)
  exact PySem.W.kia_one PySem.W.kitx_dict I.kIn ⟨o,h1,h2.1⟩ e (λz=>nomatch z) h
 | @ins a C dx fs ea cl ha hn htk hm=>
  cases(show u=Value.ref a from rx);obtain⟨mA,O,_⟩:=Jv I.hok ea;obtain⟨od,J,_⟩:=O.look;exact PySem.W.kia_one (PySem.W.kitx_own (cl.get _) cl.hd ha hn htk hm) I.kIn J e (λz=>nomatch z) h
end
end L2
namespace L2
open PySem PySem.Spec PyProof.Rows
structure Room(k:Nat)(A:Around):Prop where
 hd:A.handled=none
 dp:A.depth+3*k+5<recursionLimit
 un:A.units+16*k+200<cLine
theorem Room.mono{j k:Nat}{A:Around}(r:Room k A)(h:j<=k):Room j A:=⟨r.hd,by have:=r.dp;omega,by have:=r.un;omega⟩
theorem Room.deeper{k:Nat}{A:Around}(r:Room (k+1) A)(env:Env):Room k (A.deeper env):=
 ⟨r.hd,by have:=r.dp;show A.depth+1+3*k+5<_;omega,by have:=r.un;show A.units+3+16*k+200<_;omega⟩
theorem Zct{A:Around}{C:Addr}{us:List Value}{kw:List (Str×Value)}:(A.under (.builtin "type.__call__" ⟨.ref C::us,kw⟩)).depth=A.depth+1:=by
 first|rfl|simp [Around.under,Code.weight,Code.isCreation,Code.isGuard,Code.isCaller,Code.frames,Code.isFrame,guardIds]
theorem Zcu{A:Around}{C:Addr}{us:List Value}{kw:List (Str×Value)}:(A.under (.builtin "type.__call__" ⟨.ref C::us,kw⟩)).units=A.units+1:=by
 first|rfl|simp [Around.under,Code.cUnits,Code.frames,Code.isFrame]
theorem Room.make{k:Nat}{A:Around}(r:Room (k+1) A)(C:Addr)(us:List Value)(kw:List (Str×Value)):Room k (A.under (.builtin "type.__call__" ⟨.ref C::us,kw⟩)):=
 ⟨r.hd,by have:=r.dp;rw [Zct];omega,by have:=r.un;rw [Zcu];omega⟩
theorem Room.depth{k:Nat}{A:Around}(r:Room k A):A.depth<recursionLimit:=by have:=r.dp;omega
theorem Room.units{k:Nat}{A:Around}(r:Room k A):A.units+64<cLine:=by have:=r.un;omega
def tNil:TA:=λ_ H Q=>Q [] H
def YR(ta:TE)(tr:TA):TA:=λσ H Q=>ta σ H λx H1=>tr σ H1 λxs H2=>Q (x::xs) H2
section
variable{X:Cx}{e:Expr}{es:List Expr}{te:TE}{t:TA}{pos:Pos}
theorem Zi:PA X [] tNil:=λ_ _ _ _ H Q I h=>Calls.spliced_nil ⟨[],H,I,.nil,h⟩
theorem Zd(ha:PE X e te)(hr:PA X es t)(hs:starEach (e::es) X.env=(false,eval e X.env)::starEach es X.env:=by rfl):PA X (e::es) (YR te t):=by
 intro pos pins s σ H Q I h;rw [hs];show wpAny _ _ (spliced ((false,eval e X.env)::backTo pos (starEach es X.env))) _ _ s;refine Calls.spliced_cons (thn (ha pins s σ H _ I h) λu s1 ⟨x,H1,I1,r1,q1⟩ => ?_);exact thn (hr pos pins s1 σ H1 _ I1 q1) λus s2 ⟨xs,H2,I2,r2,q2⟩=>⟨x::xs,H2,I2,.cons r1 r2,q2⟩
def Zj6(t:TA):TE:=λσ H Q=>t σ H λxs H1=>xs.length<=sizeLine/\∀p,H1 p=none->Q (.ref p) (upd H1 p (.tup xs))
def Zj7(t:TA):TE:=λσ H Q=>t σ H λxs H1=>xs.length<=sizeLine/\∀p,H1 p=none->Q (.ref p) (upd H1 p (.lst xs))
theorem VY{x1}(h:PA X es t):PE X (.Tuple es x1 pos) (Zj6 t):=by
 intro pins s σ H Q I hq;refine wpAny_Tuple_spliced (thn (h pos pins s σ H _ I hq) λus s1 ⟨xs,H1,I1,r,z,q⟩=>⟨by rw [<-r.length];exact z,?_⟩);have hf:H1 s1.heap.objs.size=none:=I1.hok.fresh (Nat.le_refl _);refine⟨.ref s1.heap.objs.size,upd H1 s1.heap.objs.size (.tup xs),I1.laid (t':=s1.toks) (λb u e=>Heap.get?_push_of_some _ e) (Nat.le_refl _) ?_,rfl,q _ hf⟩;exact⟨z,us,r,⟨_,Heap.get?_push_size _ rfl,rfl,⟨_,rfl⟩,rfl⟩⟩
theorem Uq(h:PA X es t):PE X (.List es pos) (Zj7 t):=by
 intro pins s σ H Q I hq;refine wpAny_List_spliced (thn (h pos pins s σ H _ I hq) λus s1 ⟨xs,H1,I1,r,z,q⟩=>⟨by rw [<-r.length];exact z,?_⟩);have hf:H1 s1.heap.objs.size=none:=I1.hok.fresh (Nat.le_refl _);refine⟨.ref s1.heap.objs.size,upd H1 s1.heap.objs.size (.lst xs),I1.laid (t':=s1.toks) (λb u e=>Heap.get?_push_of_some _ e) (Nat.le_refl _) ?_,rfl,q _ hf⟩;exact⟨z,us,0,r,Heap.get?_push_size _ rfl⟩
end
abbrev Sp:=List V->Hp->VK->XK->Prop
abbrev CXT:=List Env->Hp->Shared->XK->Value->Shared->Prop
structure Env0(P:Program)(w:World)(K:PySem.W.Frag)(mg:Str->Option Value)(base:Heap)(A:Around)(outer:List Env)(s:Shared)(H:Hp):Prop where
 frames:A.frames=some outer
 mod:Mod K mg base
 bs:∀b o,base.get? b=some o->s.heap.get? b=some o/\H b=none
 bsz:base.objs.size<=s.heap.objs.size
 funs:s.heap.FunFrames base outer
 frf:∀b∈frs outer,H b=none
 hok:HOk P w H s.heap
 bare:AllBare s.gens
def CE(outer:List Env)(P:Program)(w:World)(H:Hp)(s:Shared)(Q:VK)(u:Value)(s':Shared):Prop:=
 ∃v H',s'.os=s.os/\AllBare s'.gens/\Un (frs outer) [] H H' s.heap s'.heap/\HOk P w H' s'.heap/\RelV v u/\Q v H'
def CR(CX:CXT)(outer:List Env)(P:Program)(w:World)(H:Hp)(s:Shared)(Q:VK)(E:XK)(r:Result)(s':Shared):Prop:=
 match r with
 | .ok (.ret u)=>CE outer P w H s Q u s'
 | .ok _=>False
 | .error e=>CX outer H s E e s'
structure FnOk(P:Program)(w:World)(K:PySem.W.Frag)(mg:Str->Option Value)(base:Heap)(CX:CXT)(k:Nat)(f:Addr)(fd:FuncData)(ps:List Str)(sp:Sp):Prop where
 len:∀vs H Q E,sp vs H Q E->vs.length=ps.length
 run:∀(A:Around)(outer:List Env)(s:Shared)(H:Hp)(args:Args)(us:List Value)(vs:List V)(Q:VK)(E:XK),Room k A->Env0 P w K mg base A outer s H->BindsTo s fd args (ps.zip us)->Vals vs us->sp vs H Q E ->
  codeAny (model P w) A (.call (.ref f) args) (CR CX outer P w H s Q E) s
theorem FnOk.mono{P:Program}{w:World}{K:PySem.W.Frag}{mg:Str->Option Value}{base:Heap}{CX:CXT}{j k:Nat}{f:Addr}{fd:FuncData}{ps:List Str}{sp:Sp}(F:FnOk P w K mg base CX j f fd ps sp)(h:j<=k) :
 FnOk P w K mg base CX k f fd ps sp:=⟨F.len,λA outer s H args us vs Q E hr=>F.run A outer s H args us vs Q E (hr.mono h)⟩
theorem FnOk.imp {P:Program} {w:World} {K:PySem.W.Frag} {mg:Str->Option Value} {base:Heap} {CX:CXT} {k:Nat} {f:Addr} {fd:FuncData} {ps:List Str} {sp sp':Sp} (F:FnOk P w K mg base CX k f fd ps sp)
 (h:∀vs H Q E,sp' vs H Q E->sp vs H Q E):FnOk P w K mg base CX k f fd ps sp':=
 ⟨λvs H Q E q=>F.len vs H Q E (h _ _ _ _ q),λA outer s H args us vs Q E hr he hb hv hs=>F.run A outer s H args us vs Q E hr he hb hv (h _ _ _ _ hs)⟩
theorem Env0.make{P:Program}{w:World}{K:PySem.W.Frag}{mg:Str->Option Value}{base:Heap}{A:Around}{outer:List Env}{s:Shared}{H:Hp}(e:Env0 P w K mg base A outer s H)(C:Addr)(us:List Value)(kw:List (Str×Value)) :
 Env0 P w K mg base (A.under (.builtin "type.__call__" ⟨.ref C::us,kw⟩)) outer s H:=⟨by first|exact e.frames|(simpa [Around.under,Code.envs,Code.isFrame,pushEnvs]using e.frames),e.mod,e.bs,e.bsz,e.funs,e.frf,e.hok,e.bare⟩
section
variable{X:Cx}{pins:List (Addr×Obj)}{σ:St}{H:Hp}{s s':Shared}
theorem Inv.env0(I:Inv X pins σ H s):Env0 X.prog X.w X.K X.mg X.base X.A X.stack s H:=
 ⟨I.ok.frames,I.ok.mod,I.bs,Nat.le_trans I.ok.bsz I.sz,I.stack,I.stkFree,I.hok,I.bare⟩
theorem Inv.after{Q:VK}{u:Value}(I:Inv X pins σ H s)(h:CE X.stack X.prog X.w H s Q u s'):EP X pins σ Q u s':=by
 obtain⟨v,H',os,bare,un,hok,r,q⟩:=h;obtain⟨hh,g,d,t,os'⟩:=s';obtain rfl:os'=s.os:=os;exact⟨v,H',I.call (h':=hh) (g':=g) (d':=d) (t':=t) (ch:=[]) un hok bare (λb z=>absurd z (by simp)),r,q⟩
end
def Jx(sp:Sp)(dvs:List V)(E:XK)(t:TA):TE:=λσ H Q=>t σ H λvs H1=>sp (vs++dvs) H1 Q E
def Zgd(C:Addr)(m:Str)(sp:Sp)(dvs:List V)(E:XK)(ta:TE)(t:TA):TE:=λσ H Q=>ta σ H λx H1=>∃a dx fs,x = .ref a/\H1 a=some (.ins C dx fs)/\fs.lookup m=none /\
 t σ H1 λvs H2=>sp (x::(vs++dvs)) H2 Q E
def Zfh(C:Addr)(sp:Sp)(dvs:List V)(E:XK)(t:TA):TE:=λσ H Q=>t σ H λvs H1=>∀x dx,H1 x=none->H1 dx=none->dx≠x ->
 sp (.ref x::(vs++dvs)) (upd (upd H1 dx (.own x)) x (.ins C dx [])) (λv H2=>v = .non/\Q (.ref x) H2) E
def Binds(K:PySem.W.Frag)(fd:FuncData)(ps:List Str)(ds:List Value):Prop:=
 ∀(s:Shared)(us:List Value),K.In s.heap->(us++ds).length=ps.length->BindsTo s fd ⟨us,[]⟩ (ps.zip (us++ds))
theorem Binds.all{K:PySem.W.Frag}{fd:FuncData}{ps:List Str}(h:∀us:List Value,us.length=ps.length->bindArgs fd ⟨us,[]⟩=pure (ps.zip us)):Binds K fd ps []:=λs us _ hl=>by
 rw [List.append_nil]at hl ⊢;exact .of_eq (h us hl)
def Ur(CX:CXT)(X:Cx)(E:XK):Prop:=∀(pins:List (Addr×Obj))(σ:St)(H:Hp)(s:Shared)(e:Value)(s':Shared),Inv X pins σ H s->CX X.stack H s E e s'->X.xe e s'
section
variable{X:Cx}{CX:CXT}{k:Nat}{f C:Addr}{fd:FuncData}{ps:List Str}{sp:Sp}{dvs:List V}{ds:List Value}{E:XK}{x m:Str}{p pos apos:Pos}{e o:Expr}{es:List Expr}{ta:TE}{t:TA}
theorem Qv {pins:List (Addr×Obj)} {σ:St} {H:Hp} {s:Shared} {Q:VK} {us:List Value} {vs:List V} (F:FnOk X.prog X.w X.K X.mg X.base CX k f fd ps sp) (hr:Room k X.A) (hb:Binds X.K fd ps ds) (hd:Vals dvs ds) (hx:Ur CX X E)
 (I:Inv X pins σ H s) (r:Vals vs us) (h:sp (vs++dvs) H Q E):wpAny (model X.prog X.w) X.A (call (.ref f) us) (EP X pins σ Q) X.xe s:=by
 have r2:Vals (vs++dvs) (us++ds):=r.append hd;have hl:(us++ds).length=ps.length:=by rw [<-r2.length];exact F.len _ _ _ _ h
 refine wpAny_call (codeAny_mono (F.run X.A X.stack s H ⟨us,[]⟩ (us++ds) (vs++dvs) Q E hr I.env0 (hb s us I.kIn hl) r2 h) λr s' hq => ?_);cases r with
 |error e=>exact hx pins σ H s e s' I hq
 |ok fl=>
  cases fl with
  |ret u=>exact I.after hq
  |next=>exact False.elim hq
  |brk=>exact False.elim hq
  |cont=>exact False.elim hq
theorem Yc (F:FnOk X.prog X.w X.K X.mg X.base CX k f fd ps sp) (hr:Room k X.A) (hg:Gl X x) (hm:X.mg x=some (.ref f)) (hk:keepIn X.K (.ref f)=true) (hb:Binds X.K fd ps ds) (hd:Vals dvs ds) (hx:Ur CX X E)
 (ha:PA X (e::es) t) (hdb:(x == ("__debug__" : Str))=false:=by decide) (he:starEach (e::es) X.env=(false,eval e X.env)::starEach es X.env:=by rfl) (hpl:(backTo pos (starEach es X.env)).any (·.1)=false:=by rfl) :
 PE X (.Call (.Name x p) (e::es) [] pos) (Jx sp dvs E t):=by
 intro pins s σ H Q I h;refine wpAny_Call_Name_kw (Jk I hg hm ?_ hdb);refine PySem.W.callWith_K (h₀:=X.base) I.ok.mod.kin hk (thn (ha pos pins s σ H _ I h) λus s1 ⟨vs,H1,I1,r,q⟩=>⟨I1.kIn,?_⟩) he hpl;exact Qv F hr hb hd hx I1 r q
theorem Zb6 {pl:Sem Bool} (he:PE X o ta) (c:Cls X.K C) (hm:Meth X.K C m f) (F:FnOk X.prog X.w X.K X.mg X.base CX k f fd ps sp) (hr:Room k X.A) (hb:Binds X.K fd ps ds) (hd:Vals dvs ds) (hx:Ur CX X E)
 (ht:eval (.Call (.Attribute o m apos) [] [] pos) X.env=(do
   let ov <-eval o X.env
   standAt apos.atName
   let(f,first) <-holding [ov] (getMethod ov m pl)
   callWith pos f first (backTo pos (starEach [] X.env)) (backToKw pos (keywordEach [] X.env))):=by rfl) :
 PE X (.Call (.Attribute o m apos) [] [] pos) (Zgd C m sp dvs E ta tNil):=by
 intro pins s σ H Q I h;refine PySem.W.methodCall_KW (pl:=pl) (thn (he pins s σ H _ I h) λu s1 ⟨x,H1,I1,rx,a,dx,fs,ex,ea,l,q⟩ => ?_) ht;subst ex;obtain rfl:u=Value.ref a:=rx;refine Zam I1 ea c hm l ?_;exact PySem.W.callWith_K0 (first:=[.ref a]) I1.kIn hm.kp (Qv (us:=[.ref a]) (vs:=[.ref a]) F hr hb hd hx I1 (.cons rfl .nil) q)
structure Mk(K:PySem.W.Frag)(C f:Addr):Prop where
 makes:PySem.W.makesIn K C=true
 init:PySem.W.findIn K (.ref C) "__init__" = some (some (.ref f))
 fn:isFn K (.ref f)=true
 kp:keepIn K (.ref C)=true
theorem Zd4 {pins:List (Addr×Obj)} {σ:St} {H:Hp} {s:Shared} {Q:VK} {us:List Value} {vs:List V} (M:Mk X.K C f) (F:FnOk X.prog X.w X.K X.mg X.base CX k f fd ps sp) (hr:Room (k+1) X.A) (hb:Binds X.K fd ps ds) (hd:Vals dvs ds)
 (hx:Ur CX X E) (I:Inv X pins σ H s) (r:Vals vs us)
 (h:∀x dx,H x=none->H dx=none->dx≠x->sp (.ref x::(vs++dvs)) (upd (upd H dx (.own x)) x (.ins C dx [])) (λv H2=>v = .non/\Q (.ref x) H2) E) :
 wpAny (model X.prog X.w) X.A (call (.ref C) us) (EP X pins σ Q) X.xe s:=by
 have hq:=h (s.heap.objs.size+1) s.heap.objs.size (I.hok.fresh (Nat.le_succ _)) (I.hok.fresh (Nat.le_refl _)) (Nat.ne_of_lt (Nat.lt_succ_self _));have I2:=Inv.made (C:=C) I;have r2:Vals (V.ref (s.heap.objs.size+1)::(vs++dvs)) (Value.ref (s.heap.objs.size+1)::(us++ds)) := .cons rfl (r.append hd)
 have hl:(Value.ref (s.heap.objs.size+1)::us++ds).length=ps.length:=by
  have e:=r2.length;rw [F.len _ _ _ _ hq]at e;exact e.symm
 refine wpAny_call (Zd3 (f:=f) I.kIn M.makes M.init (beq_iff_eq.mp M.fn) (codeAny_mono (F.run _ X.stack _ _ ⟨Value.ref (s.heap.objs.size+1)::us,[]⟩ (Value.ref (s.heap.objs.size+1)::(us++ds)) _ _ E (hr.make C us [])
  (I2.env0.make C us []) (hb _ (Value.ref (s.heap.objs.size+1)::us) I2.kIn hl) r2 hq) λr s' hq' => ?_))
 cases r with
 |error e=>exact hx pins σ _ _ e s' I2 hq'
 |ok fl=>
  cases fl with
  |ret u=>
   obtain⟨v,H',I3,rv,ev,q3⟩:=I2.after hq';subst ev;exact⟨rv,⟨V.ref (s.heap.objs.size+1),H',I3,rfl,q3⟩⟩
  |next=>exact False.elim hq'
  |brk=>exact False.elim hq'
  |cont=>exact False.elim hq'
theorem Us (M:Mk X.K C f) (F:FnOk X.prog X.w X.K X.mg X.base CX k f fd ps sp) (hr:Room (k+1) X.A) (hg:Gl X x) (hm:X.mg x=some (.ref C)) (hb:Binds X.K fd ps ds) (hd:Vals dvs ds) (hx:Ur CX X E)
 (ha:PA X (e::es) t) (hdb:(x == ("__debug__" : Str))=false:=by decide) (he:starEach (e::es) X.env=(false,eval e X.env)::starEach es X.env:=by rfl) (hpl:(backTo pos (starEach es X.env)).any (·.1)=false:=by rfl) :
 PE X (.Call (.Name x p) (e::es) [] pos) (Zfh C sp dvs E t):=by
 intro pins s σ H Q I h;refine wpAny_Call_Name_kw (Jk I hg hm ?_ hdb);refine PySem.W.callWith_K (h₀:=X.base) I.ok.mod.kin M.kp (thn (ha pos pins s σ H _ I h) λus s1 ⟨vs,H1,I1,r,q⟩=>⟨I1.kIn,?_⟩) he hpl;exact Zd4 M F hr hb hd hx I1 r q
end
section
variable{X:Cx}{CX:CXT}{k:Nat}{f C:Addr}{fd:FuncData}{ps ks:List Str}{sp:Sp}{E:XK}{x m:Str}{p pos apos kpos:Pos}{e o:Expr}{es:List Expr}{kws:List Keyword}{te ta:TE}{t tk:TA}{nm:Option Str}
structure KBinds(K:PySem.W.Frag)(fd:FuncData)(ps ks:List Str)(g:List Value->List Value->List Value)(gV:List V->List V->List V):Prop where
 to:∀(s:Shared)(us ws:List Value),K.In s.heap->(g us ws).length=ps.length->BindsTo s fd ⟨us,ks.zip ws⟩ (ps.zip (g us ws))
 rel:∀{vs:List V}{us:List Value}{zs:List V}{ws:List Value},Vals vs us->Vals zs ws->Vals (gV vs zs) (g us ws)
variable{g:List Value->List Value->List Value}{gV:List V->List V->List V}
end
structure FnScope(N P:List Str)(sc:Scope):Prop where
 kind:sc.kind = .function
 co:sc.isCoroutine=false
 gen:sc.isGenerator=false
 nd:N.Nodup
 pre:N.take P.length=P
 par:∀x∈P,sc.names.lookup x=some .local\/sc.names.lookup x=some .cell
 nofree:∀y∈sc.names,y.2 ≠ .free
theorem Zbb{kindOf:Str->Option NameKind}{x:Str}:∀{binds:List (Str×Value)}{m:Str->Option Value},(∀v,(x,v)∉binds)->bindL kindOf binds m x=m x
 | [],_,_=>rfl
 |(n,v)::r,m,h=>by
  unfold bindL;rw [Zbb λw hw=>h w (List.mem_cons_of_mem _ hw)]
  split
  · have:x≠n:=by rintro rfl;exact h v List.mem_cons_self
    simp [this]
  · rfl
theorem Zbc{kindOf:Str->Option NameKind}{x:Str}:∀{binds:List (Str×Value)}{m:Str->Option Value},(∀v,(x,v)∉binds)->bindC kindOf binds m x=m x
 | [],_,_=>rfl
 |(n,v)::r,m,h=>by
  unfold bindC;rw [Zbc λw hw=>h w (List.mem_cons_of_mem _ hw)]
  split
  · rfl
  · have:x≠n:=by rintro rfl;exact h v List.mem_cons_self
    simp [this]
theorem Zbd{kindOf:Str->Option NameKind}{x:Str}{v:Value}:∀{P:List Str}{vs:List Value}{i:Nat}{m:Str->Option Value},P.Nodup->P[i]? = some x->vs[i]? = some v->kindOf x=some .local ->
 bindL kindOf (P.zip vs) m x=some v
 | [],_,_,_,_,h,_,_=>by simp at h
 |_::_,[],_,_,_,_,h,_=>by simp at h
 |p::P,w::vs,0,m,nd,h1,h2,hk=>by
  simp at h1 h2;subst h1;subst h2;show bindL kindOf ((p,w)::P.zip vs) m p=_;unfold bindL;rw [Zbb λv hv=>(List.nodup_cons.mp nd).1 (List.of_mem_zip hv).1,if_pos hk];simp
 |p::P,w::vs,i+1,m,nd,h1,h2,hk=>by
  show bindL kindOf ((p,w)::P.zip vs) m x=_;unfold bindL;exact Zbd (i:=i) (List.nodup_cons.mp nd).2 (by simpa using h1) (by simpa using h2) hk
theorem Zbe{kindOf:Str->Option NameKind}{x:Str}{v:Value}:∀{P:List Str}{vs:List Value}{i:Nat}{m:Str->Option Value},P.Nodup->P[i]? = some x->vs[i]? = some v->kindOf x≠some .local ->
 bindC kindOf (P.zip vs) m x=some v
 | [],_,_,_,_,h,_,_=>by simp at h
 |_::_,[],_,_,_,_,h,_=>by simp at h
 |p::P,w::vs,0,m,nd,h1,h2,hk=>by
  simp at h1 h2;subst h1;subst h2;show bindC kindOf ((p,w)::P.zip vs) m p=_;unfold bindC;rw [Zbc λv hv=>(List.nodup_cons.mp nd).1 (List.of_mem_zip hv).1,if_neg hk];simp
 |p::P,w::vs,i+1,m,nd,h1,h2,hk=>by
  show bindC kindOf ((p,w)::P.zip vs) m x=_;unfold bindC;exact Zbe (i:=i) (List.nodup_cons.mp nd).2 (by simpa using h1) (by simpa using h2) hk
def start(N:List Str)(vs:List V):St:=vs.map some++List.replicate (N.length-vs.length) none
def XG(CX:CXT)(P:Program)(w:World)(K:PySem.W.Frag)(mg:Str->Option Value)(base:Heap)(N:List Str)(qual:Str)(scope:Scope)(f:Addr)(cd:Value)(A:Around)(outer:List Env)(s:Shared)(H:Hp)(E:XK):Cx where
 prog:=P
 w:=w
 K:=K
 mg:=mg
 base:=base
 A:=A.deeper (envOfC qual scope s.heap.objs.size f cd)
 N:=N
 s₀:=s
 H₀:=H
 env:=envOfC qual scope s.heap.objs.size f cd
 outer:=outer
 stack:=envOfC qual scope s.heap.objs.size f cd::outer
 ex:=[]
 calm:=true
 fn:=λ_=>true
 pn:=[]
 xe:=λe s'=>wpAny (model P w) (A.deeper (envOfC qual scope s.heap.objs.size f cd)) (leaving (envOfC qual scope s.heap.objs.size f cd) e) (λ_ s''=>CX outer H s E e s'') (λe' s''=>CX outer H s E e' s'') s'
theorem Zb7{sc:Scope}{n:Nat}{x:Str}(h:sc.names.lookup x=some .cell):∃c,(cellsFrom n sc.names []).lookup x=some c:=by
 have q:=PySem.W.cellsFrom_some sc.names n [] (.inl h);exact Option.isSome_iff_exists.mp q
theorem Zds {CX:CXT} {P:Program} {w:World} {K:PySem.W.Frag} {mg:Str->Option Value} {base:Heap} {N ps:List Str} {qual:Str} {scope:Scope} {f:Addr} {cd:Value} {A:Around} {outer:List Env} {s s1:Shared} {H:Hp} {E:XK} {us:List Value} {vs:List V}
 (S:FnScope N ps scope) (hd:A.handled=none) (e0:Env0 P w K mg base A outer s H) (hl:vs.length=ps.length) (r:Vals vs us)
 (x:InCallC s s.heap.objs.size (bindL (envOfC qual scope s.heap.objs.size f cd).kindOf (ps.zip us) λ_=>none) (cellsFrom (s.heap.objs.size+1) scope.names []) (bindC (envOfC qual scope s.heap.objs.size f cd).kindOf (ps.zip us) λ_=>none) s1) :
 Inv (XG CX P w K mg base N qual scope f cd A outer s H E) [] (start N vs) H s1:=by
 have hpl:ps.length<=N.length:=by have:=congrArg List.length S.pre;rw [List.length_take]at this;omega
 obtain⟨h1,tk,rfl,hk⟩:=x.done;have noA:∀b:Addr,b∉(XG CX P w K mg base N qual scope f cd A outer s H E).ex:=λb z=>absurd (show b∈([]:List Addr)from z) (by simp)
 refine⟨⟨e0.mod,S.kind,rfl,rfl,Nat.le_refl _,λy z c h1 h2 => ?_,λy hy => ?_,λy c _ h => ?_,λ_=>hd,Around.frames_deeper e0.frames,.inr ⟨rfl,rfl⟩,λb z=>absurd z (noA b),e0.bs,e0.bsz,λb _ _=>noA b,λb z=>absurd z (noA b),e0.funs,e0.frf⟩,
  rfl,e0.bare,Un.kept hk,⟨_,x.toInCall.ns,λi y v h1 h2 h3 => ?_⟩,λy c h=>⟨_,x.cell y c h⟩,e0.hok.fresh (Nat.le_refl _),λy c h => ?_,λp hp=>absurd (show p∈([]:List (Addr×Obj))from hp) (by simp),e0.hok.kept hk,?_⟩
 · exact name_of_addr x.apart (PySem.mem_of_lookup h1) (PySem.mem_of_lookup h2)
 · have hy:scope.names.lookup y=some .cell\/scope.names.lookup y=some .free:=hy
   rcases hy with hy|hy
   · exact Zb7 hy
   · exact absurd rfl (S.nofree _ (PySem.mem_of_lookup hy))
 · exact Nat.le_of_lt (x.above y c (PySem.mem_of_lookup h))
 · have hi : i < vs.length := by
    unfold start at h2
    by_cases hi:i<vs.length
    · exact hi
    · rw [List.getElem?_append_right (by simpa using hi)]at h2
      rw [List.getElem?_replicate]at h2
      split at h2<;>cases h2
   have ha:vs[i]? = some v:=by
    unfold start at h2;rw [List.getElem?_append_left (by simpa using hi),List.getElem?_map]at h2;cases e:vs[i]? with
    |none=>rw [e]at h2;cases h2
    |some a=>rw [e]at h2;cases h2;rfl
   obtain⟨u,hu,rv⟩:=r.get ha
   have hp:ps[i]? = some y:=by
    rw [<-S.pre,List.getElem?_take_of_lt (by omega)];exact h1
   have ndP:ps.Nodup:=by rw [<-S.pre];exact S.nd.sublist (List.take_sublist _ _)
   refine⟨u,rv,?_⟩;rcases S.par y (List.mem_of_getElem? hp)with k|k
   · exact .inl ⟨k,Zbd ndP hp hu k⟩
   · obtain⟨c,e⟩:=Zb7 (n:=s.heap.objs.size+1) k
     refine .inr ⟨.inl k,c,e,?_⟩;have q:=x.cell y c e;rw [Zbe ndP hp hu (by show scope.names.lookup y≠_;rw [k];decide)]at q;exact q
 · exact e0.hok.fresh (Nat.le_of_lt (x.above y c (PySem.mem_of_lookup h)))
 · unfold start
   show _=N.length;rw [List.length_append,List.length_map,List.length_replicate];omega
theorem Zge {CX:CXT} {P:Program} {w:World} {K:PySem.W.Frag} {mg:Str->Option Value} {base:Heap} {k:Nat} {f:Addr} {name qual:Str} {params:Arguments} {body:List Stmt} {scope:Scope} {dV kV doc pm cdv ct oc:Value} {an od:Option Addr}
 {osl:Array (Option Value)} {N ps:List Str} {sp:Sp} (lk:K.lookup f=some ⟨oc,od,.func (fnOf name qual params body scope dV kV doc pm an cdv ct),osl⟩) (hcd:codeIn K cdv qual=true) (S:FnScope N ps scope)
 (len:∀vs H Q E,sp vs H Q E->vs.length=ps.length)
 (hbody:∀(A:Around)(outer:List Env)(s:Shared)(H:Hp)(vs:List V)(Q:VK)(E:XK),Room k (A.deeper (envOfC qual scope s.heap.objs.size f cdv))->sp vs H Q E ->
   ∃t,PSs (XG CX P w K mg base N qual scope f cdv A outer s H E) body t/\t { nx:=λ_ H'=>Q .non H',rt:=Q } (start N vs) H) :
 FnOk P w K mg base CX (k+1) f (fnOf name qual params body scope dV kV doc pm an cdv ct) ps sp:=by
 refine⟨len,λA outer s H args us vs Q E hr e0 hb r hsp => ?_⟩;have hl:=len _ _ _ _ hsp;have KX:K.In s.heap:=e0.mod.kin.keeps λb o e=>(e0.bs b o e).1
 have lim:s.heap.NoLimit:=e0.mod.nolimit.keeps λb o e=>(e0.bs b o e).1
 have hkind:∀y∈ps.zip us,scope.names.lookup y.1=some .local\/(scope.names.lookup y.1=some .cell/\((cellsFrom (s.heap.objs.size+1) scope.names []).lookup y.1).isSome=true):=λ⟨n,v⟩ hy=>by
  rcases S.par n (List.of_mem_zip hy).1 with q|q
  · exact .inl q
  · exact .inr ⟨q,PySem.W.cellsFrom_some _ _ _ (.inl q)⟩
 refine codeAny_call_function hr.depth (KX _ _ lk) rfl S.co S.gen rfl (PySem.W.codeRec_of KX hcd) (hb _ _ _ _ ?_);refine wpAny_newFunctionEnv_cells S.kind hkind λenv he s1 x => ?_
 subst he;refine⟨lim.keeps x.toInCall.keep,codeAny_func ?_⟩;obtain⟨t,ht,hq⟩:=hbody A outer s H vs Q E (hr.deeper _) hsp;have I:Inv (XG CX P w K mg base N qual scope f cdv A outer s H E) [] (start N vs) H s1:=Zds S hr.hd e0 hl r x;refine wpAny_mono (ht [] s1 (start N vs) H _ I hq) (λfl s' hs => ?_) λe s' hs=>hs
 have fin:∀{σ':St}{H':Hp}{v:V}{u:Value},Inv (XG CX P w K mg base N qual scope f cdv A outer s H E) [] σ' H' s'->RelV v u->Q v H'->CE outer P w H s Q u s':=
  λ{σ' H' v u} J rv q=>⟨v,H',J.os,J.bare,J.base,J.hok,rv,q⟩
 cases fl with
 |ret u=>
  obtain⟨v,σ',H',J,rv,q⟩:=hs;exact fin J rv q
 |next=>
  obtain⟨σ',H',J,q⟩:=hs;exact fin (v:=V.non) (u:=Value.none) J rfl q
 |brk=>
  obtain⟨_,_,_,q⟩:=hs;exact False.elim q
 |cont=>
  obtain⟨_,_,_,q⟩:=hs;exact False.elim q
end L2
namespace L2
open PySem PySem.Spec PyProof.Rows
section
variable{X:Cx}{x:Str}{p pos:Pos}{e:Expr}{es:List Expr}{t:TA}{id T:String}{r:List V->Hp->VK->Prop}
def tCB(r:List V->Hp->VK->Prop)(t:TA):TE:=λσ H Q=>t σ H λvs H1=>r vs H1 Q
theorem Yk (hc:YI X (.builtin id) r) (hg:Gl X x) (hm:X.mg x=none) (hv:bootBuiltins x=some (.builtin id)) (ha:PA X (e::es) t) (hn:x ≠ "__name__" := by decide) (hdb:(x == ("__debug__" : Str))=false:=by decide)
 (he:starEach (e::es) X.env=(false,eval e X.env)::starEach es X.env:=by rfl) (hpl:(backTo pos (starEach es X.env)).any (·.1)=false:=by rfl):PE X (.Call (.Name x p) (e::es) [] pos) (tCB r t):=by
 intro pins s σ H Q I h;refine wpAny_Call_Name_kw (Uk I hg hm hv ?_ hn hdb);exact PyProof.Rows.callWith_builtin1 (thn (ha pos pins s σ H _ I h) λus s1 ⟨vs,H1,I1,r1,q1⟩=>hc pins s1 σ H1 vs us Q I1 r1 q1) he hpl
theorem Vg (hc:YI X (.type T) r) (hg:Gl X x) (hm:X.mg x=none) (hv:bootBuiltins x=some (.type T)) (ha:PA X (e::es) t) (hn:x ≠ "__name__" := by decide) (hdb:(x == ("__debug__" : Str))=false:=by decide)
 (he:starEach (e::es) X.env=(false,eval e X.env)::starEach es X.env:=by rfl) (hpl:(backTo pos (starEach es X.env)).any (·.1)=false:=by rfl):PE X (.Call (.Name x p) (e::es) [] pos) (tCB r t):=by
 intro pins s σ H Q I h;refine wpAny_Call_Name_kw (Uk I hg hm hv ?_ hn hdb);exact PyProof.Rows.callWith_type1 (thn (ha pos pins s σ H _ I h) λus s1 ⟨vs,H1,I1,r1,q1⟩=>hc pins s1 σ H1 vs us Q I1 r1 q1) he hpl
end
end L2
namespace HT
open PySem PyProof.Rows
section
open PySem.SeqAt
open PySem.AutoSeq1 (wpAny_loadPart')
open PySem.MeetsSeq PySem.MeetsSeq2 PySem.MeetsSeq3
end
section
variable{prog:Program}{w:World}{A:Around}{E:Value->Shared->Prop}{s:Shared}
def sIx(n d:Nat):Option Int->Nat
 |none=>d
 |some v=>if v<0 then(v+(n:Int)).toNat else min v.toNat n
theorem ZgN(n d:Nat)(hd:d<=n)(o:Option Int):sIx n d o<=n:=by
 cases o with
 |none=>exact hd
 |some v=>
  show(if v<0 then(v+(n:Int)).toNat else min v.toNat n)<=n
  by_cases hv:v<0
  · rw [if_pos hv];omega
  · rw [if_neg hv];exact Nat.min_le_right _ _
theorem Zc1(v:Int)(n d:Nat):(if v<0 then max (v+(n:Int)) 0 else min v (n:Int))=((sIx n d (some v):Nat):Int):=by
 show(if v<0 then max (v+(n:Int)) 0 else min v (n:Int))=(((if v<0 then(v+(n:Int)).toNat else min v.toNat n):Nat):Int)
 by_cases hv:v<0
 · simp only [if_pos hv];omega
 · simp only [if_neg hv];omega
theorem Zcv(lo hi:Option Int)(n:Nat):Builtin.Slice.sliceAdjust lo hi 1 (n:Int)=(((sIx n 0 lo:Nat):Int),((sIx n n hi:Nat):Int)):=by
 have h1:¬((1:Int)<0):=by omega
 unfold Builtin.Slice.sliceAdjust;simp only [h1,if_false];refine Prod.ext ?_ ?_
 · cases lo with
   |none=>rfl
   |some v=>exact Zc1 v n 0
 · cases hi with
   |none=>rfl
   |some v=>exact Zc1 v n n
theorem Zcw(i j:Nat):Builtin.Slice.slicePlaces (i:Int) (j:Int) 1=j-i:=by
 unfold Builtin.Slice.slicePlaces;have h1:(1:Int)>0:=by omega
 simp only [h1,if_true,Int.ediv_one]
 split<;>omega
theorem ZaH{v:Value}{o:Option Int}{Q:Option Int->Shared->Prop}(p:IsPart v o)(h:Q o s):wpAny (model prog w) A (Builtin.Slice.slicePartIndex v) Q E s:=by
 cases p with
 |none=>exact slicePart_none h
 |int i t=>exact slicePart_int h
theorem Zar {sl:Addr} {vl vu:Value} {lo hi:Option Int} {n:Nat} {Q:Int×Int×Nat->Shared->Prop} (hs:s.heap.IsSliceOf sl vl vu .none) (pl:IsPart vl lo) (pu:IsPart vu hi)
 (h:Q (((sIx n 0 lo:Nat):Int),1,sIx n n hi-sIx n 0 lo) s):wpAny (model prog w) A (Builtin.Slice.sliceApplied (.ref sl) (pure (n:Int))) Q E s:=by
 obtain⟨os,hos,hcs,hds⟩:=id hs;unfold Builtin.Slice.sliceApplied Builtin.Slice.sliceFields;refine wpAny_bind (wpAny_bind (wpAny_field hos hds (x:=vl) rfl (wpAny_bind (wpAny_field hos hds (x:=vu) rfl (wpAny_bind (wpAny_field hos hds (x:=.none) rfl (wpAny_pure ?_)))))));refine wpAny_bind (slicePart_none ?_);show wpAny _ _ (if((1:Int) == 0)=true then _ else _) _ _ s;rw [if_neg (by decide)]
 refine wpAny_bind (ZaH pl (wpAny_bind (ZaH pu (wpAny_bind (wpAny_pure ?_)))));show wpAny _ _ (match Builtin.Slice.sliceAdjust lo hi 1 (n:Int)with|(lo,hi)=>pure (lo,(1:Int),Builtin.Slice.slicePlaces lo hi 1)) _ _ s;rw [Zcv lo hi n];show wpAny _ _ (pure (((sIx n 0 lo:Nat):Int),(1:Int),Builtin.Slice.slicePlaces ((sIx n 0 lo:Nat):Int) ((sIx n n hi:Nat):Int) 1)) _ _ s;rw [Zcw]
 exact wpAny_pure h
theorem Zd5(xs:Array Value)(i k:Nat):((List.range k).filterMap λ(m:Nat)=>xs[((i:Int)+(m:Int)*1).toNat]?).toArray=((xs.toList.drop i).take k).toArray:=by
 have e:(λ(m:Nat)=>xs[((i:Int)+(m:Int)*1).toNat]?)=λm=>xs[i+m]? := by
  funext m
  have:((i:Int)+(m:Int)*1).toNat=i+m:=by omega
  rw [this]
 rw [e];have:=pick_run xs i k;rw [List.filterMap_map]at this;have e2:((λx=>xs[x]?)∘λx=>i+x)=λm=>xs[i+m]? := rfl
 rw [e2]at this;rw [this]
theorem getItem_tuple_cut {t sl:Addr} {items:Array Value} {vl vu:Value} {lo hi:Option Int} {Q:Value->Shared->Prop} (ht:IsTup s.heap t items) (hs:s.heap.IsSliceOf sl vl vu .none) (pl:IsPart vl lo) (pu:IsPart vu hi)
 (hw:¬(sIx items.size 0 lo=0/\sIx items.size items.size hi=items.size))
 (h:Q (.ref s.heap.objs.size) { s with heap:=s.heap.push { cls := .type "tuple",data := .seq ((items.toList.drop (sIx items.size 0 lo)).take (sIx items.size items.size hi-sIx items.size 0 lo)).toArray } })
 (hsz:items.size<=sizeLine):wpAny (model prog w) A (getItem (.ref t) (.ref sl)) Q E s:=by
 have htake:sizeOk (.seq ((items.toList.drop (sIx items.size 0 lo)).take (sIx items.size items.size hi-sIx items.size 0 lo)).toArray):=by
  show((items.toList.drop (sIx items.size 0 lo)).take (sIx items.size items.size hi-sIx items.size 0 lo)).toArray.size<=sizeLine;rw [List.size_toArray,List.length_take,List.length_drop,Array.length_toList];omega
 have hj:sIx items.size items.size hi<=items.size:=ZgN _ _ (Nat.le_refl _) hi;obtain⟨os,hos,hcs,hds⟩:=id hs;have hTs:s.TypeIs (.ref sl) "slice" := ⟨os,hos,hcs⟩
 unfold getItem
 try with_reducible refine wpAny_holding ?_
 first|refine wpAny_bind (wpAny_pure ?_)|skip
 refine wpAny_bind (wpAny_sequenceKey ht.typeIs (by decide) ?_)
 refine wpAny_bind (wpAny_callSpecial?_slot (name:=Str.ofString "__getitem__") ht.typeIs PyProof.Rows.slot_tuple_getitem
  (wpAny_call_entry PyProof.Rows.slot_tuple_getitem ht.typeIs entry_tuple_getitem ?_ (args_tuple_getitem _ _)))
 show wpAny _ _ (Builtin.Tuple.tupleItemsOf (.ref t) >>= _) _ _ s;refine wpAny_bind (tupleItemsOf_ ht ?_);refine wpAny_bind (wpAny_typeOf hTs ?_);rw [if_pos (by decide)];refine wpAny_bind (Zar hs pl pu ?_)
 have hno:¬((((sIx items.size 0 lo:Nat):Int) == 0&&(1:Int) == 1&&(sIx items.size items.size hi-sIx items.size 0 lo) == items.size)=true):=by
  intro q;rw [Bool.and_eq_true,Bool.and_eq_true]at q;have q1:((sIx items.size 0 lo:Nat):Int)=0:=eq_of_beq q.1.1;have q2:sIx items.size items.size hi-sIx items.size 0 lo=items.size:=eq_of_beq q.2;exact hw ⟨by omega,by omega⟩
 show wpAny _ _ (if(((sIx items.size 0 lo:Nat):Int) == 0&&(1:Int) == 1&&(sIx items.size items.size hi-sIx items.size 0 lo) == items.size)=true then _ else _) _ _ s;rw [if_neg hno,Zd5]
 first
  |exact wpAny_bind (m:=Builtin.Tuple.tupleExact _) (wpAny_newObj_type (wpAny_pure ⟨_,rfl,wpAny_pure h⟩) htake)
  |exact wpAny_bind (m:=Builtin.Tuple.tupleExact _) (wpAny_newObj_type (wpAny_bind (wpAny_pure (wpAny_pure ⟨_,rfl,wpAny_pure h⟩))) htake)
  |exact wpAny_bind (wpAny_bind (m:=Builtin.Tuple.tupleExact _) (wpAny_newObj_type (wpAny_pure (wpAny_pure ⟨_,rfl,wpAny_pure h⟩)) htake))
  |exact wpAny_bind (wpAny_bind (m:=Builtin.Tuple.tupleExact _) (wpAny_newObj_type (wpAny_pure ⟨_,rfl,wpAny_pure h⟩) htake))
end
end HT
namespace L2
open PySem PySem.Spec PyProof.Rows
abbrev TO:=St->Hp->(Option Int->Hp->Prop)->Prop
def PO(X:Cx)(e:Option Expr)(t:TO):Prop:=
 ∀(pins:List (Addr×Obj))(s:Shared)(σ:St)(H:Hp)(Q:Option Int->Hp->Prop),Inv X pins σ H s->t σ H Q ->
  wpAny (model X.prog X.w) X.A (evalPart e X.env) (λu s'=>∃o H',Inv X pins σ H' s'/\IsPart u o/\Q o H') X.xe s
def tNoPart:TO:=λ_ H Q=>Q none H
def Zgf(t:TE):TO:=λσ H Q=>t σ H λx H1=>∃i,x = .int i/\Q (some i) H1
section
variable{X:Cx}{e:Expr}{te:TE}{lo hi:Option Expr}{tl th:TO}{pos p2:Pos}
theorem Qw:PO X none tNoPart:=by
 intro pins s σ H Q I h;rw [evalPart_none];exact wpAny_pure ⟨none,H,I,.none,h⟩
theorem Qx(h:PE X e te):PO X (some e) (Zgf te):=by
 intro pins s σ H Q I hw;rw [evalPart_some];refine thn (h pins s σ H _ I hw) λu s1 ⟨x,H1,I1,r1,q1⟩ => ?_
 obtain⟨i,rfl,q⟩:=q1;obtain⟨t,rfl⟩:=r1;exact⟨some i,H1,I1,.int i t,q⟩
def SlR(X:Cx)(r:V->Option Int->Option Int->Hp->VK->Prop):Prop:=
 ∀(pins:List (Addr×Obj))(s:Shared)(σ:St)(H:Hp)(x:V)(v vl vu:Value)(lo hi:Option Int)(sl:Addr)(Q:VK),Inv X pins σ H s->RelV x v->s.heap.IsSliceOf sl vl vu .none->IsPart vl lo->IsPart vu hi->r x lo hi H Q ->
  ∃T id,typeLookup (.type T) "__getitem__" = pure (some (.builtin id))/\s.TypeIs v T/\wpAny (model X.prog X.w) X.A (getItem v (.ref sl)) (EP X pins σ Q) X.xe s
theorem SlR.or{r r':V->Option Int->Option Int->Hp->VK->Prop}(h:SlR X r)(h':SlR X r'):SlR X (λx lo hi H Q=>r x lo hi H Q\/r' x lo hi H Q):=by
 intro pins s σ H x v vl vu lo hi sl Q I rx hs pl pu q;rcases q with q|q
 · exact h pins s σ H x v vl vu lo hi sl Q I rx hs pl pu q
 · exact h' pins s σ H x v vl vu lo hi sl Q I rx hs pl pu q
def tSl(r:V->Option Int->Option Int->Hp->VK->Prop)(te:TE)(tl th:TO):TE:=λσ H Q=>te σ H λx H1=>tl σ H1 λl H2=>th σ H2 λu H3=>r x l u H3 Q
theorem Qy{r:V->Option Int->Option Int->Hp->VK->Prop}(hr:SlR X r)(he:PE X e te)(hl:PO X lo tl)(hu:PO X hi th):PE X (.Subscript e (.Slice lo hi none p2) pos) (tSl r te tl th):=by
 intro pins s σ H Q I h;refine Subscript_ (thn (he pins s σ H _ I h) λv s1 ⟨x,H1,I1,r1,q1⟩ => ?_);refine wpAny_Slice (thn (hl pins s1 σ H1 _ I1 q1) λvl s2 ⟨l,H2,I2,pl,q2⟩=>thn (hu pins s2 σ H2 _ I2 q2) λvu s3 ⟨u,H3,I3,pu,q3⟩ => ?_);rw [evalPart_none];refine wpAny_pure ?_;have I4:Inv X pins σ H3 { s3 with heap:=s3.heap.push { cls := .type "slice",data := .fields #[vl,vu,.none] } }:=I3.kept (t':=s3.toks) λb ob q=>Heap.get?_push_of_some _ q
 obtain⟨T,id,hT,ht,hg⟩:=hr pins { s3 with heap:=s3.heap.push { cls := .type "slice",data := .fields #[vl,vu,.none] } } σ H3 x v vl vu l u s3.heap.objs.size Q I4 r1 (Heap.IsSliceOf.new ..) pl pu q3;show wpAny (model X.prog X.w) X.A (subscriptTail e (.Slice lo hi none p2) v (.ref s3.heap.objs.size)) (EP X pins σ Q) X.xe { s3 with heap:=s3.heap.push { cls := .type "slice",data := .fields #[vl,vu,.none] } }
 exact tail_any (ops:=[.ref s3.heap.objs.size,v]) ht hT hg (by with_unfolding_all rfl)
def VZ(xs:List V)(lo hi:Option Int):List V:=(xs.drop (HT.sIx xs.length 0 lo)).take (HT.sIx xs.length xs.length hi-HT.sIx xs.length 0 lo)
theorem ZaD(xs:List V)(lo hi:Option Int):(VZ xs lo hi).length<=xs.length:=by
 unfold VZ;rw [List.length_take,List.length_drop];omega
def Zj8(K:PySem.W.Frag):V->Option Int->Option Int->Hp->VK->Prop:=λx lo hi H Q=>∃a xs,x = .ref a/\SqT K H a xs /\
 ¬(HT.sIx xs.length 0 lo=0/\HT.sIx xs.length xs.length hi=xs.length)/\∀p,H p=none->Q (.ref p) (upd H p (.tup (VZ xs lo hi)))
theorem ZgO:SlR X (Zj8 X.K):=by
 intro pins s σ H x v vl vu lo hi sl Q I rx hs pl pu h;obtain⟨a,xs,rfl,hx,hw,q⟩:=h;cases rx;obtain⟨its,r,ht,hz⟩:=I.tuple hx;have hlen:its.toArray.size=xs.length:=by rw [List.size_toArray];exact r.length.symm
 refine⟨"tuple",_,PyProof.Rows.slot_tuple_getitem.lookup,ht.typeIs,?_⟩;refine HT.getItem_tuple_cut ht hs pl pu (by rw [hlen];exact hw) ?_ (by rw [hlen];exact hz);rw [hlen];refine⟨.ref s.heap.objs.size,_,I.laid (t':=s.toks) (o:=.tup (VZ xs lo hi)) (λb ob q=>Heap.get?_push_of_some _ q) (Nat.le_refl _) ?_,rfl,q _ (I.hok.fresh (Nat.le_refl _))⟩;exact⟨Nat.le_trans (ZaD xs lo hi) hz,_,(r.drop (HT.sIx xs.length 0 lo)).take (HT.sIx xs.length xs.length hi-HT.sIx xs.length 0 lo),TupN.new _ _⟩
end
end L2
namespace L2
open PySem PySem.Spec PyProof.Rows
def ixN(n:Nat)(i:Int):Option Nat:=if 0<=i then(if i<n then some i.toNat else none)else if -(n:Int)<=i then some (i+n).toNat else none
def atI{α:Type}(xs:List α)(i:Int):Option α:=(ixN xs.length i).bind λj=>xs[j]?
theorem Zfz{n:Nat}{i:Int}{j:Nat}(h:ixN n i=some j):seqIndex? i n=some j/\j<n /\ -(n:Int)<=i/\i<n:=by
 unfold ixN at h
 by_cases h0:0<=i
 · rw [if_pos h0]at h
   by_cases h1:i<n
   · rw [if_pos h1]at h
     have e:i.toNat=j:=Option.some.inj h;exact⟨by rw [seqIndex_of h0 h1,e],by omega,by omega,h1⟩
   · rw [if_neg h1]at h;cases h
 · rw [if_neg h0]at h
   by_cases h1 : -(n:Int)<=i
   · rw [if_pos h1]at h
     have e:(i+n).toNat=j:=Option.some.inj h;exact⟨by rw [seqIndex_neg (by omega) h1,e],by omega,h1,by omega⟩
   · rw [if_neg h1]at h;cases h
theorem ZbC{α:Type}{xs:List α}{i:Int}{v:α}(h:atI xs i=some v):∃j,seqIndex? i xs.length=some j/\xs[j]? = some v/\j<xs.length /\ -(xs.length:Int)<=i/\i<xs.length:=by
 unfold atI at h;cases e:ixN xs.length i with
 |none=>rw [e]at h;cases h
 |some j=>
  rw [e]at h;obtain⟨h1,h2,h3,h4⟩:=Zfz e;exact⟨j,h1,h,h2,h3,h4⟩
theorem Qz{α:Type}{xs:List α}{j:Nat}{v:α}(h:xs[j]? = some v):atI xs (j:Int)=some v:=by
 have hj:j<xs.length:=(List.getElem?_eq_some_iff.mp h).1
 have e:ixN xs.length (j:Int)=some j:=by
  unfold ixN;rw [if_pos (by omega),if_pos (by omega)];simp
 unfold atI;rw [e];exact h
theorem Zd6{α:Type}(xs:List α)(v:α):atI (xs++[v]) (-1)=some v:=by
 have hl:(xs++[v]).length=xs.length+1:=by simp
 have e:ixN (xs++[v]).length (-1)=some xs.length:=by
  unfold ixN;rw [hl,if_neg (by decide),if_pos (by omega)]
  congr 1
  omega
 unfold atI;rw [e];show(xs++[v])[xs.length]? = some v;simp
def ZfA(b:Expr):Prop:=∀o i,subscripted b false o i=operate [o,i] (getItem o i)
def IxR(X:Cx)(r:R2):Prop:=
 ∀(value slice:Expr)(pins:List (Addr×Obj))(s:Shared)(σ:St)(H:Hp)(x y:V)(v u:Value)(Q:VK),Inv X pins σ H s->RelV x v->RelV y u->r x y H Q ->
  subscripted slice false v u=operate [v,u] (getItem v u)->wpAny (model X.prog X.w) X.A (subscriptTail value slice v u) (EP X pins σ Q) X.xe s
def MtR(X:Cx)(id:String)(r:V->List V->Hp->VK->Prop):Prop:=
 ∀(pins:List (Addr×Obj))(s:Shared)(σ:St)(H:Hp)(x:V)(xs:List V)(v:Value)(us:List Value)(Q:VK),Inv X pins σ H s->RelV x v->Vals xs us->r x xs H Q ->
  wpAny (model X.prog X.w) X.A (call (.builtin id) (v::us)) (EP X pins σ Q) X.xe s
section
variable{X:Cx}{a b:Expr}{ta tb:TE}{pos:Pos}
theorem IxR.or{r r':R2}(h:IxR X r)(h':IxR X r'):IxR X (λx y H Q=>r x y H Q\/r' x y H Q):=by
 intro value slice pins s σ H x y v u Q I rx ry q hs;rcases q with q|q
 · exact h value slice pins s σ H x y v u Q I rx ry q hs
 · exact h' value slice pins s σ H x y v u Q I rx ry q hs
theorem Z0{r:R2}(hr:IxR X r)(ha:PE X a ta)(hb:PE X b tb)(hs:ZfA b):PE X (.Subscript a b pos) (tOp r ta tb):=by
 intro pins s σ H Q I h;exact Subscript_ (Zij ha hb I h λv u s2 x y H2 I2 rx ry q=>hr a b pins s2 σ H2 x y v u Q I2 rx ry q (hs _ _))
def Zj9(K:PySem.W.Frag):R2:=λx y H Q=>∃p xs i v,x = .ref p/\y = .int i/\SqL K H p xs/\atI xs i=some v/\Q v H
def Zka(K:PySem.W.Frag):R2:=λx y H Q=>∃p xs i v,x = .ref p/\y = .int i/\SqT K H p xs/\atI xs i=some v/\Q v H
def rIxS:R2:=λx y H Q=>∃z i c,x = .str z/\y = .int i/\z.length<=sizeLine/\atI z.cps.toList i=some c/\Q (.str ⟨#[c]⟩) H
theorem ix_list:IxR X (Zj9 X.K):=by
 intro value slice pins s σ H x y v u Q I rx ry h hs;obtain⟨p,xs,i,z,rfl,rfl,hq,he,q⟩:=h;cases rx;obtain⟨t,rfl⟩:=ry;obtain⟨its,r,pl,hz⟩:=I.list hq;obtain⟨j,h1,h2,h3,h4,h5⟩:=ZbC he;obtain⟨w,ew,rw'⟩:=r.get h2;have hl:=r.length;have hn:=Qu;have fin:EP X pins σ Q w s:=⟨z,H,I,rw',q⟩
 by_cases h0:0<=i
 · have hj : i.toNat = j := by
    rw [seqIndex_of h0 h5]at h1;exact Option.some.inj h1
   exact item_listR pl.isList h0 (by omega) (by rw [hj];simpa using ew) fin hs
 · have hj : (i + (its.toArray.size : Int)).toNat = j := by
    rw [seqIndex_neg (by omega) h4]at h1;rw [List.size_toArray,<-hl];exact Option.some.inj h1
   exact subscriptTail_builtinR (x:=w) pl.isList.typeIs slot_list_getitem.lookup
    (wpAny_getItem_list_neg (Q:=λr s'=>r=w/\EP X pins σ Q r s') pl.isList (by omega) (by rw [List.size_toArray]<;>omega) (by omega) (by rw [hj];simpa using ew) ⟨rfl,fin⟩) hs
theorem ix_tup:IxR X (Zka X.K):=by
 intro value slice pins s σ H x y v u Q I rx ry h hs;obtain⟨p,xs,i,z,rfl,rfl,hq,he,q⟩:=h;cases rx;obtain⟨t,rfl⟩:=ry;obtain⟨its,r,pl,hz⟩:=I.tuple hq;obtain⟨j,h1,h2,h3,h4,h5⟩:=ZbC he;obtain⟨w,ew,rw'⟩:=r.get h2;have hl:=r.length;have hn:=Qu;have fin:EP X pins σ Q w s:=⟨z,H,I,rw',q⟩
 exact subscriptTail_builtinR (x:=w) pl.typeIs slot_tuple_getitem.lookup
  (getItem_tuple (j:=j) (Q:=λr s'=>r=w/\EP X pins σ Q r s') pl (by omega) (by omega) (by rw [List.size_toArray,<-hl];exact h1) (by simpa using ew) ⟨rfl,fin⟩) hs
theorem ix_str:IxR X rIxS:=by
 intro value slice pins s σ H x y v u Q I rx ry h hs;obtain⟨z,i,c,rfl,rfl,hz,he,q⟩:=h;obtain⟨t,rfl⟩:=rx;obtain⟨t',rfl⟩:=ry;obtain⟨j,h1,h2,h3,h4,h5⟩:=ZbC he;have hl:z.cps.toList.length=z.length:=by simp [Str.length]
 rw [hl]at h1 h4 h5;have hn:=Qu
 exact tail_any (typeIs_str s z t) slot_str_getitem.lookup (getItem_str (c:=c) (by
  have e1:decide (i < -(2 ^ 63:Int))=false:=decide_eq_false (by omega);have e2:decide (i ≥ 2 ^ 63)=false:=decide_eq_false (by omega);rw [e1,e2,Bool.or_false]) (by rw [h1];simpa using h2) ⟨.str ⟨#[c]⟩,H,I.tok _,⟨_,rfl⟩,q⟩) hs
theorem Inv.lst{pins:List (Addr×Obj)}{σ:St}{H:Hp}{s:Shared}{p:Addr}{xs:List V}(I:Inv X pins σ H s)(h:H p=some (.lst xs)) :
 ∃(its:List Value) (n:Nat),Vals xs its/\s.heap.get? p=some { cls := .type "list",data := .seq its.toArray n }/\xs.length<=sizeLine:=by
 obtain⟨z,its,n,r,e⟩:=I.hok p _ h;exact⟨its,n,r,e,z⟩
theorem Zbu(lo hi:Option Int)(n:Nat):(sliceBounds lo hi none n).1=((HT.sIx n 0 lo:Nat):Int)/\(sliceBounds lo hi none n).2.1=((HT.sIx n n hi:Nat):Int)/\(sliceBounds lo hi none n).2.2=1:=by
 refine⟨?_,?_,rfl⟩
 · cases lo with
   |none=>simp [sliceBounds,HT.sIx]
   |some i=>
    simp only [sliceBounds,HT.sIx,Option.getD_none,show(1:Int)>0 by decide,if_true]
    by_cases h:i<0
    · simp only [h,if_true]<;>omega
    · simp only [h,if_false]<;>omega
 · cases hi with
   |none=>simp [sliceBounds,HT.sIx]
   |some i=>
    simp only [sliceBounds,HT.sIx,Option.getD_none,show(1:Int)>0 by decide,if_true]
    by_cases h:i<0
    · simp only [h,if_true]<;>omega
    · simp only [h,if_false]<;>omega
theorem Za6(its:List Value)(lo hi:Option Int):slicePick its.toArray lo hi none=((its.drop (HT.sIx its.length 0 lo)).take (HT.sIx its.length its.length hi-HT.sIx its.length 0 lo)).toArray:=by
 obtain⟨h1,h2,h3⟩:=Zbu lo hi its.toArray.size;unfold slicePick;rw [h1,h2,h3];simp only [sliceRange_one,pick_run,List.size_toArray]<;>rfl
def Zkb(K:PySem.W.Frag):V->Option Int->Option Int->Hp->VK->Prop:=λx lo hi H Q=>∃a xs,x = .ref a/\SqL K H a xs/\∀p,H p=none->Q (.ref p) (upd H p (.lst (VZ xs lo hi)))
theorem sl_list:SlR X (Zkb X.K):=by
 intro pins s σ H x v vl vu lo hi sl Q I rx hs pl pu h;obtain⟨a,xs,rfl,hx,q⟩:=h;cases rx;obtain⟨its,r,ht,hz⟩:=I.list hx;have hlen:=r.length;refine⟨"list",_,slot_list_getitem.lookup,ht.isList.typeIs,?_⟩;refine wpAny_getItem_list_slice ht.isList hs pl pu .none (by simp) ?_ (by rw [List.size_toArray]<;>omega);rw [Za6,<-hlen];refine⟨.ref s.heap.objs.size,_,I.laid (t':=s.toks) (o:=.lst (VZ xs lo hi)) (λb ob q=>Heap.get?_push_of_some _ q) (Nat.le_refl _) ?_,rfl,q _ (I.hok.fresh (Nat.le_refl _))⟩
 exact⟨Nat.le_trans (ZaD xs lo hi) hz,_,0,(r.drop (HT.sIx xs.length 0 lo)).take (HT.sIx xs.length xs.length hi-HT.sIx xs.length 0 lo),Heap.get?_push_size _ rfl⟩
def Vh:V->Bool
 | .non=>true
 | .bl _=>true
 | .int _=>true
 | .str _=>true
 |_=>false
def eqV:V->V->Bool
 | .non,.non=>true
 | .bl a,.bl b=>a == b
 | .bl a,.int b=>(if a then 1 else 0) == b
 | .int a,.bl b=>a == (if b then 1 else 0)
 | .int a,.int b=>a == b
 | .str a,.str b=>a == b
 |_,_=>false
theorem ZgP{A:Around}{s:Shared}{y x:V}{u v:Value}(ry:RelV y u)(rx:RelV x v)(fy:Vh y=true)(fx:Vh x=true):SeqAt.EqAt A s u v (eqV y x):=by
 cases y with
 |non=>
  cases ry;cases x with
  |non=>cases rx;exact SeqAt.EqAt.same _
  |bl b=>cases rx;exact SeqAt.EqAt.none_bool b
  |int b=>obtain⟨t,rfl⟩:=rx;exact SeqAt.EqAt.none_int b t
  |str b=>obtain⟨t,rfl⟩:=rx;exact SeqAt.EqAt.none_str b t
  |_=>exact absurd (show false=true from fx) Bool.false_ne_true
 |bl a=>
  cases ry;cases x with
  |non=>cases rx;exact SeqAt.EqAt.bool_none a
  |bl b=>cases rx;exact SeqAt.EqAt.bool_bool a b
  |int b=>obtain⟨t,rfl⟩:=rx;exact SeqAt.EqAt.bool_int a b t
  |str b=>obtain⟨t,rfl⟩:=rx;exact SeqAt.EqAt.bool_str a b t
  |_=>exact absurd (show false=true from fx) Bool.false_ne_true
 |int a=>
  obtain⟨t',rfl⟩:=ry;cases x with
  |non=>cases rx;exact SeqAt.EqAt.int_none a t'
  |bl b=>cases rx;exact SeqAt.EqAt.int_bool a t' b
  |int b=>obtain⟨t,rfl⟩:=rx;exact SeqAt.EqAt.int_int a t' b t
  |str b=>obtain⟨t,rfl⟩:=rx;exact SeqAt.EqAt.int_str a t' b t
  |_=>exact absurd (show false=true from fx) Bool.false_ne_true
 |str a=>
  obtain⟨t',rfl⟩:=ry;cases x with
  |non=>cases rx;exact SeqAt.EqAt.str_none a t'
  |bl b=>cases rx;exact SeqAt.EqAt.str_bool a t' b
  |int b=>obtain⟨t,rfl⟩:=rx;exact SeqAt.EqAt.str_int a t' b t
  |str b=>obtain⟨t,rfl⟩:=rx;exact SeqAt.EqAt.str_str a t' b t
  |_=>exact absurd (show false=true from fx) Bool.false_ne_true
 |_=>exact absurd (show false=true from fy) Bool.false_ne_true
def eqU(x:V)(u:Value):Bool:=match u with
 | .none=>eqV .non x
 | .bool b=>eqV (.bl b) x
 | .int i _=>eqV (.int i) x
 | .str z _=>eqV (.str z) x
 |_=>false
theorem ZeT{x y:V}{u:Value}(r:RelV y u)(f:Vh y=true):eqU x u=eqV y x:=by
 cases y with
 |non=>cases r;rfl
 |bl b=>cases r;rfl
 |int i=>obtain⟨t,rfl⟩:=r;rfl
 |str z=>obtain⟨t,rfl⟩:=r;rfl
 |_=>exact absurd (show false=true from f) Bool.false_ne_true
theorem ZbD{x:V}:∀{xs:List V}{us:List Value},Vals xs us->xs.all Vh=true->us.any (eqU x)=xs.any λy=>eqV y x
 |_,_,.nil,_=>rfl
 |y::xs,u::us,.cons r t,f=>by
  rw [List.all_cons,Bool.and_eq_true]at f;rw [List.any_cons,List.any_cons,ZeT r f.1,ZbD t f.2]
theorem ZaV{A:Around}{s:Shared}{x:V}{v:Value}(rx:RelV x v)(fx:Vh x=true):∀{xs:List V}{us:List Value},Vals xs us->xs.all Vh=true->∀u∈us,SeqAt.EqAt A s u v (eqU x u)
 |_,_,.nil,_=>λu hu=>by cases hu
 |y::xs,u::us,.cons r t,f=>λu' hu=>by
  rw [List.all_cons,Bool.and_eq_true]at f;rcases List.mem_cons.mp hu with rfl|hu
  · rw [ZeT r f.1];exact ZgP r rx f.1 fx
  · exact ZaV rx fx t f.2 u' hu
def inV(x:V)(xs:List V):Bool:=xs.any λy=>eqV y x
def rIn(K:PySem.W.Frag)(neg:Bool):R2:=λx y H Q=>∃p xs,y = .ref p/\(SqL K H p xs\/SqT K H p xs)/\Vh x=true/\xs.all Vh=true/\Q (.bl (if neg then !inV x xs else inV x xs)) H
theorem Zdt:OpR X (compareOp .In) (rIn X.K false):=by
 intro pins s σ H x y v u Q I rx ry h;obtain⟨p,xs,rfl,hq,fx,fs,q⟩:=h;cases ry;rcases hq with hq|hq
 · obtain⟨its,r,pl,hz⟩:=I.list hq
   refine SeqAt.in_listAt (eqU x) pl.isList (λw hw=>ZaV rx fx r fs w (by simpa using hw)) ⟨.bl _,H,I,rfl,?_⟩;rw [show its.toArray.any (eqU x)=its.any (eqU x) by simp,ZbD r fs];exact q
 · obtain⟨its,r,pl,hz⟩:=I.tuple hq
   refine SeqAt.in_tupleAt (eqU x) pl (λw hw=>ZaV rx fx r fs w (by simpa using hw)) ⟨.bl _,H,I,rfl,?_⟩;rw [show its.toArray.any (eqU x)=its.any (eqU x) by simp,ZbD r fs];exact q
theorem Zbv:YI X (.builtin "len") (λxs H Q=>∃p ys,xs=[.ref p]/\(SqL X.K H p ys\/SqT X.K H p ys)/\Q (.int ys.length) H):=by
 intro pins s σ H xs us Q I r h;obtain⟨p,ys,rfl,hq,q⟩:=h;obtain⟨u,rfl,rx⟩:=Y2 r;cases rx;have hn:=Qu;rcases hq with hq|hq
 · obtain⟨its,r',pl,hz⟩:=I.list hq
   have hlen:=r'.length;exact Calls.call_len_list pl.isList (by simp only [List.size_toArray]<;>omega) ⟨.int ys.length,H,I.tok _,⟨s.toks+1,by rw [List.size_toArray,hlen]⟩,q⟩
 · obtain⟨its,r',pl,hz⟩:=I.tuple hq
   have hlen:=r'.length;exact len_tuple pl (by simp only [List.size_toArray]<;>omega) ⟨.int ys.length,H,I.tok _,⟨s.toks+1,by rw [List.size_toArray,hlen]⟩,q⟩
theorem Zbw:YI X (.builtin "len") (λxs H Q=>∃z,xs=[.str z]/\z.length<=sizeLine/\Q (.int z.length) H):=by
 intro pins s σ H xs us Q I r h;obtain⟨z,rfl,hz,q⟩:=h;obtain⟨u,rfl,t,rfl⟩:=Y2 r;have hn:=Qu;exact len_str (by omega) ⟨.int z.length,H,I.tok _,⟨_,rfl⟩,q⟩
theorem Zbx:YI X (.type "list") (λxs H Q=>∃p ys,xs=[.ref p]/\(SqL X.K H p ys\/SqT X.K H p ys)/\∀l,H l=none->Q (.ref l) (upd H l (.lst ys))):=by
 intro pins s σ H xs us Q I r h;obtain⟨p,ys,rfl,hq,q⟩:=h;obtain⟨u,rfl,rx⟩:=Y2 r;cases rx
 have fin:∀(its:List Value),Vals ys its->ys.length<=sizeLine->∀(h':Heap)(c':Nat),(∀b o',s.heap.get? b=some o'->h'.get? b=some o') ->
  h'.get? s.heap.objs.size=some { cls := .type "list",dict:=none,data := .seq its.toArray c',slots := #[] }->EP X pins σ Q (.ref s.heap.objs.size) { s with heap:=h' }:=λits r' hz h' c' kp e=>
  ⟨.ref s.heap.objs.size,_,I.laid (t':=s.toks) kp (Nat.le_refl _) (show ObjOk X.prog X.w _ h' _ (.lst ys)from⟨hz,its,c',r',e⟩),rfl,q _ (I.hok.fresh (Nat.le_refl _))⟩
 rcases hq with hq|hq
 · obtain⟨its,r',pl,hz⟩:=I.list hq
   have hlen:=r'.length;obtain⟨o,ho,hc,n,hd⟩:=pl.isList;exact call_list_seq p (.inl rfl) ho hc hd (λh' c' kp e=>fin its r' hz h' c' kp e) (by simp only [List.size_toArray]<;>omega)
 · obtain⟨its,r',pl,hz⟩:=I.tuple hq
   have hlen:=r'.length;obtain⟨o,ho,hc,n,hd⟩:=pl;exact call_list_seq p (.inr rfl) ho hc hd (λh' c' kp e=>fin its r' hz h' c' kp e) (by simp only [List.size_toArray]<;>omega)
theorem Za7:YI X (.type "tuple") (λxs H Q=>∃p ys,xs=[.ref p]/\((SqL X.K H p ys/\∀l,H l=none->Q (.ref l) (upd H l (.tup ys)))\/(SqT X.K H p ys/\Q (.ref p) H))):=by
 intro pins s σ H xs us Q I r h;obtain⟨p,ys,rfl,h⟩:=h;obtain⟨u,rfl,rx⟩:=Y2 r;cases rx;rcases h with⟨hq,q⟩|⟨hq,q⟩
 · obtain⟨its,r',pl,hz⟩:=I.list hq
   have hlen:=r'.length;refine call_tuple_list pl.isList (λh' kp => ?_) (by simp only [List.size_toArray]<;>omega);have I1:Inv X pins σ H { s with heap:=h' }:=I.kept (t':=s.toks) kp
   have I2:Inv X pins σ (upd H h'.objs.size (.tup ys)) { s with heap:=h'.push { cls := .type "tuple",data := .seq its.toArray } }:=
    I1.laid (t':=s.toks) (λb o e=>Heap.get?_push_of_some _ e) (Nat.le_refl _) (show ObjOk X.prog X.w _ _ _ (.tup ys)from⟨hz,its,r',TupN.new _ _⟩)
   exact⟨.ref h'.objs.size,_,I2,rfl,q _ (I1.hok.fresh (Nat.le_refl _))⟩
 · obtain⟨its,r',pl,hz⟩:=I.tuple hq
   exact call_tuple_same pl ⟨.ref p,H,I,rfl,q⟩
def tyV(K:PySem.W.Frag)(T:String)(x:V)(H:Hp):Prop:=match x with
 | .str _=>T = "str"
 | .int _=>T = "int"
 | .ref p=>(T = "list" /\ ∃xs,SqL K H p xs)\/(T = "tuple" /\ ∃o,K.lookup p=some o/\o.cls = .type "tuple" /\ o.dict=none) \/
  (T = "dict" /\ ((∃kvs,H p=some (.dK kvs))\/∃kvs,H p=some (.dT kvs)))\/(T = "set" /\ ∃S n,H p=some (.set S n))\/(T = "tuple" /\ ∃xs,H p=some (.tup xs))
 |_=>False
theorem ZeU{pins:List (Addr×Obj)}{σ:St}{H:Hp}{s:Shared}{T:String}{x:V}{v:Value}(I:Inv X pins σ H s)(r:RelV x v)(ty:tyV X.K T x H) :
 s.TypeIs v T/\∀a,v = .ref a->∃ob,s.heap.get? a=some ob/\ob.dict=none:=by
 cases x with
 |str z=>
  obtain⟨t,rfl⟩:=r;cases(show T = "str" from ty);exact⟨typeIs_str s z t,λ_ e=>nomatch e⟩
 |int i=>
  obtain⟨t,rfl⟩:=r;cases(show T = "int" from ty);exact⟨typeIs_int s i t,λ_ e=>nomatch e⟩
 |ref p=>
  cases r;rcases ty with⟨rfl,xs,hq⟩|⟨rfl,o,hk,hc,hd⟩|⟨rfl,hk⟩|⟨rfl,S,n,hk⟩|⟨rfl,xs,hk⟩
  · obtain⟨its,_,pl,_⟩:=I.list hq
    refine⟨pl.isList.typeIs,λa e => ?_⟩;cases e;obtain⟨o,n,e,c,hd,_⟩:=pl;exact⟨o,e,hd⟩
  · refine⟨⟨o,I.kIn p o hk,hc⟩,λa e => ?_⟩
    cases e;exact⟨o,I.kIn _ o hk,hd⟩
  · have z : ∃ o, s.heap.get? p = some o /\ o.ExactDict := by
     rcases hk with⟨kvs,hk⟩|⟨kvs,hk⟩
     · obtain⟨_,_,_,_,o,_,_,e,ex,_⟩:=I.hok p _ hk
       exact⟨o,e,ex⟩
     · obtain⟨_,_,_,_,o,_,_,e,ex,_⟩:=I.hok p _ hk
       exact⟨o,e,ex⟩
    obtain⟨o,e,ex⟩:=z;refine⟨⟨o,e,ex.1⟩,λa e2 => ?_⟩;cases e2;exact⟨o,e,ex.2.1⟩
  · obtain⟨o,_,_,_,e,ex,_⟩:=I.hok p _ hk
    refine⟨⟨o,e,ex.1⟩,λa e2 => ?_⟩;cases e2;exact⟨o,e,ex.2.1⟩
  · obtain⟨_,its,_,o,e,c,_,dn⟩:=(show ObjOk X.prog X.w H s.heap p (.tup xs)from I.hok p _ hk)
    refine⟨⟨o,e,c⟩,λa e2 => ?_⟩;cases e2;exact⟨o,e,dn⟩
 |_=>exact False.elim ty
def Zil(K:PySem.W.Frag)(T:String)(r:V->List V->Hp->VK->Prop)(to:TE):TE:=λσ H Q=>to σ H λx H1=>tyV K T x H1/\r x [] H1 Q
def tBM(K:PySem.W.Frag)(T:String)(r:V->List V->Hp->VK->Prop)(to:TE)(t:TA):TE:=λσ H Q=>to σ H λx H1=>tyV K T x H1/\t σ H1 λxs H2=>r x xs H2 Q
variable{o e:Expr}{es:List Expr}{to:TE}{t:TA}{name:Str}{apos cpos:Pos}{T id:String}{r:V->List V->Hp->VK->Prop}
theorem ZgQ (pa:PlainAttrs T) (slot:Slot T name id) (hty:typeOf (.builtin id)=pure (.type "method_descriptor")) (hm:MtR X id r) (ho:PE X o to)
 (hbase:attributeBase o name X.env (eval o X.env)=eval o X.env:=by rfl) (hline:(apos.endLine == cpos.line)=true:=by rfl):PE X (.Call (.Attribute o name apos) [] [] cpos) (Zil X.K T r to):=by
 intro pins s σ H Q I h;refine wpAny_Call_method0_late hbase hline (thn (ho pins s σ H _ I h) λv s1 ⟨x,H1,I1,r1,ty,q1⟩ => ?_);obtain⟨h1,h2⟩:=ZeU I1 r1 ty;exact⟨T,id,pa,slot,hty,h1,h2,Calls.callWith_builtin rfl (PySem.evalArgs_none (hm pins s1 σ H1 x [] v [] Q I1 r1 .nil q1))⟩
theorem ZiL (pa:PlainAttrs T) (slot:Slot T name id) (hty:typeOf (.builtin id)=pure (.type "method_descriptor")) (hm:MtR X id r) (ho:PE X o to) (ha:PA X (e::es) t)
 (hbase:attributeBase o name X.env (eval o X.env)=eval o X.env:=by rfl)
 (hfew:((backTo cpos (starEach (e::es) X.env)).all (λx => !x.1)&&(backToKw cpos (keywordEach [] X.env)).all (λx=>x.1.isSome)
   && decide ((e::es).length+([]:List Keyword).length+(if([]:List Keyword).isEmpty then 0 else 1)<30))=true:=by rfl)
 (hline:(apos.endLine == cpos.line)=true:=by rfl) (hs:starEach (e::es) X.env=(false,eval e X.env)::starEach es X.env:=by rfl) (hplain:(backTo cpos (starEach es X.env)).any (·.1)=false:=by rfl) :
 PE X (.Call (.Attribute o name apos) (e::es) [] cpos) (tBM X.K T r to t):=by
 intro pins s σ H Q I h;refine wpAny_Call_method_late hbase hfew hline rfl (thn (ho pins s σ H _ I h) λv s1 ⟨x,H1,I1,r1,ty,q1⟩ => ?_);obtain⟨h1,h2⟩:=ZeU I1 r1 ty;refine⟨T,id,pa,slot,hty,h1,h2,?_⟩;have hA:=ha cpos pins s1 σ H1 _ I1 q1;rw [hs]at hA ⊢;refine Calls.callWith_builtin (by show(false||(backTo cpos (starEach es X.env)).any (·.1))=false;rw [hplain]<;>rfl) (Calls.evalArgs_plain ?_)
 exact thn hA λus s2 ⟨vs,H2,I2,r2,q2⟩=>hm pins s2 σ H2 x vs v us Q I2 r1 r2 q2
end
end L2
namespace L2
open PySem PySem.Spec PyProof.Rows
def MtM(X:Cx)(id:String)(r:V->List V->Hp->VK->Prop):Prop:=
 ∀(pins:List (Addr×Obj))(s:Shared)(σ:St)(H:Hp)(x:V)(xs:List V)(v:Value)(us:List Value)(Q:VK),Inv X pins σ H s->RelV x v->Vals xs us->r x xs H Q ->
  wpAny (model X.prog X.w) X.A (call (.builtin id) (v::us)) (EP X pins σ Q) X.xe s
theorem Vals.one:∀{x:V}{us:List Value},Vals [x] us->∃u,us=[u]/\RelV x u
 |_,_,.cons r .nil=>⟨_,rfl,r⟩
theorem Vals.two:∀{x y:V}{us:List Value},Vals [x,y] us->∃u v,us=[u,v]/\RelV x u/\RelV y v
 |_,_,_,.cons r (.cons q .nil)=>⟨_,_,rfl,r,q⟩
theorem Vals.zero:∀{us:List Value},Vals [] us->us=[]
 |_,.nil=>rfl
section
variable{X:Cx}{pins:List (Addr×Obj)}{σ:St}{H:Hp}{s:Shared}{l b:Addr}{xs ys zs:List V}
theorem Inv.lset {its its':List Value} {n:Nat} {f:Array Value->Array Value} {t':Nat} (I:Inv X pins σ H s) (hH:H l=some (.lst xs))
 (e:s.heap.get? l=some { cls := .type "list",data := .seq its.toArray n }) (hf:f its.toArray=its'.toArray) (hv:Vals ys its') (hz:ys.length<=sizeLine) :
 Inv X pins σ (upd H l (.lst ys)) { s with heap:=s.heap.update l (Obj.mapSeq f),toks:=t' }:=by
 have q:=PySem.IsL.update e f;rw [hf]at q;refine I.write (x:=l) (e:=l) (by rw [hH];exact trivial) (.inl rfl) (λb' u hb hu=>(Heap.get?_update_other s.heap (Obj.mapSeq f) (Ne.symm hb)).trans hu) ⟨_,q⟩ ?_;exact⟨hz,its',_,hv,q⟩
theorem Inv.lnew{its:List Value}{t':Nat}(I:Inv X pins σ H s)(hv:Vals ys its)(hz:ys.length<=sizeLine) :
 Inv X pins σ (upd H s.heap.objs.size (.lst ys)) { s with heap:=s.heap.push { cls := .type "list",data := .seq its.toArray },toks:=t' }:=
 I.laid (λ_ _ q=>Heap.get?_push_of_some _ q) (Nat.le_refl _) ⟨hz,its,0,hv,Heap.get?_push_size _ rfl⟩
theorem Inv.fresh(I:Inv X pins σ H s):H s.heap.objs.size=none:=I.hok.fresh (Nat.le_refl _)
theorem Inv.lstM(I:Inv X pins σ H s)(hH:H l=some (.lst xs)):xs.length<=sizeLine/\∃(its:List Value) (n:Nat),Vals xs its/\xs.length=its.length/\s.heap.get? l=some { cls := .type "list",data := .seq its.toArray n }:=by
 obtain⟨z,its,n,r,e⟩:=I.hok l _ hH;exact⟨z,its,n,r,r.length,e⟩
end
section
variable{X:Cx}
def rAppend:V->List V->Hp->VK->Prop:=λx vs H Q=>∃l xs y,x = .ref l/\vs=[y]/\H l=some (.lst xs)/\xs.length<sizeLine/\Q .non (upd H l (.lst (xs++[y])))
theorem Zau:MtM X "list.append" rAppend:=by
 intro pins s σ H x vs v us Q I rx rv h;obtain⟨l,xs,y,rfl,rfl,hH,hz,q⟩:=h;cases rx;obtain⟨u,rfl,ru⟩:=rv.one;obtain⟨z,its,n,r,hl,e⟩:=I.lstM hH;refine call_meets F.slot_list_append ⟨_,e,rfl⟩ F.entry_list_append (F.args_list_append_2 _ _) (PySem.list_append l its.toArray n u (by rw [List.size_toArray];omega)) ⟨e,?_⟩;refine⟨.non,_,I.lset (its':=its++[u]) hH e (by simp) (r.append (.cons ru .nil)) ?_,rfl,q⟩
 rw [List.length_append,List.length_singleton];omega
def rClear:V->List V->Hp->VK->Prop:=λx vs H Q=>∃l xs,x = .ref l/\vs=[]/\H l=some (.lst xs)/\Q .non (upd H l (.lst []))
theorem Zd7:MtM X "list.clear" rClear:=by
 intro pins s σ H x vs v us Q I rx rv h;obtain⟨l,xs,rfl,rfl,hH,q⟩:=h;cases rx;have hus:=rv.zero;subst hus;obtain⟨z,its,n,r,hl,e⟩:=I.lstM hH;refine call_meets F.slot_list_clear ⟨_,e,rfl⟩ F.entry_list_clear (F.args_list_clear_1 _) (AutoSeq1.list_clear_list_0 l its.toArray n (by rw [List.size_toArray];omega)) ⟨e,?_⟩;exact⟨.non,_,I.lset (its':=[]) (ys:=[]) hH e rfl .nil (Nat.zero_le _),rfl,q⟩
def rCat:R2:=λx y H Q=>∃l b xs zs,x = .ref l/\y = .ref b/\H l=some (.lst xs)/\H b=some (.lst zs)/\xs.length+zs.length<=sizeLine/\∀p,H p=none->Q (.ref p) (upd H p (.lst (xs++zs)))
theorem ZgR:OpR X (binaryOp .Add) rCat:=by
 intro pins s σ H x y v u Q I rx ry h;obtain⟨l,b,xs,zs,rfl,rfl,hH,hB,hz,q⟩:=h;cases rx;cases ry;obtain⟨z,its,n,r,hl,e⟩:=I.lstM hH;obtain⟨z2,its2,n2,r2,hl2,e2⟩:=I.lstM hB;refine PySem.P.add_list e e2 ?_ (by rw [List.size_toArray,List.size_toArray];omega);have ea:its.toArray++its2.toArray=(its++its2).toArray:=by simp
 rw [ea];exact⟨.ref _,_,I.lnew (t':=s.toks) (r.append r2) (by rw [List.length_append];omega),rfl,q _ I.fresh⟩
end
section
variable{prog:Program}{w:World}{A:Around}{E:Value->Shared->Prop}{s:Shared}
set_option maxRecDepth 100000 in
end
section
variable{X:Cx}
end
end L2
namespace Att
open PySem PySem.W PySem.Calls PyProof.Rows
theorem ZaF{P:Params}{h:Heap}:∀(ns:List Int)(vs:List Value),WellAll P h vs (ns.map WData.int)->IntsAre vs ns:=by
 intro ns
 induction ns with
 |nil=>
  intro vs w;rw [List.map_nil]at w;cases w;exact .nil
 |cons n ns ih=>
  intro vs w;rw [List.map_cons]at w;cases w with
  |cons a b=>
   cases a;exact .cons _ _ (ih _ b)
theorem Zdu {l:OpenLaw} {n:Nat} (hn:l.most=some n) {P:Params} {h:Heap} {args:List WData} {vals:List Value}
 (hpre:l.row.toRowW.claim.pre args=true) (hwl:WellAll P h vals args) :
 ∃a vs ns,vals=[Value.ref a]/\args=[WData.list (ns.map WData.int)]/\h.get? a=some { cls := .type "list",data := .seq vs.toArray }/\IntsAre vs ns/\ns.length<=n:=by
 have hsh:WShape.hasAll [] args [.list .int]=true:=(pre_splitW hpre).1;have hc:l.pre.holds [] { args:=args }=true:=(pre_splitW hpre).2;obtain⟨d,r,rfl,h1,h2⟩:=hasAllW_cons hsh;obtain rfl:=hasAllW_nil h2;obtain⟨xs,rfl,h3⟩:=hasW_list h1;obtain⟨ns,rfl⟩:=items_int h3
 have hlen:ns.length<=n:=by
  unfold OpenLaw.pre at hc
  have h4:(WTm.not (.lt (.lit (.int (n:Int))) (.len (.arg 0)))).holds [] { args:=[.list (ns.map .int)] }=true:=by
   have h4:=(holds_andW hc).1;rw [hn]at h4;exact h4
  have h5:=condW_of h4 (w_not (w_lt w_lit (w_len_list (w_arg rfl))));rw [List.length_map]at h5;refine Nat.le_of_not_lt λq => ?_
  have q':(n:Int)<((ns.length:Nat):Int):=by omega
  first
   |(rw [decide_eq_true q']at h5;exact absurd h5 (by decide))
   |(simp at h5;omega)
 cases hwl with
 |cons w1 w2=>
  cases w2;cases w1 with
  |list ho hall=>exact⟨_,_,ns,rfl,rfl,ho,ZaF ns _ hall,hlen⟩
theorem Zdv(l:OpenLaw)(args:List WData):l.row.toRowW.claim.post args (.bool true) args=true:=
 postW_of (r:=l.row.toRowW) (X:=(true == true))
  (show WShape.has [] (.bool true) .bool=true by first|rfl|decide|simp [WShape.has,WShape.arms,WShape.armsAll])
  (show(WTm.eq .res (.lit (.bool true))).value [] { args:=args,res:=some (.bool true),after:=args }=some (.bool (true == true))from w_eq_bool (w_res rfl) w_lit) rfl
theorem attach_call {l:OpenLaw} {n:Nat} {q:Program} {loose:List Str} {XP:(Str->Option Value)->Heap->Prop} {YP:World->Heap->Prop} {d:DefRec}
 (hn:l.most=some n) (hdf:d.params.defaults=[])
 (call:∀(w:World)(s₀ s₁:Shared)(mg mb:Str->Option Value)(fa:Addr)(o:Obj)(pm cd doc:Value)(a:Addr)(vs:List Value)(ns:List Int),
   Ground q loose [] XP w s₀ mg mb s₁.heap->YP w s₁.heap ->
   s₁.heap.get? fa=some o->o.data = .func (docDef d.name d.params d.body d.scope pm cd doc)->s₁.heap.CodeRec cd d.name->mg d.name=some (.ref fa) ->
   s₁.heap.get? a=some { cls := .type "list",data := .seq vs.toArray }->IntsAre vs ns->ns.length<=n->s₁.gens = #[] ->
   codeAny (model l.prog w) callerA (.call (.ref fa) ⟨[.ref a],[]⟩) (λr s'=>r = .ok (.ret (.bool true))/\OldK s₁.heap s'.heap/\s'.os=s₁.os/\AllBare s'.gens) s₁) :
 WalkO q loose XP YP l.row.toRowW d [] (λf vs=>PySem.call f vs):=by
 intro w s₀ s₁ mg mb G Y fa o pm cd doc dV kV ho hd hcd hD hmg hg args vals as hpre hlay hrd hwl hlo;obtain rfl:dV = .none:=Dflts.none hD hdf;obtain rfl:kV = .none:=Dflts.noKw hD;obtain⟨a,vs,ns,rfl,rfl,hobj,hints,hlen⟩:=Zdu hn hpre hwl;refine enter_call (codeAny_mono (call w s₀ s₁ mg mb fa o pm cd doc a vs ns G Y ho (fd_plain hd) hcd hmg hobj hints hlen hg) λr s' hq => ?_);obtain⟨rfl,h2,h3,h4⟩:=hq
 exact⟨.inl ⟨.bool true,.bool true,[],rfl,λ_=>rfl,.bool true,Zdv l _,λ_=>⟨List.Pairwise.nil,λ_ hm=>(nomatch hm)⟩⟩,h2,h3,h4⟩
section
variable{prog:Program}{w:World}{A:Around}{E:Value->Shared->Prop}{s:Shared}{K:Frag}
end
end Att
namespace L2
open PySem PySem.Spec PyProof.Rows
theorem Zbf:∀{vs:List Value}{ns:List Int},IntsAre vs ns->Vals (ns.map V.int) vs
 |_,_,.nil => .nil
 |_,_,.cons n t h => .cons ⟨t,rfl⟩ (Zbf h)
def Zim(H:Hp):Prop:=∀b,H b=none\/∃o xs,H b=some (.frz o (.lst xs))
theorem Zd8 {P:Program} {w:World} {K:PySem.W.Frag} {mg mb:Str->Option Value} {CX:CXT} {k:Nat} {fa a:Addr} {fd:FuncData} {x:Str} {sp:Sp} {s₁:Shared} {vs:List Value} {ns:List Int}
 (KX:K.In s₁.heap) (hns:s₁.heap.Ns mainGlobals mg) (hb:s₁.heap.Ns builtinsNs mb) (hbb:∀x:Str,x ≠ "__name__" -> mb x=bootBuiltins x) (hlim:s₁.heap.NoLimit) (hg:s₁.gens = #[])
 (ha:s₁.heap.get? a=some { cls := .type "list",data := .seq vs.toArray }) (hi:IntsAre vs ns) (hl:ns.length<=sizeLine) (hr:Room k callerA)
 (F:∀base:Heap,K.In base->base.Ns mainGlobals mg->FnOk P w K mg base CX k fa fd [x] sp) (hbind:∀(s:Shared)(u:Value),BindsTo s fd ⟨[u],[]⟩ [(x,u)])
 (hsp:∀H:Hp,Zim H->SqL K H a (ns.map V.int)->sp [.ref a] H (λv _=>v = .bl true) λ_ _ _=>False)
 (hCX:∀H e s',CX [] H s₁ (λ_ _ _=>False) e s'->False) :
 codeAny (model P w) callerA (.call (.ref fa) ⟨[.ref a],[]⟩) (λr s'=>r = .ok (.ret (.bool true))/\OldK s₁.heap s'.heap/\s'.os=s₁.os/\AllBare s'.gens) s₁:=by
 have rv:=Zbf hi;have lenV:=hi.length
 have core:∀H:Hp,Zim H->SqL K H a (ns.map V.int)->HOk P w H s₁.heap->(∀b,H b≠none->b=a)->(H a≠none->K.lookup a=none) ->
  codeAny (model P w) callerA (.call (.ref fa) ⟨[.ref a],[]⟩) (λr s'=>r = .ok (.ret (.bool true))/\OldK s₁.heap s'.heap/\s'.os=s₁.os/\AllBare s'.gens) s₁:=by
  intro H hO hS hok hA hK;have base_of:∀{b:Addr}{o:Obj},s₁.heap.get? b=some o->H b=none->(Vt s₁.heap H).get? b=some o:=λe n=>ZdY e n
  have noA:∀{b:Addr}{o:Obj}{es:Array DictEntry}{ep:Nat},s₁.heap.get? b=some o->o.data = .dict es ep->H b=none:=λ{b o es ep} e d=>by
   cases q:H b with
   |none=>rfl
   |some u=>
    have e':b=a:=hA b (by rw [q];simp);subst e';rw [ha]at e;cases e;have d':Data.seq vs.toArray _=Data.dict es ep:=d;cases d'
  have nsK:∀{b:Addr}{m:Str->Option Value},s₁.heap.Ns b m->(Vt s₁.heap H).Ns b m:=λ{b m} ⟨o,es,ep,e,d,r⟩=>⟨o,es,ep,base_of e (noA e d),d,r⟩
  have hKb:K.In (Vt s₁.heap H):=λb o e=>base_of (KX b o e) (by
   cases q:H b with
   |none=>rfl
   |some u=>
    have e':b=a:=hA b (by rw [q];simp);subst e';rw [hK (by rw [q];simp)]at e;cases e)
  have hM:Mod K mg (Vt s₁.heap H):=⟨hKb,nsK hns,⟨mb,nsK hb,hbb⟩,let⟨mc,h1,h2⟩:=hlim;⟨mc,nsK h1,h2⟩⟩
  have e0:Env0 P w K mg (Vt s₁.heap H) callerA [] s₁ H:=⟨rfl,hM,λb o e=>Zfv e,Nat.le_of_eq (Zdl _ _),trivial,λb hb=>absurd (show b∈([]:List Addr)from hb) (by simp),hok,.of_eq hg⟩
  refine codeAny_mono ((F _ hKb (nsK hns)).run callerA [] s₁ H ⟨[.ref a],[]⟩ [.ref a] [.ref a] _ _ hr e0 (hbind s₁ (.ref a)) (.cons rfl .nil) (hsp H hO hS)) λr s' h => ?_
  cases r with
  |error e=>exact(hCX H e s' h).elim
  |ok fl=>
   cases fl with
   |next=>exact False.elim h
   |brk=>exact False.elim h
   |cont=>exact False.elim h
   |ret u=>
    obtain⟨v,H',os,bare,un,hok',r',q⟩:=h;have q':v = .bl true:=q;subst q';obtain rfl:u=Value.bool true:=r';refine⟨rfl,OldK.of_keep λb o e => ?_,os,bare⟩;cases q:H b with
    |none=>exact un.keep b o e q (by intro z;exact absurd (show b∈([]:List Addr)from z) (by simp)) (by simp)
    |some u=>
     rcases hO b with z|⟨ob,xs,z⟩
     · rw [q]at z;cases z
     · have z2:=un.frzs b ob _ z
       obtain⟨e1,_⟩:=hok b _ z;obtain⟨e2,_⟩:=hok' b _ z2;rw [e]at e1;cases e1;exact e2
 cases hk:K.lookup a with
 |some o=>
  have e:=KX a o hk;rw [ha]at e;cases e;refine core (λ_=>none) (λ_ => .inl rfl) (.inr ⟨_,vs.toArray,_,hk,rfl,rfl,rfl,by rw [List.size_toArray,lenV];exact hl,by simpa using rv⟩) (λb u z=>by have z':(none:Option HO)=some u:=z;cases z') (λb z=>absurd rfl z) λz=>absurd rfl z
 |none=>
  refine core (λb=>if b=a then some (.frz { cls := .type "list",data := .seq vs.toArray } (.lst (ns.map V.int)))else none) (λb => ?_) (.inl (.inr ⟨{ cls := .type "list",data := .seq vs.toArray },if_pos rfl⟩)) (λb u z => ?_) (λb z => ?_) λ_=>hk
  · by_cases hb:b=a
    · exact .inr ⟨_,_,if_pos hb⟩
    · exact .inl (if_neg hb)
  · by_cases hb:b=a
    · have z':=(if_pos hb).symm.trans z
      cases z';subst hb;exact⟨ha,by rw [List.length_map];exact hl,vs,_,rv,ha⟩
    · have z':=(if_neg hb).symm.trans z
      cases z'
  · by_cases hb:b=a
    · exact hb
    · exact absurd (if_neg hb) z
end L2
namespace L2
open PySem PySem.Spec PyProof.Rows
theorem walk_of {l:PySem.W.OpenLaw} {n k:Nat} {q:Program} {loose:List Str} {XP:(Str->Option Value)->Heap->Prop} {YP:World->Heap->Prop} {d:DefRec} {K:Params->PySem.W.Frag} {CX:World->CXT} {sp:World->Sp} {x:Str}
 (hn:l.most=some n) (hn2:n<=sizeLine) (hdf:d.params.defaults=[]) (hr:Room k callerA)
 (hY:∀(w:World)(h:Heap),YP w h->(K w.params).In h)
 (F:∀(w:World)(mg:Str->Option Value)(fa:Addr)(h:Heap),(K w.params).In h->h.Ns mainGlobals mg->mg d.name=some (.ref fa) ->
   ∃fd:FuncData,(∀(s:Shared)(u:Value),BindsTo s fd ⟨[u],[]⟩ [(x,u)]) /\
    ∀base:Heap,(K w.params).In base->base.Ns mainGlobals mg->FnOk l.prog w (K w.params) mg base (CX w) k fa fd [x] (sp w))
 (hsp:∀(w:World)(H:Hp)(a:Addr)(ns:List Int),ns.length<=n->Zim H->SqL (K w.params) H a (ns.map V.int)->sp w [.ref a] H (λv _=>v = .bl true) λ_ _ _=>False)
 (hCX:∀(w:World)(H:Hp)(s:Shared)(e:Value)(s':Shared),CX w [] H s (λ_ _ _=>False) e s'->False) :
 PySem.W.WalkO q loose XP YP l.row.toRowW d [] (λf vs=>PySem.call f vs):=by
 refine Att.attach_call hn hdf λw s₀ s₁ mg mb fa o pm cd doc a vs ns G Y ho hd hcd hmg hobj hints hlen hg => ?_
 have KX:=hY w _ Y;obtain⟨fd,hb,hF⟩:=F w mg fa _ KX G.T.g hmg;exact Zd8 KX G.T.g G.T.b G.T.builtins G.T.nolimit hg hobj hints (Nat.le_trans hlen hn2) hr hF hb (λH hO hS=>hsp w H a ns hlen hO hS) λH e s'=>hCX w H s₁ e s'
end L2
namespace L2
open PySem PySem.Spec PyProof.Rows
def YS(s:Stmt)(j:Nat):Stmt:=match s with
 | .ClassDef _ _ _ body _ _ _ _ _ _ _=>body.getD j (.Pass ⟨0,0,0,0⟩)
 |_ => .Pass ⟨0,0,0,0⟩
def defArgs(s:Stmt):Arguments:=match s with
 | .FunctionDef _ a _ _ _ _ _ _ _ _=>a
 |_=>{ posonlyargs:=[],args:=[],vararg:=none,kwonlyargs:=[],kw_defaults:=[],kwarg:=none,defaults:=[] }
def defBody(s:Stmt):List Stmt:=match s with
 | .FunctionDef _ _ b _ _ _ _ _ _ _=>b
 |_=>[]
def defScope(s:Stmt):Scope:=match s with
 | .FunctionDef _ _ _ _ _ _ sc _ _ _=>sc
 |_=>{ kind := .function,names:=[],isGenerator:=false,isCoroutine:=false }
abbrev CX0:CXT:=λ_ _ _ _ _ _=>False
abbrev E0:XK:=λ_ _ _=>False
theorem ZR{X:Cx}:Ur CX0 X E0:=λ_ _ _ _ _ _ _ h=>h.elim
structure Fun(K:PySem.W.Frag)(x qual:Str)(st:Stmt)(f:Addr)(fd:FuncData):Prop where
 ex:∃(oc:Value) (od:Option Addr) (kV doc pm:Value) (an:Option Addr) (cdv ct:Value) (osl:Array (Option Value)),
  fd=fnOf x qual (defArgs st) (defBody st) (defScope st) .none kV doc pm an cdv ct/\K.lookup f=some ⟨oc,od,.func fd,osl⟩/\codeIn K cdv qual=true
 kp:keepIn K (.ref f)=true
section
variable{P:Program}{w:World}{K:PySem.W.Frag}{mg:Str->Option Value}{base:Heap}
theorem Fun.ok {x qual:Str} {st:Stmt} {f:Addr} {fd:FuncData} {N ps:List Str} {k:Nat} {sp:Sp} (F:Fun K x qual st f fd) (S:FnScope N ps (defScope st)) (len:∀vs H Q E,sp vs H Q E->vs.length=ps.length)
 (hbody:∀(cdv:Value)(A:Around)(outer:List Env)(s:Shared)(H:Hp)(vs:List V)(Q:VK)(E:XK),Room k (A.deeper (envOfC qual (defScope st) s.heap.objs.size f cdv))->sp vs H Q E ->
   ∃t,PSs (XG CX0 P w K mg base N qual (defScope st) f cdv A outer s H E).nox (defBody st) t/\t { nx:=λ_ H'=>Q .non H',rt:=Q } (start N vs) H):FnOk P w K mg base CX0 (k+1) f fd ps sp:=by
 obtain⟨oc,od,kV,doc,pm,an,cdv,ct,osl,rfl,lk,hcd⟩:=F.ex;refine Zge lk hcd S len λA outer s H vs Q E hr hsp => ?_
 obtain⟨t,h,q⟩:=hbody cdv A outer s H vs Q E hr hsp;exact⟨t,h.nox,q⟩
theorem Fun.binds {x qual:Str} {st:Stmt} {f:Addr} {fd:FuncData} {ps:List Str} (F:Fun K x qual st f fd)
 (h:∀(kV doc pm:Value)(an:Option Addr)(cdv ct:Value)(us:List Value),us.length=ps.length->bindArgs (fnOf x qual (defArgs st) (defBody st) (defScope st) .none kV doc pm an cdv ct) ⟨us,[]⟩=pure (ps.zip us)):Binds K fd ps []:=by
 obtain⟨oc,od,kV,doc,pm,an,cdv,ct,osl,rfl,lk,hcd⟩:=F.ex;exact .all (h kV doc pm an cdv ct)
theorem fun_mk {x qual:Str} {st:Stmt} {f:Addr} {oc:Value} {od an:Option Addr} {osl:Array (Option Value)} {kV doc pm cdv ct:Value} (l:K.lookup f=some ⟨oc,od,.func (fnOf x qual (defArgs st) (defBody st) (defScope st) .none kV doc pm an cdv ct),osl⟩)
 (c:codeIn K cdv qual=true) (k:keepIn K (.ref f)=true):Fun K x qual st f (fnOf x qual (defArgs st) (defBody st) (defScope st) .none kV doc pm an cdv ct):=⟨⟨oc,od,kV,doc,pm,an,cdv,ct,osl,rfl,l,c⟩,k⟩
end
section
variable{X:Cx}
theorem pv (i:Nat) {x:Str} {pos:Pos} (hN:X.N[i]? = some x:=by rfl) (hv:Vis X.env.scope x:=by first|exact Or.inl rfl|exact Or.inr (Or.inl rfl)|exact Or.inr (Or.inr rfl)) (hd:(x == ("__debug__" : Str))=false:=by decide)
 (hcd:(x == ("__classdict__" : Str))=false:=by decide):PE X (.Name x pos) (YZ i):=ZgH hN hv hd hcd
end
theorem XU{A B:Prop}(h:B):if false=true then A else B:=by
 rw [if_neg Bool.false_ne_true];exact h
theorem Vi{A B:Prop}(h:A):if true=true then A else B:=by
 rw [if_pos rfl];exact h
def Same(H H':Hp):Prop:=∀b o,H b=some o->H' b=some o
theorem Same.refl(H:Hp):Same H H:=λ_ _ h=>h
theorem Same.trans{H H1 H2:Hp}(a:Same H H1)(b:Same H1 H2):Same H H2:=λc o h=>b c o (a c o h)
theorem Same.free{H H':Hp}(e:Same H H'){l:Addr}(h:H' l=Option.none):H l=Option.none:=by
 cases q:H l with
 |none=>rfl
 |some o=>
  rw [e l o q]at h;cases h
theorem Same.seq{K:PySem.W.Frag}{H H':Hp}{a:Addr}{xs:List V}(e:Same H H')(h:SqL K H a xs):SqL K H' a xs:=by
 rcases h with(h|⟨o,h⟩)|h
 · exact .inl (.inl (e _ _ h))
 · exact .inl (.inr ⟨o,e _ _ h⟩)
 · exact .inr h
end L2
namespace HT
open PySem PySem.W PySem.Calls PyProof.Rows
def de(P:Params)(x:Str)(t:Nat)(v:Value):DictEntry:=⟨PyData.keyHash P x,.str x t,v⟩
def dO(c:Value)(es:List DictEntry)(n:Nat):Obj:=⟨c,none,.dict es.toArray n,#[]⟩
def cO(vs:List Value):Obj:=⟨.type "code",none,.fields vs.toArray,#[]⟩
def fO(x q:Str)(st:Stmt)(dv kv doc pm:Value)(an:Option Addr)(cd ct:Value):Obj:=⟨.type "function",none,.func (fnOf x q (L2.defArgs st) (L2.defBody st) (L2.defScope st) dv kv doc pm an cd ct),#[]⟩
def c3(x q:Str)(t l a n r:Nat)(r2:Nat)(v w:Value)(r3 k k2:Nat):Obj:=cO [.str x t,.str q (t+1),.str "/claim/cut.py" (t+2),.int l 0,.int a 0,.int 0 0,.int 0 0,.int n 0,.ref r,.bool true,.int 181 0,.ref r2,.none,v,w,.ref r3,.int k 0,.int l 0,.str "/claim/cut.py" k2]
def f3(x q:Str)(st:Stmt)(m:Str)(t c:Nat):Obj:=fO x q st .none .none .none (.str m t) none (.ref c) .none
def x3(P:Params)(m:Str)(t a b l c d r e n:Nat):Obj:=dO (.type "dict") [de P "__module__" a (.str m t),de P "__firstlineno__" b (.int l c),de P "__static_attributes__" d (.ref r),de P "__doc__" e .none] n
def k3(x:Str)(a b n r t u:Nat):Obj:=⟨.type "type",none,.cls ⟨x,[.ref b],[.ref a,.ref b,.type "ValueError",.type "Exception",.type "BaseException",.type "object"],n,x,true,[],[],false,none,false⟩,#[some (.ref r),none,some (.str x t),some (.str x u),some (.builtin "ValueError.__new__"),some (.bool true)]⟩
def met{α:Type}(_:α):Bool:=true
noncomputable def ZiM(P:Params):BT:=
 ((((((((((BT.nil.ins 0 (boot_o_0 P)).ins 1 (boot_o_1 P)).ins 2 (boot_o_2 P)).ins 3 (boot_o_3 P)).ins 4 (boot_o_4 P)).ins 5 (boot_o_5 P)).ins 6 (boot_o_6 P)).ins 7 (boot_o_7 P)).ins 8 (boot_o_8 P)).ins 9 (boot_o_9 P)).ins 10 (boot_o_10 P)
noncomputable abbrev S0(w:World)(os:OsState):Shared:=⟨boot_heap w.params,Array.mk [],boot_drawn,boot_toks,os⟩
noncomputable abbrev S0T(w:World)(os:OsState):SharedT:=⟨ZiM w.params,11,(boot_heap w.params).life,Array.mk [],boot_drawn,boot_toks,os⟩
theorem Zkj(w:World)(os:OsState):(S0T w os).abs=S0 w os:=rfl
noncomputable def Zin(thr ok:Thread->Bool)(st:SharedT->Thread->Option (SharedT×Thread))(n:Nat):SharedT->Thread->Option SharedT:=
 @Nat.rec (λ_=>SharedT->Thread->Option SharedT) (λ_ _=>none)
  (λ_ ih s t => @Bool.rec (λ_=>Option SharedT) (@Bool.rec (λ_=>Option SharedT) none (@Option.rec (SharedT×Thread) (λ_=>Option SharedT) none (λr=>ih r.1 r.2) (st s t)) (ok t)) (some s) (thr t)) n
theorem Zb8{tb:String->Option Builtin}{p:Program}{w:World}{n₀:Nat}{ann:Option Value}:∀{n:Nat}{s s':SharedT}{t:Thread},Zin through (stepOk n₀ ann) (stepT (denote tb) p w) n s t=some s'->topRun tb p w n₀ ann n s.abs t=some s'.abs
 |0,_,_,_,h=>by cases h
 |n+1,s,s',t,h=>by
  replace h : @Bool.rec (λ_=>Option SharedT) (@Bool.rec (λ_=>Option SharedT) none (@Option.rec (SharedT×Thread) (λ_=>Option SharedT) none (λr=>Zin through (stepOk n₀ ann) (stepT (denote tb) p w) n r.1 r.2) (stepT (denote tb) p w s t)) (stepOk n₀ ann t)) (some s) (through t)=some s':=h;unfold topRun;cases ht:through t with
  |true=>rw [ht]at h;cases h;rfl
  |false=>
   rw [ht]at h;cases hk:stepOk n₀ ann t with
   |false=>rw [hk]at h;cases h
   |true=>
    rw [hk]at h;cases hs:stepT (denote tb) p w s t with
    |none=>rw [hs]at h;cases h
    |some r=>obtain⟨s₂,t₂⟩:=r;rw [hs]at h;rw [stepT_spec hs];exact Zb8 h
theorem left_of {p q:Program} {loose:List Str} {Xt:Shared->Bool} {α:Type} {Yf:Shared->α} {Ya:World->α} {N:Nat}
 (e:opening p=plainProg p.main.scope.names) (hN:Nat.ble 600 N=true) (f:∀s,fenceModules? p s=some s)
 (run:∀w:World,(λos=>(Zin through (stepOk 11 (some (.ref 6))) (stepT (denote treeTable) p w) N (S0T w os) (topStub p)).map λs=>((staticsOk (importedModules p.main.body) (boot_heap w.params) s.abs.heap&&namesBound p s.abs.heap&&gensDone s.abs&&laidKept (boot_heap w.params) s.abs.heap),
   openSeen q loose (importedModules p.main.body) Xt true s.abs,Yf s.abs))=λ_=>some (true,openGood q loose,Ya w)):LeftO p q loose Xt Yf Ya N:=λw=>by
 obtain⟨⟨h,gs,d,k,os⟩,e,e'⟩:=Option.map_eq_some_iff.mp (boot_open e hN f w);obtain⟨rfl,rfl,rfl,rfl⟩:h=boot_heap w.params/\gs=Array.mk []/\d=boot_drawn/\k=boot_toks:=by simpa using e'
 obtain⟨s1,r,l⟩:=Option.map_eq_some_iff.mp (congrFun (run w) os);obtain⟨l1,l2,l3⟩:_/\_/\_:=by simpa only [Prod.mk.injEq]using l
 have r:=Zb8 r;rw [Zkj]at r;have z1:((boot_heap w.params).isNs mainGlobals&&(Array.mk []:Array GenState).size == 0)=true:=by kernel_rfl
 have z2:(boot_heap w.params).objs.size=11:=rfl;have z3:(boot_heap w.params).nsMap mainGlobals "__annotations__" = some (.ref 6):=by kernel_rfl
 have t:topFrom treeTable p w N (S0 w os)=some s1.abs:=by
  unfold topFrom;dsimp only;rw [z1,z2,z3,r];show(match staticsOk (importedModules p.main.body) (boot_heap w.params) s1.abs.heap&&namesBound p s1.abs.heap&&gensDone s1.abs&&laidKept (boot_heap w.params) s1.abs.heap with|true=>_|false=>_)=_;rw [l1]
 unfold openEnds;rw [e];show(topFrom treeTable p w N _).map _=_;rw [t];exact congrArg some (Prod.ext l2 l3)
end HT
namespace L2
open PySem Builtin Builtin.Str
abbrev tx(cs:List Nat):Str:=⟨cs.toArray⟩
theorem tx_inj{a b:List Nat}:tx a=tx b ↔ a=b:=by
 constructor
 · intro h
   have h2:a.toArray=b.toArray:=congrArg Str.cps h;simpa using h2
 · rintro rfl;rfl
theorem Vw(cs:List Nat):(tx cs).cps.toList=cs:=by simp [tx]
theorem Xa(cs:List Nat):(tx cs).length=cs.length:=by simp [tx,Str.length]
theorem ZcK(a b:List Nat):tx a++tx b=tx (a++b):=by
 show Str.mk (a.toArray++b.toArray)=Str.mk (a++b).toArray;simp
def YJ(n d:Nat):Option Int->Nat
 |none=>d
 |some v=>if v<0 then(v+(n:Int)).toNat else min v.toNat n
def cutL{α:Type}(xs:List α)(lo hi:Option Int):List α:=(xs.drop (YJ xs.length 0 lo)).take (YJ xs.length xs.length hi-YJ xs.length 0 lo)
theorem ZeV(lo hi:Option Int)(n:Nat):strSliceIndices lo hi 1 n=(List.range (YJ n n hi-YJ n 0 lo)).map λk=>YJ n 0 lo+k:=by
 have clip:∀v:Int,max 0 (min (if v<0 then v+(n:Int)else v) (n:Int))=(((if v<0 then(v+(n:Int)).toNat else min v.toNat n):Nat):Int):=by
  intro v
  by_cases h:v<0
  · rw [if_pos h,if_pos h];omega
  · rw [if_neg h,if_neg h];omega
 have key:∀(a b:Nat),sliceRange (a:Int) (b:Int) 1=(List.range (b-a)).map λk=>a+k:=by
  intro a b;unfold sliceRange;simp only [show(1:Int)>0 by decide,if_true]
  have e:(if(a:Int)<(b:Int)then((b:Int)-(a:Int)+1-1) / 1 else 0).toNat=b-a:=by
   split
   · rw [Int.ediv_one];omega
   · omega
  rw [e];refine List.map_congr_left λk _ => ?_
  omega
 unfold strSliceIndices;simp only [show(1:Int)>0 by decide,if_true];cases lo with
 |none=>
  cases hi with
  |none=>exact key 0 n
  |some v=>
   have:=key 0 (YJ n n (some v));refine Eq.trans ?_ this;show sliceRange 0 (max 0 (min (if v<0 then v+(n:Int)else v) (n:Int))) 1=_;rw [clip v];rfl
 |some u=>
  cases hi with
  |none=>
   have:=key (YJ n 0 (some u)) n;refine Eq.trans ?_ this;show sliceRange (max 0 (min (if u<0 then u+(n:Int)else u) (n:Int))) n 1=_;rw [clip u];rfl
  |some v=>
   have:=key (YJ n 0 (some u)) (YJ n n (some v));refine Eq.trans ?_ this;show sliceRange (max 0 (min (if u<0 then u+(n:Int)else u) (n:Int))) (max 0 (min (if v<0 then v+(n:Int)else v) (n:Int))) 1=_;rw [clip u,clip v];rfl
theorem Zb9{α:Type}(xs:List α)(l:Nat):∀k,l+k<=xs.length->((List.range k).map λj=>l+j).filterMap (λj=>xs[j]?)=(xs.drop l).take k
 |0,_=>by simp
 |k+1,h=>by
  rw [List.range_succ,List.map_append,List.filterMap_append,Zb9 xs l k (by omega)];have hx:xs[l+k]? = some (xs[l+k]'(by omega)):=List.getElem?_eq_getElem (by omega);rw [List.take_add_one,List.getElem?_drop,hx];simp [hx]
theorem Zdw(n:Nat)(o:Option Int):YJ n n o<=n:=by
 cases o with
 |none=>exact Nat.le_refl _
 |some v=>
  show(if v<0 then(v+(n:Int)).toNat else min v.toNat n)<=n
  split<;>omega
theorem Zd9(cs:List Nat)(lo hi:Option Int):Txt.slice (tx cs) lo hi=tx (cutL cs lo hi):=by
 have hn:(tx cs).length=cs.length:=Xa cs;have hb:=Zdw cs.length hi
 have hp:((strSliceIndices lo hi 1 cs.length).filterMap λj=>cs[j]?)=cutL cs lo hi:=by
  rw [ZeV];unfold cutL
  by_cases h:YJ cs.length 0 lo<=YJ cs.length cs.length hi
  · exact Zb9 cs _ _ (by omega)
  · have e:YJ cs.length cs.length hi-YJ cs.length 0 lo=0:=by omega
    rw [e];simp
 unfold Txt.slice;rw [hn]
 by_cases hc:((1:Int) == 1&&(strSliceIndices lo hi 1 cs.length).length == cs.length)=true
 · rw [if_pos hc]
   have hl:(strSliceIndices lo hi 1 cs.length).length=cs.length:=by simpa using hc
   rw [ZeV,List.length_map,List.length_range]at hl;have e0:YJ cs.length 0 lo=0\/cs.length=0:=by omega
   rw [tx_inj];unfold cutL;rw [hl];rcases e0 with e0|e0
   · rw [e0];simp
   · have:cs=[]:=List.eq_nil_of_length_eq_zero e0
     subst this;simp
 · rw [if_neg hc]
   have:((strSliceIndices lo hi 1 cs.length).filterMap λj=>(tx cs).cps[j]?)=cutL cs lo hi:=by
    rw [<-hp];simp [tx]
   rw [this]
theorem Zea(a b:List Nat)(i:Nat):subAt (tx a) (tx b) i=((a.drop i).take b.length == b):=by
 rw [StrLaws.subAt_eq,Vw,Vw,Xa]
theorem ZfB(a b:List Nat):Txt.endswith (tx a) (tx b)=b.isSuffixOf a:=by
 unfold Txt.endswith;rw [Zea,Xa,Xa,Nat.zero_add];rw [Bool.eq_iff_iff,Bool.and_eq_true,decide_eq_true_eq,beq_iff_eq,List.isSuffixOf_iff_suffix];constructor
 · rintro⟨h1,h2⟩
   have h3:(a.drop (a.length-b.length)).length=b.length:=by rw [List.length_drop];omega
   rw [List.take_of_length_le (by omega)]at h2;rw [<-h2];exact List.drop_suffix _ _
 · rintro⟨c,rfl⟩
   refine⟨by simp,?_⟩;rw [List.length_append,Nat.add_sub_cancel,List.drop_left,List.take_of_length_le (Nat.le_refl _)]
end L2
namespace L2
open PySem Builtin Builtin.Str
def Jy(c:Nat):Bool:=decide (48<=c)&&decide (c<=57)
def Zio(cs:List Nat):Nat:=cs.foldl (λacc c=>acc*10+(c-48)) 0
theorem UM(cs:List Nat)(c i:Nat):StrLaws.At (tx cs) (tx [c]) (tx cs).length i ↔ cs[i]? = some c:=by
 have:=StrLaws.subAt_one (tx cs) c i;rw [Vw]at this;exact this
def Y7(c:Nat)(cs:List Nat):Int:=match cs.findIdx? (· == c)with
 |some i=>(i:Int)
 |none => -1
def X5(c:Nat):List Nat->Int
 | [] => -1
 |x::xs=>if 0<=X5 c xs then X5 c xs+1 else if x=c then 0 else -1
theorem Zag(c:Nat):∀cs:List Nat,(X5 c cs = -1/\c∉cs)\/∃i:Nat,X5 c cs=(i:Int)/\cs[i]? = some c/\∀k,i<k->¬cs[k]? = some c
 | [] => .inl ⟨rfl,by simp⟩
 |x::xs=>by
  unfold X5;rcases Zag c xs with⟨e,h⟩|⟨i,e,h,hk⟩
  · rw [e,if_neg (by decide)]
    by_cases hx:x=c
    · rw [if_pos hx]
      refine .inr ⟨0,rfl,by simp [hx],λk hk hz => ?_⟩;obtain⟨k',rfl⟩:∃k',k=k'+1:=⟨k-1,by omega⟩
      rw [List.getElem?_cons_succ]at hz;exact h (List.mem_of_getElem? hz)
    · rw [if_neg hx]
      refine .inl ⟨rfl,λhm => ?_⟩;rcases List.mem_cons.mp hm with z|z
      · exact hx z.symm
      · exact h z
  · rw [e,if_pos (Int.natCast_nonneg i)]
    refine .inr ⟨i+1,by push_cast;rfl,by simpa using h,λk hk' hz => ?_⟩;obtain⟨k',rfl⟩:∃k',k=k'+1:=⟨k-1,by omega⟩
    rw [List.getElem?_cons_succ]at hz;exact hk k' (by omega) hz
theorem Zeb(cs:List Nat)(c:Nat):Txt.rfind (tx cs) (tx [c])=X5 c cs:=by
 rcases PyProof.Rows.rfind_whole (tx cs) (tx [c])with⟨e,h⟩|⟨i,e,h,hk⟩
 · rcases Zag c cs with⟨e',_⟩|⟨j,e',hj,_⟩
   · rw [e,e']
   · exact absurd ((UM cs c j).mpr hj) (h j)
 · have hi:=(UM cs c i).mp h
   rcases Zag c cs with⟨e',h'⟩|⟨j,e',hj,hj'⟩
   · exact absurd (List.mem_of_getElem? hi) h'
   · rw [e,e']
     have h1:¬i<j:=λz=>hk j z ((UM cs c j).mpr hj)
     have h2:¬j<i:=λz=>hj' i z hi
     congr 1
     omega
theorem ZfC(cs:List Nat)(c:Nat):Txt.find (tx cs) (tx [c])=Y7 c cs:=by
 unfold Y7;rcases PyProof.Rows.find_whole (tx cs) (tx [c])with⟨e,h⟩|⟨i,e,h,hk⟩
 · rw [e]
   have hn:cs.findIdx? (· == c)=none:=by
    rw [List.findIdx?_eq_none_iff];intro x hx;simp only [beq_eq_false_iff_ne]
    rintro rfl
    obtain⟨j,hj⟩:=List.getElem?_of_mem hx;exact h j ((UM cs x j).mpr hj)
   rw [hn]
 · rw [e]
   have hi:=(UM cs c i).mp h
   have hs:cs.findIdx? (· == c)=some i:=by
    rw [List.findIdx?_eq_some_iff_getElem];have hl:i<cs.length:=(List.getElem?_eq_some_iff.mp hi).1;refine⟨hl,by simpa using(List.getElem?_eq_some_iff.mp hi).2,λj hj => ?_⟩;have hjl:j<cs.length:=by omega
    have:=hk j hj;rw [UM,List.getElem?_eq_getElem hjl]at this;simpa using this
   rw [hs]
theorem Zec(cs:List Nat)(c:Nat):Txt.count (tx cs) (tx [c])=(cs.count c:Nat):=by
 have h:=PyProof.Rows.count_is (tx cs) c
 have e:∀l:List Nat,PyProof.Rows.cnt c l=(l.count c:Nat):=λl=>by
  induction l with
  |nil=>rfl
  |cons x xs ih=>
   rw [PyProof.Rows.cnt_cons,ih,List.count_cons]
   by_cases hx:x=c<;>simp [hx]<;>omega
 have h2:Txt.count (tx cs) (tx [c])=PyProof.Rows.cnt c (tx cs).cps.toList:=h;rw [h2,e,Vw]
def Vx(sep:List Nat):List (List Nat)->List Nat
 | []=>[]
 | [x]=>x
 |x::y::r=>x++sep++Vx sep (y::r)
theorem ZbE(sep:List Nat):∀l:List (List Nat),Str.join (tx sep) (l.map tx)=tx (Vx sep l)
 | []=>rfl
 | [x]=>rfl
 |x::y::r=>by
  show tx x++tx sep++Str.join (tx sep) ((y::r).map tx)=_;rw [ZbE sep (y::r),ZcK,ZcK];rfl
theorem Zbg:∀l:List (List Nat),Vx [] l=l.flatten
 | []=>rfl
 | [x]=>by simp [Vx]
 |x::y::r=>by
  show x++[]++Vx [] (y::r)=_;rw [Zbg (y::r)];simp
end L2
namespace L2
open PySem PySem.Spec PyProof.Rows
section
variable{prog:Program}{w:World}{A:Around}{R:Result->Shared->Prop}{s:Shared}
theorem Zby {elt target iter:Expr} {ifs:List Expr} {scope:Scope} {pos:Pos} {it acc:Value} {env:Env} (I:Nat->Shared->Prop)
 (turn:∀n s,I n s->wpAny (model prog w) A (pyNext it) (λr s₁=>match r with
   |none=>R (.ok .next) s₁
   |some v=>wpAny (model prog w) A (letOwnedTupleGo target it v) (λ_ s₀=>wpAny (model prog w) A (assign target env v) (λ_ s₂=>
    wpAny (model prog w) A (forIn ifs true λc r=>if r=true then do let ok <-isTrue c env (eval c env);pure (ForInStep.yield ok)else pure (ForInStep.yield r)) (λok s₃=>
     if ok=true then wpAny (model prog w) A (eval elt env) (λx s₄=>
      wpAny (model prog w) A (call (.builtin "list.append") [acc,x]) (λ_ s₅=>∃m,m<n/\I m s₅) (notedBy (model prog w) A env λe s'=>R (.error e) s') s₄) (notedBy (model prog w) A env λe s'=>R (.error e) s') s₃
     else ∃m,m<n/\I m s₃) (notedBy (model prog w) A env λe s'=>R (.error e) s') s₂) (notedBy (model prog w) A env λe s'=>R (.error e) s') s₀) (notedBy (model prog w) A env λe s'=>R (.error e) s') s₁) (notedBy (model prog w) A env λe s'=>R (.error e) s') s)
 (n:Nat) (h:I n s) :
 codeAny (model prog w) A (.compLoop (.ListComp elt [⟨target,iter,ifs,0⟩] scope pos) 0 it acc env) R s:=by
 refine codeAny_loop rfl I (λn s hI => ?_) n h;show wpAny _ A ((compTurn (.ListComp elt [⟨target,iter,ifs,0⟩] scope pos) 0 it acc env).onRaise (λx=>do noteFrame x env;theTreesLotGoes x)) _ _ s;refine wpAny_noted ?_;rw [compTurn_list];refine wpAny_bind (wpAny_standAt (wpAny_bind (wpAny_mono (turn n s hI) (λr s₁ h₁ => ?_) λ_ _ h'=>h')));cases r with
 |none=>exact wpAny_pure h₁
 |some v=>
  refine wpAny_bind (wpAny_mono h₁ (λ_ s₀ h₀ => ?_) λ_ _ h'=>h');refine wpAny_bind (wpAny_mono h₀ (λ_ s₂ h₂=>wpAny_bind (wpAny_mono h₂ (λok s₃ h₃ => ?_) λ_ _ h'=>h')) λ_ _ h'=>h');cases ok with
  |false=>exact wpAny_pure ⟨rfl,h₃⟩
  |true=>
   exact wpAny_bind (wpAny_bind (wpAny_mono h₃ (λx s₄ h₄=>wpAny_bind (wpAny_mono h₄ (λ_ s₅ h₅=>wpAny_pure (wpAny_pure ⟨rfl,h₅⟩)) λ_ _ h'=>h')) λ_ _ h'=>h'))
end
def Xo(cells:List (Str×Addr)):List (Str×NameKind)->List (Str×Addr)->List (Str×Addr)
 | [],acc=>acc
 |(n,k)::r,acc=>Xo cells r (if(k == .free)=true then(n,(cells.lookup n).getD 0)::acc else acc)
theorem Zac{env:Env}:∀(names:List (Str×NameKind))(acc:List (Str×Addr)),(∀x∈names,x.2 = .free->∃c,env.cells.lookup x.1=some c) ->
 (forIn names acc λ(x:Str×NameKind) (r:List (Str×Addr))=>match x with
   |(name,kind)=>if(kind == .free)=true then(do let c <-cellOf env name;pure (ForInStep.yield ((name,c)::r)))else pure (ForInStep.yield r))=(pure (Xo env.cells names acc):Sem _)
 | [],acc,_=>rfl
 |(n,k)::r,acc,h=>by
  rw [List.forIn_cons];show((if(k == .free)=true then(do let c <-cellOf env n;pure (ForInStep.yield ((n,c)::acc)))else pure (ForInStep.yield acc)) >>= _)=_
  by_cases hk:(k == .free)=true
  · obtain⟨c,hc⟩:=h (n,k) List.mem_cons_self (by simpa using hk)
    have e:cellOf env n=pure c:=by
     unfold cellOf;rw [hc]
    rw [if_pos hk,e];show(forIn r ((n,c)::acc) _:Sem _)=_;rw [Zac r _ λx hx=>h x (List.mem_cons_of_mem _ hx)]
    conv=>rhs;unfold Xo
    rw [if_pos hk,hc];rfl
  · rw [if_neg hk]
    show(forIn r acc _:Sem _)=_;rw [Zac r _ λx hx=>h x (List.mem_cons_of_mem _ hx)]
    conv=>rhs;unfold Xo
    rw [if_neg hk]
theorem Zal{scope:Scope}{env:Env}(h:∀x∈scope.names,x.2 = .free->∃c,env.cells.lookup x.1=some c):closureFor scope env=pure (Xo env.cells scope.names []):=by
 have e:=Zac (env:=env) scope.names [] h;unfold closureFor;show((forIn scope.names ([]:List (Str×Addr)) _:Sem _) >>= λcs=>pure cs)=_
 have e2:(forIn scope.names ([]:List (Str×Addr)) λ(x:Str×NameKind) (r:List (Str×Addr))=>match x with
  |(name,kind)=>if(kind == .free)=true then(do let c <-cellOf env name;pure (ForInStep.yield ((name,c)::r)))else pure (ForInStep.yield r))=(pure (Xo env.cells scope.names []):Sem _):=e
 rw [e2];rfl
theorem QA{cells:List (Str×Addr)}{x:Str}{c:Addr}:∀(names:List (Str×NameKind))(acc:List (Str×Addr)),(∀y∈names,y.2 = .free->∃c,cells.lookup y.1=some c) ->
 (∀c,acc.lookup x=some c->cells.lookup x=some c)->(Xo cells names acc).lookup x=some c->cells.lookup x=some c
 | [],acc,_,ha,h=>ha c h
 |(n,k)::r,acc,hf,ha,h=>by
  unfold Xo at h;refine QA r _ (λy hy=>hf y (List.mem_cons_of_mem _ hy)) (λc' h' => ?_) h
  by_cases hk:(k == .free)=true
  · rw [if_pos hk]at h'
    obtain⟨c0,hc0⟩:=hf (n,k) List.mem_cons_self (by simpa using hk);rw [List.lookup_cons]at h';cases hx:x == n with
    |true=>
     rw [hx]at h';have e:x=n:=eq_of_beq hx;subst e;have h'':(cells.lookup x).getD 0=c':=Option.some.inj h';have hc0':cells.lookup x=some c0:=hc0;rw [hc0']at h'' ⊢;exact congrArg some h''
    |false=>
     rw [hx]at h';exact ha c' h'
  · rw [if_neg hk]at h'
    exact ha c' h'
theorem Zav{cells:List (Str×Addr)}{x:Str}:∀(names:List (Str×NameKind))(acc:List (Str×Addr)),((x,NameKind.free)∈names\/∃c,acc.lookup x=some c)->∃c,(Xo cells names acc).lookup x=some c
 | [],acc,h=>by
  rcases h with h|h
  · cases h
  · exact h
 |(n,k)::r,acc,h=>by
  unfold Xo;refine Zav r _ ?_;rcases h with h|⟨c,h⟩
  · rcases List.mem_cons.mp h with e|e
    · cases e
      refine .inr ⟨(cells.lookup x).getD 0,?_⟩;rw [if_pos (by rfl),List.lookup_cons];simp
    · exact .inl e
  · refine .inr ?_
    by_cases hk:(k == .free)=true
    · rw [if_pos hk,List.lookup_cons]
      cases hx:x == n with
      |true=>exact⟨_,rfl⟩
      |false=>exact⟨c,h⟩
    · rw [if_neg hk]
      exact⟨c,h⟩
structure CompSc(X:Cx)(scope:Scope)(tn cn:List Str)(js:List Nat):Prop where
 kind:scope.kind = .function
 nocell:∀y∈scope.names,y.2 ≠ .cell
 names:∀y∈scope.names,y.2 = .local->scope.names.lookup y.1=some .local
 free:∀y∈scope.names,y.2 = .free->X.env.kindOf y.1=some .cell\/X.env.kindOf y.1=some .free
 cap:∀(k:Nat)(x:Str),cn[k]? = some x->∃j,js[k]? = some j/\X.N[j]? = some x/\(X.env.kindOf x=some .cell\/X.env.kindOf x=some .free)/\scope.names.lookup x=some .free
 len:cn.length=js.length
def QB(σ:St)(js:List Nat):St:=js.map λj=>(σ[j]?).getD none
def blk(n:Nat)(σ:St)(js:List Nat):St:=List.replicate n none++QB σ js
section
variable{X:Cx}{pins:List (Addr×Obj)}{σ:St}{H₂:Hp}{s₂:Shared}{scope:Scope}{tn cn:List Str}{js:List Nat}
theorem Zao{env:Env}:∀{names:List (Str×NameKind)}{x:Str},names.lookup x=some .free ->
 (names.map λ(n,k)=>if(k == NameKind.free&&env.scope.kind == .function&&env.kindOf n == some .cell)then(n,NameKind.cell)else(n,k)).lookup x=some .cell \/
 (names.map λ(n,k)=>if(k == NameKind.free&&env.scope.kind == .function&&env.kindOf n == some .cell)then(n,NameKind.cell)else(n,k)).lookup x=some .free
 | [],_,h=>by simp at h
 |(n,k0)::r,x,h=>by
  have ih := @Zao env r x
  show List.lookup x ((if(k0 == NameKind.free&&env.scope.kind == .function&&env.kindOf n == some .cell)=true then(n,NameKind.cell)else(n,k0))::_)=_ \/
   List.lookup x ((if(k0 == NameKind.free&&env.scope.kind == .function&&env.kindOf n == some .cell)=true then(n,NameKind.cell)else(n,k0))::_)=_
  cases hx:x == n with
  |true=>
   simp only [List.lookup_cons,hx]at h;cases h
   by_cases hb:(NameKind.free == NameKind.free&&env.scope.kind == .function&&env.kindOf n == some .cell)=true
   · rw [if_pos hb];simp [List.lookup_cons,hx]
   · rw [if_neg hb];simp [List.lookup_cons,hx]
  |false=>
   simp only [List.lookup_cons,hx]at h
   by_cases hb:(k0 == NameKind.free&&env.scope.kind == .function&&env.kindOf n == some .cell)=true
   · rw [if_pos hb];simp only [List.lookup_cons,hx];exact ih h
   · rw [if_neg hb];simp only [List.lookup_cons,hx];exact ih h
end
def PTs(X:Cx)(ifs:List Expr)(t:TT):Prop:=
 ∀(pins:List (Addr×Obj))(s:Shared)(σ:St)(H:Hp)(Q:Bool->Hp->Prop),Inv X pins σ H s->t σ H Q ->
  wpAny (model X.prog X.w) X.A (forIn ifs true λc r=>if r=true then do let ok <-isTrue c X.env (eval c X.env);pure (ForInStep.yield ok)else pure (ForInStep.yield r)) (TP X pins σ Q) X.xe s
def tYes:TT:=λ_ H Q=>Q true H
theorem Xp{X:Cx}:PTs X [] tYes:=λ_ _ _ H _ I h=>wpAny_tests_nil ⟨H,I,h⟩
theorem ZfD{X:Cx}{c:Expr}{t:TT}(h:PT X c t):PTs X [c] t:=λpins s σ H Q I q=>wpAny_tests_one (h pins s σ H Q I q)
def Zfi(wi:TI)(g:TG)(tt:TT)(te:TE)(n:Nat)(js:List Nat):TE:=λσ H Q=>wi σ H λJ H1=>
 ∃W:Nat->Nat->List V->Hp->Prop,(∃m,W 0 m [] H1)/\∀i m ys H,W i m ys H ->
  (J.stop i H/\∀p,H p=none->Q (.ref p) (upd H p (.lst ys))) \/
  (J.go i H/\∀x H',J.yld i H x H'->g x (blk n σ js) H' λσ2 H2=>tt σ2 H2 λb H3=>
    if b=true then te σ2 H3 λy H4=>ys.length<sizeLine/\∃m',m'<m/\W (i+1) m' (ys++[y]) H4 else ∃m',m'<m/\W (i+1) m' ys H3)
section
variable{X:Cx}{tg iter elt:Expr}{ifs:List Expr}{scope:Scope}{pos:Pos}{wi:TI}{g:TG}{tt:TT}{te:TE}{tn cn:List Str}{js:List Nat}
theorem UN{α:Type}{M:Model}{A:Around}{m:Sem α}{Q:α->Shared->Prop}{E:Value->Shared->Prop}{s:Shared}(h:wpAny M A m Q (λ_ _=>False) s):wpAny M A m Q E s:=wpAny_mono h (λ_ _ q=>q) λ_ _ z=>z.elim
end
end L2
namespace L2
open PySem PySem.Spec PyProof.Rows
abbrev S(cs:List Nat):V := .str (tx cs)
theorem ZiN{a b:List Nat}:S a=S b ↔ a=b:=by
 constructor
 · intro h
   exact tx_inj.mp (V.str.inj h)
 · rintro rfl;rfl
section
variable{X:Cx}{pos:Pos}
theorem Yp{x:Str}{j:Nat}(cs:List Nat)(h:x=tx cs):PE X (.Constant (.str x) j pos) (tC (S cs)):=by
 subst h;exact ZgI
def Its(cs:List Nat):It:=⟨λi _=>i<cs.length,λi H v H'=>H'=H/\∃c,cs[i]? = some c/\v=S [c],λi _=>cs.length<=i⟩
theorem UO(x:Str):strIterType x = "str_ascii_iterator" \/ strIterType x = "str_iterator" := by
 unfold strIterType
 split
 · exact .inl rfl
 · exact .inr rfl
theorem Zed{P:Program}{w:World}{K:PySem.W.Frag}{tg:Expr}(it:Addr)(cs:List Nat)(t:Tok):Turn P w K tg (Its cs) [it] it (λi h=>h.IsStrIter it (strIterType (tx cs)) (tx cs) t i) where
 mem:=by simp
 obj:=λi h st b hb=>by
  have e:b=it:=by simpa using hb
  subst e;obtain⟨o,e,c,d⟩:=st;exact⟨o,e,λv z=>by rw [d]at z;cases z⟩
 keep:=λi h h' st k=>by
  obtain⟨o,e,r⟩:=st;exact⟨o,k it (by simp) o e,r⟩
 item:=by
  intro X hP hw hK hc i pins s σ H E I hf st hg;subst hP hw hK;obtain⟨f0,f1,f2,f3,f4,f5⟩:=hf it (by simp);have hg:i<cs.length:=hg;have hx:(tx cs).cps[i]? = some cs[i]:=by simp [tx,hg]
  have fin:∀(h':Heap),h'.IsStrIter it (strIterType (tx cs)) (tx cs) t (i+1)->Heap.SameBut it s.heap h' ->
   ∃u,some (Value.str ⟨#[cs[i]]⟩ s.toks)=some u/\wpAny (model X.prog X.w) X.A (letOwnedTupleGo tg (.ref it) u) (λ_ s2=>∃x H',Inv X pins σ H' s2/\RelV x u/\(Its cs).yld i H x H'/\s2.heap.IsStrIter it (strIterType (tx cs)) (tx cs) t (i+1)/\∀b∈[it],H' b=none) E { s with heap:=h',toks:=s.toks+1 }:=λh' st' sb=>by
   have I1:Inv X pins σ H { s with heap:=h',toks:=s.toks+1 }:=I.turned (λb o hb e=>(sb.2 b hb).trans e) f0 f1 f3 f4 f5;obtain⟨o,e,hc',d⟩:=id st';refine⟨_,rfl,Jq (s:={ s with heap:=h',toks:=s.toks+1 }) e hc' d ?_ ⟨S [cs[i]],H,I1,⟨s.toks,rfl⟩,⟨rfl,cs[i],by simp [hg],rfl⟩,st',λb hb=>(hf b hb).1⟩⟩;rcases UO (tx cs)with z|z<;>rw [z]<;>decide
  rcases UO (tx cs)with z|z
  · rw [z]at st
    refine wpAny_pyNext_ascii_item st hx λh' st' sb=>fin h' (by rw [z];exact st') sb
  · rw [z]at st
    refine wpAny_pyNext_wide_item st hx λh' st' sb=>fin h' (by rw [z];exact st') sb
 done:=by
  intro X hP hw hK hc i pins s σ H E I hf st hg;subst hP hw hK;obtain⟨f0,f1,f2,f3,f4,f5⟩:=hf it (by simp);have hg:cs.length<=i:=hg;have hx:(tx cs).cps[i]? = none:=by simp [tx];omega
  rcases UO (tx cs)with z|z
  · rw [z]at st
    exact wpAny_pyNext_ascii_end (I.ok.hd hc) st hx λh' eb=>⟨rfl,I.turned (t':=s.toks) (λb o hb e=>eb b o hb e) f0 f1 f3 f4 f5⟩
  · rw [z]at st
    exact wpAny_pyNext_wide_end (I.ok.hd hc) st hx λh' eb=>⟨rfl,I.turned (t':=s.toks) (λb o hb e=>eb b o hb e) f0 f1 f3 f4 f5⟩
 self:=λ_ i _ _ _ st h=>by
  rcases UO (tx cs)with z|z
  · rw [z]at st
    exact wpAny_pyIter_striter_ascii st h
  · rw [z]at st
    exact wpAny_pyIter_striter_wide st h
variable{tg:Expr}
def Zip(K:PySem.W.Frag)(tl:TE):TI:=λσ H R=>tl σ H λx H1=>(∃a xs,x = .ref a/\SqL K H1 a xs/\R (Itl K a) H1)\/(∃a xs,x = .ref a/\SqT K H1 a xs/\R (Itt K a) H1)\/∃cs,x=S cs/\R (Its cs) H1
theorem ZgS{l:Expr}{tl:TE}(hl:PE X l tl):PI X tg l (Zip X.K tl):=by
 intro pins s σ H R I h;refine thn (hl pins s σ H _ I h) λv s1 ⟨x,H1,I1,r1,q1⟩ => ?_
 rcases q1 with⟨a,xs,e,hq,q⟩|⟨a,xs,e,hq,q⟩|⟨cs,e,q⟩
 · subst e
   cases r1;obtain⟨its,rv,p,hz⟩:=I1.list hq;refine wpAny_pyIter_list p.isList ?_;refine⟨s1.heap.objs.size,[s1.heap.objs.size],_,_,H1,rfl,I1.kept (t':=s1.toks) λb o e=>Heap.get?_push_of_some _ e,Zdm a _,⟨_,Heap.get?_push_size _ rfl,rfl,rfl⟩,λb hb => ?_,q⟩;have e:b=s1.heap.objs.size:=by simpa using hb
   subst e;exact I1.fpOk (Nat.le_refl _) (I1.hok.fresh (Nat.le_refl _))
 · have hpi:=ZgL (X:=X) (tg:=tg) (l:=l) (tl:=λ_ H Q=>Q (.ref a) H)
   subst e;cases r1;obtain⟨its,rv,p,hz⟩:=I1.tuple hq;refine wpAny_pyIter_tuple (show s1.heap.IsTuple a its.toArray from p) ?_;refine⟨s1.heap.objs.size,[s1.heap.objs.size],_,_,H1,rfl,I1.kept (t':=s1.toks) λb o e=>Heap.get?_push_of_some _ e,ZaG a _,⟨_,Heap.get?_push_size _ rfl,rfl,rfl⟩,λb hb => ?_,q⟩;have e:b=s1.heap.objs.size:=by simpa using hb
   subst e;exact I1.fpOk (Nat.le_refl _) (I1.hok.fresh (Nat.le_refl _))
 · subst e
   obtain⟨t,rfl⟩:=r1;refine wpAny_pyIter_strU ?_;refine⟨s1.heap.objs.size,[s1.heap.objs.size],_,_,H1,rfl,I1.kept (t':=s1.toks) λb o e=>Heap.get?_push_of_some _ e,Zed _ cs t,⟨_,Heap.get?_push_size _ rfl,rfl,rfl⟩,λb hb => ?_,q⟩;have e:b=s1.heap.objs.size:=by simpa using hb
   subst e;exact I1.fpOk (Nat.le_refl _) (I1.hok.fresh (Nat.le_refl _))
def rAddS:R2:=λx y H Q=>∃a b,x=S a/\y=S b/\a.length+b.length<=sizeLine/\Q (S (a++b)) H
theorem op_addS:OpR X (binaryOp .Add) rAddS:=by
 intro pins s σ H x y v u Q I rx ry h;obtain⟨a,b,rfl,rfl,hz,q⟩:=h;refine Zcq pins s σ H _ _ v u Q I rx ry ⟨tx a,tx b,rfl,rfl,by rw [Xa,Xa];exact hz,?_⟩;rw [ZcK];exact q
def rAddX:R2:=λx y H Q=>rI0 (λi j => .int (i+j)) x y H Q\/rAddS x y H Q\/rCat x y H Q
theorem YT:OpR X (binaryOp .Add) rAddX:=op_add.or (op_addS.or ZgR)
def Zkc(neg:Bool):R2:=λx y H Q=>∃c b,x=S [c]/\y=S b/\Q (.bl (neg != decide (c∈b))) H
theorem op_inS:OpR X (compareOp .In) (Zkc false):=by
 intro pins s σ H x y v u Q I rx ry h;obtain⟨c,b,rfl,rfl,q⟩:=h;refine Zdn pins s σ H _ _ v u Q I rx ry ⟨tx [c],tx b,rfl,rfl,?_⟩;have e:=StrLaws.found_one (tx b) c;rw [Vw]at e;rw [show tx [c]=(⟨#[c]⟩:Str)from rfl,e];simpa using q
def Jz(K:PySem.W.Frag)(neg:Bool):R2:=λx y H Q=>Zkc neg x y H Q\/rIn K neg x y H Q
theorem ZgT:OpR X (compareOp .In) (Jz X.K false):=op_inS.or Zdt
def rIxSt:R2:=λx y H Q=>∃a i c,x=S a/\y = .int i/\a.length<=sizeLine/\atI a i=some c/\Q (S [c]) H
theorem Zkk:IxR X rIxSt:=by
 intro value slice pins s σ H x y v u Q I rx ry h hs;obtain⟨a,i,c,rfl,rfl,hz,he,q⟩:=h;exact ix_str value slice pins s σ H _ _ v u Q I rx ry ⟨tx a,i,c,rfl,rfl,by rw [Xa];exact hz,by rw [Vw];exact he,q⟩ hs
def Ziq(K:PySem.W.Frag):R2:=λx y H Q=>Zj9 K x y H Q\/Zka K x y H Q\/rIxSt x y H Q
theorem Zkl:IxR X (Ziq X.K):=ix_list.or (ix_tup.or Zkk)
def rSlS:V->Option Int->Option Int->Hp->VK->Prop:=λx lo hi H Q=>∃a,x=S a/\a.length<=sizeLine/\Q (S (cutL a lo hi)) H
theorem sl_S:SlR X rSlS:=by
 intro pins s σ H x v vl vu lo hi sl Q I rx hs pl pu h;obtain⟨a,rfl,hz,q⟩:=h;obtain⟨t,rfl⟩:=rx;refine⟨"str",_,F.slot_str_getitem.lookup,typeIs_str _ _ _,?_⟩;have fin:∀t' k,EP X pins σ Q (.str (Txt.slice (tx a) lo hi) t') { s with toks:=k }:=λt' k=>⟨S (cutL a lo hi),H,I.tok _,⟨t',by rw [Zd9]⟩,q⟩
 have hle:(Txt.slice (tx a) lo hi).length<=sizeLine:=Nat.le_trans (Txt.slice_le _ _ _) (by rw [Xa];exact hz);cases pl with
 |none=>
  cases pu with
  |none=>exact wpAny_getItem_str_slice (l:=none) (u:=none) (st:=none) hs rfl (post_val_or_str ⟨hle,fin⟩)
  |int j uj=>exact wpAny_getItem_str_slice (l:=none) (u:=some (j,uj)) (st:=none) hs rfl (post_val_or_str ⟨hle,fin⟩)
 |int i ui=>
  cases pu with
  |none=>exact wpAny_getItem_str_slice (l:=some (i,ui)) (u:=none) (st:=none) hs rfl (post_val_or_str ⟨hle,fin⟩)
  |int j uj=>exact wpAny_getItem_str_slice (l:=some (i,ui)) (u:=some (j,uj)) (st:=none) hs rfl (post_val_or_str ⟨hle,fin⟩)
def Zir(K:PySem.W.Frag):V->Option Int->Option Int->Hp->VK->Prop:=λx lo hi H Q=>rSlS x lo hi H Q\/Zkb K x lo hi H Q\/Zj8 K x lo hi H Q
theorem Zkm:SlR X (Zir X.K):=sl_S.or (sl_list.or ZgO)
def Zfj(K:PySem.W.Frag):List V->Hp->VK->Prop:=λxs H Q=>(∃a,xs=[S a]/\a.length<=sizeLine/\Q (.int a.length) H)\/∃p ys,xs=[.ref p]/\(SqL K H p ys\/SqT K H p ys)/\Q (.int ys.length) H
theorem Zdx:YI X (.builtin "len") (Zfj X.K):=by
 intro pins s σ H xs us Q I rs q;rcases q with⟨a,rfl,hz,q⟩|q
 · exact Zbw pins s σ H _ us Q I rs ⟨tx a,rfl,by rw [Xa];exact hz,by rw [Xa];exact q⟩
 · exact Zbv pins s σ H xs us Q I rs q
def rIntX:List V->Hp->VK->Prop:=λxs H Q=>(∃a,xs=[S a]/\a.length<=640/\a≠[]/\a.all Jy=true/\Q (.int (Zio a:Nat)) H)\/(∃k,xs=[.bl k]/\Q (.int (if k then 1 else 0)) H)
theorem Zdy:YI X (.type "int") rIntX:=by
 intro pins s σ H xs us Q I rs h;rcases h with⟨a,rfl,hl,hne,hd,q⟩|h
 · obtain⟨u,rfl,t,rfl⟩:=Y2 rs
   have hd':PySem.NumText.AllDigits (tx a).cps.toList:=by
    rw [Vw];intro c hc;have:=List.all_eq_true.mp hd c hc;unfold Jy at this;rw [Bool.and_eq_true,decide_eq_true_eq,decide_eq_true_eq]at this;exact this
   have e:=PySem.intText_digits hd' (by rw [Vw];exact hne) (by rw [Xa];omega);rw [Vw]at e;exact PySem.W.KIN.call_text e (by rw [Xa];exact hl) ⟨.int (Zio a:Nat),H,I.tok _,⟨_,rfl⟩,q⟩
 · exact Zdo pins s σ H xs us Q I rs (.inr h)
theorem ZfE(bs:List Bool):∀(its:List Value),Vals (bs.map V.bl) its->its=bs.map Value.bool:=by
 induction bs with
 |nil=>intro its r;cases r;rfl
 |cons b bs ih=>
  intro its r;cases r with
  |cons r1 r2=>
   rw [ih _ r2];cases r1;rfl
theorem Zdz(bs:List Bool):((List.range bs.length).all λi=>bs.getD i false)=bs.all id:=by
 rw [Bool.eq_iff_iff,List.all_eq_true,List.all_eq_true];constructor
 · intro h b hb
   obtain⟨i,hi⟩:=List.getElem?_of_mem hb;have hl:i<bs.length:=(List.getElem?_eq_some_iff.mp hi).1;have:=h i (List.mem_range.mpr hl);rw [List.getD_eq_getElem?_getD,hi]at this;exact this
 · intro h i hi
   have hl:=List.mem_range.mp hi;have:=h bs[i] (List.getElem_mem hl);rw [List.getD_eq_getElem?_getD,List.getElem?_eq_getElem hl];exact this
theorem ZdA(bs:List Bool):((List.range bs.length).any λi=>bs.getD i false)=bs.any id:=by
 rw [Bool.eq_iff_iff,List.any_eq_true,List.any_eq_true];constructor
 · rintro⟨i,hi,h⟩
   have hl:=List.mem_range.mp hi;rw [List.getD_eq_getElem?_getD,List.getElem?_eq_getElem hl]at h;exact⟨bs[i],List.getElem_mem hl,h⟩
 · rintro⟨b,hb,h⟩
   obtain⟨i,hi⟩:=List.getElem?_of_mem hb;have hl:i<bs.length:=(List.getElem?_eq_some_iff.mp hi).1;refine⟨i,List.mem_range.mpr hl,?_⟩;rw [List.getD_eq_getElem?_getD,hi];exact h
def QC(K:PySem.W.Frag)(f:List Bool->Bool):List V->Hp->VK->Prop:=λxs H Q=>∃p bs,xs=[.ref p]/\SqL K H p (bs.map V.bl)/\Q (.bl (f bs)) H
theorem ZaI {pins:List (Addr×Obj)} {σ:St} {H:Hp} {s:Shared} {p:Addr} {bs:List Bool} {Q:Value->Shared->Prop} {E:Value->Shared->Prop} {f:(Nat->Bool)->Bool} (hc:X.calm=true) (I:Inv X pins σ H s) (hq:SqL X.K H p (bs.map V.bl))
 (q:∀h' tk,(∀b o,s.heap.get? b=some o->h'.get? b=some o)->Q (.bool (f λi=>bs.getD i false)) { s with heap:=h',toks:=tk }) :
 wpAny (model X.prog X.w) X.A.in1 (pyIter (.ref p)) (λit s₂=>∃I fp wr n P St tr,it = .ref I/\Walks X.prog X.w X.A.in1 I fp wr n P St/\St 0 s₂.heap/\TruthOf X.prog X.w X.A.in1 P tr /\
  n=bs.length/\tr=(λi=>bs.getD i false)/\∀h' tk,(∀b o,b∉wr->s₂.heap.get? b=some o->h'.get? b=some o)->Q (.bool (f tr)) { s₂ with heap:=h',toks:=tk }) E s:=by
 obtain⟨its,rv,pl,hz⟩:=I.list hq;have e:=ZfE bs its rv;subst e;refine wpAny_pyIter_list pl.isList ?_;have hlt:p<s.heap.objs.size:=pl.lt;have hh:X.A.in1.handled=none:=I.ok.hd hc;refine⟨s.heap.objs.size,_,_,_,_,_,λi=>bs.getD i false,rfl,Walks.list hh _ p (Nat.ne_of_lt hlt) (bs.map Value.bool).toArray,⟨⟨_,Heap.get?_push_size _ rfl,rfl,rfl⟩,(pl.keeps λb o e=>Heap.get?_push_of_some _ e).isList⟩,?_,by simp,rfl,λh' tk k => ?_⟩
 · intro i v s' Q' E' hv hq'
   have:v=Value.bool (bs.getD i false):=by
    have hv':(bs.map Value.bool)[i]? = some v:=by simpa using hv
    rw [List.getElem?_map]at hv';rw [List.getD_eq_getElem?_getD];cases e:bs[i]? with
    |none=>rw [e]at hv';cases hv'
    |some b=>rw [e]at hv';exact(Option.some.inj hv').symm
   subst this;exact wpAny_truthy_bool hq'
 · refine q h' tk λb o e=>k b o (λz => ?_) (Heap.get?_push_of_some _ e)
   have h1:=Heap.lt_size e;have h2:b=s.heap.objs.size:=by simpa using z
   rw [h2]at h1;exact Nat.lt_irrefl _ h1
theorem ZdB(hc:X.calm=true):YI X (.builtin "all") (QC X.K λbs=>bs.all id):=by
 intro pins s σ H xs us Q I rs h;obtain⟨p,bs,rfl,hq,q⟩:=h;obtain⟨u,rfl,rx⟩:=Y2 rs;cases rx;have z:=ZaI (f:=λtr=>(List.range bs.length).all tr) (Q:=EP X pins σ Q) (E:=X.xe) hc I hq λh' tk k=>⟨.bl _,H,I.kept k,rfl,by rw [Zdz];exact q⟩
 refine call_all_walk (wpAny_mono z (λit s₂ z2 => ?_) λ_ _ z=>z);obtain⟨I',fp,wr,n,P,St,tr,e1,W,st,ht,en,et,hq'⟩:=z2;exact⟨I',fp,wr,n,P,St,tr,e1,W,st,ht,λh' tk k=>by rw [en];exact hq' h' tk k⟩
theorem ZdC(hc:X.calm=true):YI X (.builtin "any") (QC X.K λbs=>bs.any id):=by
 intro pins s σ H xs us Q I rs h;obtain⟨p,bs,rfl,hq,q⟩:=h;obtain⟨u,rfl,rx⟩:=Y2 rs;cases rx;have z:=ZaI (f:=λtr=>(List.range bs.length).any tr) (Q:=EP X pins σ Q) (E:=X.xe) hc I hq λh' tk k=>⟨.bl _,H,I.kept k,rfl,by rw [ZdA];exact q⟩
 refine call_any_walk (wpAny_mono z (λit s₂ z2 => ?_) λ_ _ z=>z);obtain⟨I',fp,wr,n,P,St,tr,e1,W,st,ht,en,et,hq'⟩:=z2;exact⟨I',fp,wr,n,P,St,tr,e1,W,st,ht,λh' tk k=>by rw [en];exact hq' h' tk k⟩
theorem Zee:YI X (.builtin "isinstance") (λxs H Q=>∃x c cv t b,xs=[x,c]/\(∀v,RelV c v->v=cv)/\TyOf X.K H x t/\kitOne X.K t cv=some b/\Q (.bl b) H):=by
 intro pins s σ H xs us Q I rs h;obtain⟨x,c,cv,t,b,rfl,hc,ty,e,q⟩:=h;obtain⟨u,w',rfl,rx,rc⟩:=Zfg rs;have ec:=hc _ rc;subst ec;exact Zdr I rx ty e λtk=>⟨.bl b,H,I.tok tk,rfl,q⟩
theorem Zah:MtR X "str.endswith" (λx xs H Q=>∃a b,x=S a/\xs=[S b]/\Q (.bl (b.isSuffixOf a)) H):=by
 intro pins s σ H x xs v us Q I rx rs h;obtain⟨a,b,rfl,rfl,q⟩:=h;obtain⟨t,rfl⟩:=rx;obtain⟨u,rfl,t',rfl⟩:=Y2 rs;refine SC.endswith ?_;rw [ZfB];exact⟨.bl _,H,I,rfl,q⟩
end
section
variable{X:Cx}{K:PySem.W.Frag}{pos:Pos}{tg:Expr}
theorem Zgg(hK:X.K=K:=by rfl):OpR X (compareOp .In) (Jz K false):=hK▸ZgT
theorem Z1(hK:X.K=K:=by rfl):IxR X (Ziq K):=hK▸Zkl
theorem QD(hK:X.K=K:=by rfl):SlR X (Zir K):=hK▸Zkm
theorem YV(hK:X.K=K:=by rfl):YI X (.builtin "len") (Zfj K):=hK▸Zdx
theorem JA(hc:X.calm=true:=by rfl)(hK:X.K=K:=by rfl):YI X (.builtin "all") (QC K λbs=>bs.all id):=hK▸ZdB hc
theorem Zgh(hc:X.calm=true:=by rfl)(hK:X.K=K:=by rfl):YI X (.builtin "any") (QC K λbs=>bs.any id):=hK▸ZdC hc
def Zkn(K:PySem.W.Frag):List V->Hp->VK->Prop:=λxs H Q=>∃x c cv t b,xs=[x,c]/\(∀v,RelV c v->v=cv)/\TyOf K H x t/\kitOne K t cv=some b/\Q (.bl b) H
theorem XH{l:Expr}{tl:TE}(hl:PE X l tl)(hK:X.K=K:=by rfl):PI X tg l (Zip K tl):=hK▸ZgS hl
theorem YK{e:Expr}{ta:TE}{f:Str}(he:PE X e ta)(hb:attributeBase e f X.env (eval e X.env)=eval e X.env:=by rfl)(hK:X.K=K:=by rfl):PE X (.Attribute e f pos) (Jw K ta f):=hK▸ZgM he hb
def ZcL(K:PySem.W.Frag):List V->Hp->VK->Prop:=λxs H Q=>∃p ys,xs=[.ref p]/\((SqL K H p ys/\∀l,H l=none->Q (.ref l) (upd H l (.tup ys)))\/(SqT K H p ys/\Q (.ref p) H))
def ZgU(K:PySem.W.Frag):List V->Hp->VK->Prop:=λxs H Q=>∃p ys,xs=[.ref p]/\(SqL K H p ys\/SqT K H p ys)/\∀l,H l=none->Q (.ref l) (upd H l (.lst ys))
theorem QE(hK:X.K=K:=by rfl):YI X (.type "tuple") (ZcL K):=hK▸Za7
theorem XI {o e:Expr} {es:List Expr} {to:TE} {t:TA} {name:Str} {apos cpos:Pos} {T id:String} {r:V->List V->Hp->VK->Prop} (pa:PlainAttrs T) (slot:Slot T name id) (hty:typeOf (.builtin id)=pure (.type "method_descriptor")) (hm:MtR X id r) (ho:PE X o to) (ha:PA X (e::es) t)
 (hbase:attributeBase o name X.env (eval o X.env)=eval o X.env:=by rfl)
 (hfew:((backTo cpos (starEach (e::es) X.env)).all (λx => !x.1)&&(backToKw cpos (keywordEach [] X.env)).all (λx=>x.1.isSome)
   && decide ((e::es).length+([]:List Keyword).length+(if([]:List Keyword).isEmpty then 0 else 1)<30))=true:=by rfl)
 (hline:(apos.endLine == cpos.line)=true:=by rfl) (hs:starEach (e::es) X.env=(false,eval e X.env)::starEach es X.env:=by rfl) (hplain:(backTo cpos (starEach es X.env)).any (·.1)=false:=by rfl) (hK:X.K=K:=by rfl) :
 PE X (.Call (.Attribute o name apos) (e::es) [] cpos) (tBM K T r to t):=hK▸ZiL pa slot hty hm ho ha hbase hfew hline hs hplain
theorem Zfk {es:List Expr} {k:Nat} {t:TGs} {n:Nat} (h:PGs X es t) (hc:X.calm=true:=by rfl)
 (hn:(assignEach es X.env).length=n:=by rfl) (hst:(assignEach es X.env).findIdx? (·.1)=none:=by rfl) (hK:X.K=K:=by rfl):PG X (.Tuple es k pos) (Zii K n t):=hK▸ZgK hc h hn hst
end
end L2
namespace L2
open PySem PySem.Spec PyProof.Rows
theorem Zef{H:Hp}{q:Addr}{o:HO}(h:H q=none):Same H (upd H q o):=λb u e=>by
 rw [Zv (YD e h)];exact e
structure Walk(J:It)(xs:List V)(H:Hp):Prop where
 go:∀i,i<xs.length->J.go i H
 yld:∀(i:Nat)v H',i<xs.length->J.yld i H v H'->H'=H/\xs[i]? = some v
 stop:∀i,xs.length<=i->J.stop i H
end L2
namespace L2
open PySem PySem.Spec PyProof.Rows
section
variable{X:Cx}{tg:Expr}
end
end L2
namespace L2
open PySem PySem.Spec PyProof.Rows
def Zis(n0:Nat)(cs:List Nat):It:=⟨λi _=>i<cs.length,λi H v H'=>∃c p,cs[i]? = some c/\H p=none/\v = .ref p/\H'=upd H p (.tup [.int ((n0+i:Nat):Int),S [c]]),λi _=>cs.length<=i⟩
theorem Zbh{prog:Program}{w:World}{A:Around}(hh:A.handled=none)(it:Addr)(cs:List Nat)(t:Tok)(n0:Nat) :
 Draws prog w A it [it] (n0+cs.length) (λi v=>∃j c u,i=n0+j/\cs[j]? = some c/\v = .str ⟨#[c]⟩ u) (λi h=>∃j,i=n0+j/\h.IsStrIter it (strIterType (tx cs)) (tx cs) t j) where
 live:=λi h ⟨j,_,o,ho,_⟩=>⟨o,ho⟩
 frame:=λi h h' ⟨j,e,o,ho,r⟩ hk=>⟨j,e,o,hk it (by simp) o ho,r⟩
 item:=λi s Q E hi st hQ=>by
  obtain⟨j,rfl,st⟩:=st;have hj:j<cs.length:=by omega
  have hx:(tx cs).cps[j]? = some cs[j]:=by simp [tx,hj]
  rcases UO (tx cs)with z|z
  · rw [z]at st
    refine wpAny_nextOf_ascii_item st hx λh' st' sb => ?_
    exact hQ _ h' (s.toks+1) ⟨j,_,_,rfl,by simp [hj],rfl⟩ ⟨j+1,by omega,by rw [z];exact st'⟩ sb
  · rw [z]at st
    refine wpAny_nextOf_wide_item st hx λh' st' sb => ?_
    exact hQ _ h' (s.toks+1) ⟨j,_,_,rfl,by simp [hj],rfl⟩ ⟨j+1,by omega,by rw [z];exact st'⟩ sb
 done:=λs Q E st hE=>by
  obtain⟨j,e,st⟩:=st;have hj:j=cs.length:=by omega
  subst hj;have hx:(tx cs).cps[cs.length]? = none:=by simp [tx]
  rcases UO (tx cs)with z|z
  · rw [z]at st
    exact wpAny_nextOf_ascii_end hh st hx hE
  · rw [z]at st
    exact wpAny_nextOf_wide_end hh st hx hE
theorem Zcx{P:Program}{w:World}{K:PySem.W.Frag}{elts:List Expr}{x1:Nat}{tpos:Pos}(e it:Addr)(hne:e≠it)(n0:Nat)(cs:List Nat)(t:Tok) :
 Turn P w K (.Tuple elts x1 tpos) (Zis n0 cs) [e,it] e (λi h=>(i<=cs.length/\∃old,IsEnum h e it ((n0+i:Nat):Int) old)/\h.IsStrIter it (strIterType (tx cs)) (tx cs) t i) where
 mem:=by simp
 obj:=λi h st b hb=>by
  obtain⟨⟨_,old,he⟩,o,ho,hc,hd⟩:=st;simp at hb;rcases hb with rfl|rfl
  · exact ⟨_, he, fun v z => by
     have z':Data.fields _=Data.cell v:=z;cases z'⟩
  · exact⟨o,ho,λv z=>by rw [hd]at z;cases z⟩
 keep:=λi h h' st k=>by
  obtain⟨⟨hi,old,he⟩,o,ho,r⟩:=st;exact⟨⟨hi,old,k e (by simp) _ he⟩,o,k it (by simp) o ho,r⟩
 item:=by
  intro X hP hw hK hc i pins s σ H E I hf st hg;subst hP hw hK;obtain⟨⟨_,old,he⟩,st⟩:=st;have hg:i<cs.length:=hg;have f:=hf e (by simp);have g:=hf it (by simp);obtain⟨e0,e1,e2,e3,e4,e5⟩:=f;obtain⟨f0,f1,f2,f3,f4,f5⟩:=g;have D:=Zbh (prog:=X.prog) (w:=X.w) (A:=X.A.in1) (I.ok.hd hc) it cs t n0;refine wpAny_pyNext_enum_itemD D he ⟨i,rfl,st⟩ (by omega) hne (by simp [hne]) λx h' tk hP ho st' hT hsz hk => ?_
  obtain⟨j,c,u,ej,hcx,rfl⟩:=hP;have ej':j=i:=by omega
  subst ej';refine⟨_,rfl,wpAny_letOwnedTupleGo_enum ho λh2 he2 hs2 => ?_⟩;have hs2:Heap.SameBut e h' h2:=hs2;have hTl:e<s.heap.objs.size:=Heap.lt_size he;obtain⟨j',ej2,st''⟩:=st';have ej3:j'=j+1:=by omega
  subst ej3;have hT2:h2.get? s.heap.objs.size=some { cls := .type "tuple",data := .seq #[.int ((n0+j:Nat):Int) tk,.str ⟨#[c]⟩ u] }:=(hs2.2 _ (Nat.ne_of_gt hTl)).trans hT;have k2:∀b o,b≠e->b≠it->s.heap.get? b=some o->h2.get? b=some o:=λb o hb hb' q=>(hs2.2 b hb).trans (hk b o hb hb' q)
  have hTn:H s.heap.objs.size=none:=I.hok.fresh (Nat.le_refl _);have neT:∀b o,s.heap.get? b=some o->b≠s.heap.objs.size:=λb o q=>Nat.ne_of_lt (Heap.lt_size q)
  have I2:Inv X pins σ (upd H s.heap.objs.size (.tup [.int ((n0+j:Nat):Int),S [c]])) { s with heap:=h2,toks:=tk+1 }:=by
   refine I.step (g':=s.gens) (d':=s.drawn) (ch:=[e,it]) (λb hb => ?_) (λb o _ _ hcb q _ => ?_) (λb o _ _ hcb q _ => ?_) (λb o hcb q n => ?_) (λb o hcb q => ?_) (λb xs q => ?_) (λb o v q => ?_) (λb ps q => ?_) (λm hm => ?_) (λb o q => ?_) I.bare
   · simp at hb
     rcases hb with rfl|rfl
     · exact⟨e3,e1,e4,e5⟩
     · exact⟨f3,f1,f4,f5⟩
   · simp at hcb
     exact k2 b o hcb.1 hcb.2 q
   · simp at hcb
     exact⟨o.slots,k2 b o hcb.1 hcb.2 q⟩
   · rw [Zv (neT b o q)]
     exact n
   · simp at hcb
     exact⟨o,k2 b o hcb.1 hcb.2 q⟩
   · rw [Zv (YD q hTn)]
     exact q
   · rw [Zv (YD q hTn)]
     exact q
   · exact⟨#[],by rw [Zv (YD q hTn),q];simp⟩
   · obtain⟨o,es,ep,q,r⟩:=hm
     exact⟨o,es,ep,k2 _ o (Ne.symm e1) (Ne.symm f1) q,r⟩
   · by_cases hb:b=s.heap.objs.size
     · subst hb
       rw [Yq]at q;cases q;refine⟨by show 2<=sizeLine;decide,[.int ((n0+j:Nat):Int) tk,.str ⟨#[c]⟩ u],.cons ⟨_,rfl⟩ (.cons ⟨_,rfl⟩ .nil),?_⟩;exact⟨_,hT2,rfl,⟨_,rfl⟩,rfl⟩
     · rw [Zv hb]at q
       have nn:∀(b:Addr)(o:HO),H b=some o->b≠e/\b≠it:=λb o q=>⟨λz=>(by rw [z,e0]at q;cases q),λz=>(by rw [z,f0]at q;cases q)⟩
       refine(I.hok b o q).stay (λd v hd q' => ?_) (λd q'=>by rw [Zv (YD q' hTn)];exact q') λd xs q'=>by rw [Zv (YD q' hTn)];exact q'
       rcases hd with rfl|hd
       · exact k2 d v (nn d o q).1 (nn d o q).2 q'
       · exact k2 d v (nn d _ hd).1 (nn d _ hd).2 q'
  have he3:IsEnum h2 e it ((n0+(j+1):Nat):Int) (.str ⟨#[c]⟩ u):=by
   have:((n0+(j+1):Nat):Int)=((n0+j:Nat):Int)+1:=by push_cast;omega
   rw [this];exact he2
  refine⟨.ref s.heap.objs.size,_,I2,rfl,⟨c,s.heap.objs.size,hcx,hTn,rfl,rfl⟩,⟨⟨hg,_,he3⟩,?_⟩,λb hb => ?_⟩
  · obtain⟨o,ho',r⟩:=st''
    exact⟨o,(hs2.2 it (Ne.symm hne)).trans ho',r⟩
  · simp at hb
    rcases hb with rfl|rfl
    · rw [Zv (Nat.ne_of_lt hTl)];exact e0
    · obtain⟨o,ho',_⟩:=st
      rw [Zv (neT _ o ho')];exact f0
 done:=by
  intro X hP hw hK hc i pins s σ H E I hf st hg;subst hP hw hK;obtain⟨⟨hi,old,he⟩,st⟩:=st;have hg:cs.length<=i:=hg;have ei:i=cs.length:=by omega
  subst ei;obtain⟨f0,f1,f2,f3,f4,f5⟩:=hf it (by simp);have D:=Zbh (prog:=X.prog) (w:=X.w) (A:=X.A.in1) (I.ok.hd hc) it cs t n0;exact wpAny_pyNext_enum_endD D he ⟨cs.length,rfl,st⟩ λh' eb=>⟨rfl,I.turned (t':=s.toks) (λb o hb q=>eb b o hb q) f0 f1 f3 f4 f5⟩
 self:=λ_ _ _ _ _ st h=>by
  obtain⟨⟨_,old,he⟩,_⟩:=st;exact wpAny_pyIter_enum he h
section
variable{X:Cx}{elts:List Expr}{x1:Nat}{tpos:Pos}
def Zfl(ta:TA):TI:=λσ H R=>ta σ H λvs H1=>∃cs,vs=[S cs]/\R (Zis 0 cs) H1
theorem ZfF {a:Expr} {ta:TA} {p pos:Pos} (hg:Gl X "enumerate") (hm:X.mg "enumerate" = none) (ha:PA X [a] ta) (hs:starEach [a] X.env=[(false,eval a X.env)]:=by rfl):PI X (.Tuple elts x1 tpos) (.Call (.Name "enumerate" p) [a] [] pos) (Zfl ta):=by
 intro pins s σ H R I h;refine Call_ (Uk I hg hm boot_enumerate (PyProof.Rows.callWith_type1 (thn (ha pos pins s σ H _ I h) λus s1 ⟨vs,H1,I1,r1,q1⟩ => ?_) hs rfl));obtain⟨cs,e,q⟩:=q1;subst e;cases r1 with
 |cons r rr=>
  cases rr;obtain⟨t,rfl⟩:=r;refine call_enumerate_str λh' he st hsz k => ?_
  refine wpAny_pyIter_enum he ?_;have I2:Inv X pins σ H1 { s1 with heap:=h' }:=I1.kept (t':=s1.toks) k;refine⟨s1.heap.objs.size+1,[s1.heap.objs.size+1,s1.heap.objs.size],_,_,H1,rfl,I2,Zcx (s1.heap.objs.size+1) s1.heap.objs.size (Nat.succ_ne_self _) 0 cs t,⟨⟨Nat.zero_le _,_,he⟩,st⟩,λb hb => ?_,q⟩
  have hb':s1.heap.objs.size<=b:=by
   simp at hb;rcases hb with rfl|rfl
   · exact Nat.le_succ _
   · exact Nat.le_refl _
  exact I1.fpOk hb' (I1.hok.fresh hb')
end
end L2
namespace L2
open PySem PySem.Spec PyProof.Rows
section
variable{κ:Type} [DecidableEq κ]
def X6(kvs:List (κ×V))(k:κ):Option V:=(kvs.find? λkv=>decide (kv.1=k)).map (·.2)
def JB(kvs:List (κ×V))(k:κ)(v:V):List (κ×V):=
 if(kvs.any λkv=>decide (kv.1=k))=true then kvs.map (λkv=>if kv.1=k then(kv.1,v)else kv)else kvs++[(k,v)]
theorem Zca{p:κ×V}{r:List (κ×V)}{k:κ}(e:p.1=k):X6 (p::r) k=some p.2:=by simp [X6,List.find?_cons,e]
theorem Zcb{p:κ×V}{r:List (κ×V)}{k:κ}(e:¬p.1=k):X6 (p::r) k=X6 r k:=by simp [X6,List.find?_cons,e]
theorem KV.val{kvs:List (κ×V)}{vs:List (κ×Value)}(r:KV kvs vs)(k:κ):RelO (X6 kvs k) (valueAt vs k):=by
 unfold KV at r
 induction r with
 |nil=>exact True.intro
 | @cons p q ps qs h t ih=>
  obtain⟨h1,h2⟩:=h
  by_cases e:p.1=k
  · have e':q.1=k:=h1.symm.trans e
    have b:valueAt (q::qs) k=some q.2:=by simp [valueAt,List.find?_cons,e']
    rw [Zca e,b];exact h2
  · have e':¬q.1=k:=λz=>e (h1.trans z)
    have b:valueAt (q::qs) k=valueAt qs k:=by simp [valueAt,List.find?_cons,e']
    rw [Zcb e,b];exact ih
theorem KV.any{kvs:List (κ×V)}{vs:List (κ×Value)}(r:KV kvs vs)(k:κ):(kvs.any λkv=>decide (kv.1=k))=vs.any λkv=>decide (kv.1=k):=by
 unfold KV at r
 induction r with
 |nil=>rfl
 |cons h t ih=>rw [List.any_cons,List.any_cons,ih,h.1]
theorem KV.length{kvs:List (κ×V)}{vs:List (κ×Value)}(r:KV kvs vs):kvs.length=vs.length:=Paired.length r
end
abbrev KT(H:Hp):List (List Key×V)->List (List Key×Addr×Value)->Prop:=Paired λp q=>p.1=q.1/\H q.2.1=some (.tup (p.1.map kV))/\RelV p.2 q.2.2
theorem KT.val{H:Hp}{kvs:List (List Key×V)}{xs:List (List Key×Addr×Value)}(r:KT H kvs xs)(k:List Key):RelO (X6 kvs k) ((atKey xs k).map (·.2)):=by
 induction r with
 |nil=>exact True.intro
 | @cons p q ps qs h t ih=>
  obtain⟨h1,_,h2⟩:=h
  by_cases e:p.1=k
  · have e':q.1=k:=h1.symm.trans e
    have b:atKey (q::qs) k=some q.2:=by simp [atKey,List.find?_cons,e']
    rw [Zca e,b];exact h2
  · have e':¬q.1=k:=λz=>e (h1.trans z)
    have b:atKey (q::qs) k=atKey qs k:=by simp [atKey,List.find?_cons,e']
    rw [Zcb e,b];exact ih
theorem KT.keeps{H H':Hp}{kvs:List (List Key×V)}{xs:List (List Key×Addr×Value)}(r:KT H kvs xs)(ht:∀b ys,H b=some (.tup ys)->H' b=some (.tup ys)):KT H' kvs xs:=
 Paired.mapP r λ_ _ z=>⟨z.1,ht _ _ z.2.1,z.2.2⟩
section
variable{P:Program}{w:World}{H:Hp}{h:Heap}{a:Addr}
end
def DGet(H:Hp)(a:Addr)(y:V)(r:Option V):Prop:=
 (∃kvs k,Rd H a (.dK kvs)/\y=kV k/\r=X6 kvs k)\/∃kvs k b,Rd H a (.dT kvs)/\y = .ref b/\H b=some (.tup (k.map kV))/\r=X6 kvs k
def DPut(H:Hp)(a:Addr)(y v:V)(H':Hp):Prop:=
 (∃kvs k,H a=some (.dK kvs)/\y=kV k/\kvs.length<sizeLine/\H'=upd H a (.dK (JB kvs k v))) \/
 ∃kvs k b,H a=some (.dT kvs)/\y = .ref b/\H b=some (.tup (k.map kV))/\kvs.length<sizeLine/\H'=upd H a (.dT (JB kvs k v))
theorem DGet.k{H:Hp}{a:Addr}{kvs:List (Key×V)}{k:Key}(e:H a=some (.dK kvs)):DGet H a (kV k) (X6 kvs k) := .inl ⟨kvs,k,.inl e,rfl,rfl⟩
theorem DGet.t{H:Hp}{a b:Addr}{kvs:List (List Key×V)}{k:List Key}(e:H a=some (.dT kvs))(eb:H b=some (.tup (k.map kV))):DGet H a (.ref b) (X6 kvs k) := .inr ⟨kvs,k,b,.inl e,rfl,eb,rfl⟩
theorem DPut.k{H:Hp}{a:Addr}{kvs:List (Key×V)}{k:Key}{v:V}(e:H a=some (.dK kvs))(hl:kvs.length<sizeLine):DPut H a (kV k) v (upd H a (.dK (JB kvs k v))) := .inl ⟨kvs,k,e,rfl,hl,rfl⟩
theorem DPut.t{H:Hp}{a b:Addr}{kvs:List (List Key×V)}{k:List Key}{v:V}(e:H a=some (.dT kvs))(eb:H b=some (.tup (k.map kV)))(hl:kvs.length<sizeLine) :
 DPut H a (.ref b) v (upd H a (.dT (JB kvs k v))) := .inr ⟨kvs,k,b,e,rfl,eb,hl,rfl⟩
section
variable{X:Cx}{pins:List (Addr×Obj)}{σ:St}{H:Hp}{s:Shared}{a:Addr}{y v:V}{u r:Value}{o:Option V}{A:Around}{E:Value->Shared->Prop}
end
section
variable{X:Cx}{pins:List (Addr×Obj)}{σ:St}{H:Hp}{s:Shared}{a:Addr}{kvs:List (Key×V)}{k:Key}{u:Value}{A:Around}{E:Value->Shared->Prop}
end
section
variable{X:Cx}{o i e value:Expr}{pos pos' tpos:Pos}{td ty tv:TE}
end
section
variable{X:Cx}{pos:Pos}
end
structure M1(X:Cx)(o:Expr)(m:Str)(apos:Pos)(e:Expr)(cpos:Pos):Prop where
 base:attributeBase o m X.env (eval o X.env)=eval o X.env
 few:((backTo cpos (starEach [e] X.env)).all (λx => !x.1)&&(backToKw cpos (keywordEach [] X.env)).all (λx=>x.1.isSome)
  && decide (([e]:List Expr).length+([]:List Keyword).length+(if([]:List Keyword).isEmpty then 0 else 1)<30))=true
 line:(apos.endLine == cpos.line)=true
 trees:backTo cpos (starEach [e] X.env)=[(false,eval e X.env)]
structure M2(X:Cx)(o:Expr)(m:Str)(apos:Pos)(e f:Expr)(cpos:Pos):Prop where
 base:attributeBase o m X.env (eval o X.env)=eval o X.env
 few:((backTo cpos (starEach [e,f] X.env)).all (λx => !x.1)&&(backToKw cpos (keywordEach [] X.env)).all (λx=>x.1.isSome)
  && decide (([e,f]:List Expr).length+([]:List Keyword).length+(if([]:List Keyword).isEmpty then 0 else 1)<30))=true
 line:(apos.endLine == cpos.line)=true
 trees:backTo cpos (starEach [e,f] X.env)=[(false,eval e X.env),(false,eval f X.env)]
section
variable{X:Cx}{pins:List (Addr×Obj)}{σ:St}{H:Hp}{s:Shared}{a:Addr}{y d:V}{u r:Value}{o:Option V}{A:Around}{E:Value->Shared->Prop}
end
section
variable{X:Cx}{o e f:Expr}{apos cpos:Pos}{td ty tx:TE}
end
section
variable{X:Cx}{pins:List (Addr×Obj)}{σ:St}{H:Hp}{s:Shared}{a:Addr}{kvs:List (Key×V)}{A:Around}{E:Value->Shared->Prop}
end
section
variable{X:Cx}{pins:List (Addr×Obj)}{σ:St}{H:Hp}{s:Shared}{a:Addr}{y:V}{u:Value}{A:Around}{E:Value->Shared->Prop}
end
end L2
namespace DL
open PySem PySem.Spec L2
inductive D where
 |non
 |bl (b:Bool)
 |int (i:Int)
 |str (cs:List Nat)
 |lst (xs:List D)
 |tup (xs:List D)
 |obj (c:String) (ks:List String) (xs:List D)
 |dct (ks:List Key) (xs:List D)
 |dtt (ks:List (List Key)) (xs:List D)
def KL(K:PySem.W.Frag)(a:Addr)(vs:List V):Prop:=∃(o:Obj) (its:Array Value) (n:Nat),K.lookup a=some o/\o.cls = .type "list" /\ o.dict=none/\o.data = .seq its n/\its.size<=sizeLine/\Vals vs its.toList
structure Kn where
 c:String->Addr
 K:PySem.W.Frag
def Yg:D->Bool
 | .non=>true
 | .bl _=>true
 | .int _=>true
 | .str _=>true
 |_=>false
mutual
def Rep(cA:Kn)(av:Addr->Prop)(H:Hp):D->V->Prop
 | .non,v=>v = .non
 | .bl b,v=>v = .bl b
 | .int i,v=>v = .int i
 | .str cs,v=>v=S cs
 | .lst xs,v=>∃a vs,v = .ref a/\(av a->KL cA.K a vs)/\SqL cA.K H a vs/\RepL cA av H xs vs
 | .tup xs,v=>∃a vs,v = .ref a/\¬av a/\H a=some (.tup vs)/\RepL cA av H xs vs
 | .obj c ks xs,v=>∃a dx vs,v = .ref a/\¬av a/\H a=some (.ins (cA.c c) dx ((ks.map Str.ofString).zip vs))/\ks.length=xs.length/\RepL cA av H xs vs
 | .dct ks xs,v=>∃a vs,v = .ref a/\¬av a/\H a=some (.dK (ks.zip vs))/\ks.length=xs.length/\RepL cA av H xs vs
 | .dtt ks xs,v=>∃a vs,v = .ref a/\¬av a/\H a=some (.dT (ks.zip vs))/\ks.length=xs.length/\RepL cA av H xs vs
def RepL(cA:Kn)(av:Addr->Prop)(H:Hp):List D->List V->Prop
 | [],vs=>vs=[]
 |x::xs,vs=>∃v r,vs=v::r/\Rep cA av H x v/\RepL cA av H xs r
end
section
variable{cA:Kn}{G:Cn}{av av':Addr->Prop}{H H':Hp}
theorem Rd.ext{a:Addr}{u:HO}(h:Rd H a u)(k:∀o,H a=some o->H' a=some o):Rd H' a u:=by
 rcases h with h|⟨o,h⟩
 · exact .inl (k _ h)
 · exact .inr ⟨o,k _ h⟩
theorem Rd.there{a:Addr}{u:HO}(h:Rd H a u):H a≠none:=by
 rcases h with h|⟨o,h⟩<;>rw [h]<;>exact λz=>by cases z
theorem JC{K:PySem.W.Frag}{a:Addr}{vs:List V}(n:av a->KL K a vs)(r:SqL K H a vs)(k:∀b o,¬av b->H b=some o->H' b=some o):SqL K H' a vs:=by
 by_cases h:av a
 · exact .inr (n h)
 · rcases r with r|r
   · exact .inl (Rd.ext r λo=>k a o h)
   · exact .inr r
theorem ZiO{K:PySem.W.Frag}{a:Addr}{vs:List V}(n:av a->KL K a vs)(r:SqL K H a vs)(k:∀b,av' b->av b\/H b=none):av' a->KL K a vs:=λz=>by
 rcases k a z with z|z
 · exact n z
 · rcases r with r|r
   · exact absurd z (Rd.there r)
   · exact r
mutual
theorem Rep.ext:∀{d:D}{v:V},(∀b o,¬av b->H b=some o->H' b=some o)->Rep cA av H d v->Rep cA av H' d v
 | .non,_,_,h=>h
 | .bl _,_,_,h=>h
 | .int _,_,_,h=>h
 | .str _,_,_,h=>h
 | .lst xs,v,k,h=>by
  unfold Rep at h ⊢;obtain⟨a,vs,e,n,r,l⟩:=h;exact⟨a,vs,e,n,JC n r k,RepL.ext k l⟩
 | .tup xs,v,k,h=>by
  unfold Rep at h ⊢;obtain⟨a,vs,e,n,r,l⟩:=h;exact⟨a,vs,e,n,k a _ n r,RepL.ext k l⟩
 | .obj c ks xs,v,k,h=>by
  unfold Rep at h ⊢;obtain⟨a,dx,vs,e,n,r,z,l⟩:=h;exact⟨a,dx,vs,e,n,k a _ n r,z,RepL.ext k l⟩
 | .dct ks xs,v,k,h=>by
  unfold Rep at h ⊢;obtain⟨a,vs,e,n,r,z,l⟩:=h;exact⟨a,vs,e,n,k a _ n r,z,RepL.ext k l⟩
 | .dtt ks xs,v,k,h=>by
  unfold Rep at h ⊢;obtain⟨a,vs,e,n,r,z,l⟩:=h;exact⟨a,vs,e,n,k a _ n r,z,RepL.ext k l⟩
theorem RepL.ext:∀{xs:List D}{vs:List V},(∀b o,¬av b->H b=some o->H' b=some o)->RepL cA av H xs vs->RepL cA av H' xs vs
 | [],_,_,h=>h
 |x::xs,vs,k,h=>by
  unfold RepL at h ⊢;obtain⟨v,r,e,h1,h2⟩:=h;exact⟨v,r,e,Rep.ext k h1,RepL.ext k h2⟩
end
mutual
theorem Rep.av:∀{d:D}{v:V},(∀b,av' b->av b\/H b=none)->Rep cA av H d v->Rep cA av' H d v
 | .non,_,_,h=>h
 | .bl _,_,_,h=>h
 | .int _,_,_,h=>h
 | .str _,_,_,h=>h
 | .lst xs,v,k,h=>by
  unfold Rep at h ⊢;obtain⟨a,vs,e,n,r,l⟩:=h;exact⟨a,vs,e,ZiO n r k,r,RepL.av k l⟩
 | .tup xs,v,k,h=>by
  unfold Rep at h ⊢;obtain⟨a,vs,e,n,r,l⟩:=h;exact⟨a,vs,e,λz=>(k a z).elim n (by rw [r];exact λz=>by cases z),r,RepL.av k l⟩
 | .obj c ks xs,v,k,h=>by
  unfold Rep at h ⊢;obtain⟨a,dx,vs,e,n,r,z,l⟩:=h;exact⟨a,dx,vs,e,λy=>(k a y).elim n (by rw [r];exact λz=>by cases z),r,z,RepL.av k l⟩
 | .dct ks xs,v,k,h=>by
  unfold Rep at h ⊢;obtain⟨a,vs,e,n,r,z,l⟩:=h;exact⟨a,vs,e,λy=>(k a y).elim n (by rw [r];exact λz=>by cases z),r,z,RepL.av k l⟩
 | .dtt ks xs,v,k,h=>by
  unfold Rep at h ⊢;obtain⟨a,vs,e,n,r,z,l⟩:=h;exact⟨a,vs,e,λy=>(k a y).elim n (by rw [r];exact λz=>by cases z),r,z,RepL.av k l⟩
theorem RepL.av:∀{xs:List D}{vs:List V},(∀b,av' b->av b\/H b=none)->RepL cA av H xs vs->RepL cA av' H xs vs
 | [],_,_,h=>h
 |x::xs,vs,k,h=>by
  unfold RepL at h ⊢;obtain⟨v,r,e,h1,h2⟩:=h;exact⟨v,r,e,Rep.av k h1,RepL.av k h2⟩
end
theorem Rep.same{d:D}{v:V}(k:Same H H')(h:Rep cA av H d v):Rep cA av H' d v:=h.ext λb o _=>k b o
theorem RepL.same{xs:List D}{vs:List V}(k:Same H H')(h:RepL cA av H xs vs):RepL cA av H' xs vs:=h.ext λb o _=>k b o
theorem RepL.nil:RepL cA av H [] []:=by unfold RepL;rfl
theorem RepL.cons{d:D}{v:V}{xs:List D}{vs:List V}(h:Rep cA av H d v)(t:RepL cA av H xs vs):RepL cA av H (d::xs) (v::vs):=by
 unfold RepL;exact⟨v,vs,rfl,h,t⟩
theorem RepL.uncons{d:D}{xs:List D}{vs:List V}(h:RepL cA av H (d::xs) vs):∃v r,vs=v::r/\Rep cA av H d v/\RepL cA av H xs r:=by
 unfold RepL at h;exact h
theorem RepL.nil_of{vs:List V}(h:RepL cA av H [] vs):vs=[]:=by
 unfold RepL at h;exact h
theorem RepL.length:∀{xs:List D}{vs:List V},RepL cA av H xs vs->xs.length=vs.length
 | [],vs,h=>by rw [h.nil_of];rfl
 |x::xs,vs,h=>by
  obtain⟨v,r,rfl,_,t⟩:=h.uncons;rw [List.length_cons,List.length_cons,RepL.length t]
theorem RepL.get:∀{xs:List D}{vs:List V}{i:Nat}{x:D},RepL cA av H xs vs->xs[i]? = some x->∃v,vs[i]? = some v/\Rep cA av H x v
 | [],_,_,_,_,e=>by simp at e
 |y::xs,vs,0,x,h,e=>by
  obtain⟨v,r,rfl,h1,_⟩:=h.uncons;simp at e;subst e;exact⟨v,rfl,h1⟩
 |y::xs,vs,i+1,x,h,e=>by
  obtain⟨v,r,rfl,_,t⟩:=h.uncons;obtain⟨u,h1,h2⟩:=RepL.get (i:=i) t (by simpa using e);exact⟨u,by simpa using h1,h2⟩
theorem RepL.getV:∀{xs:List D}{vs:List V}{i:Nat}{v:V},RepL cA av H xs vs->vs[i]? = some v->∃x,xs[i]? = some x/\Rep cA av H x v
 | [],vs,_,_,h,e=>by rw [h.nil_of]at e;simp at e
 |y::xs,vs,0,v,h,e=>by
  obtain⟨v',r,rfl,h1,_⟩:=h.uncons;simp at e;subst e;exact⟨y,rfl,h1⟩
 |y::xs,vs,i+1,v,h,e=>by
  obtain⟨v',r,rfl,_,t⟩:=h.uncons;obtain⟨u,h1,h2⟩:=RepL.getV (i:=i) t (by simpa using e);exact⟨u,by simpa using h1,h2⟩
theorem RepL.append:∀{xs ys:List D}{vs ws:List V},RepL cA av H xs vs->RepL cA av H ys ws->RepL cA av H (xs++ys) (vs++ws)
 | [],_,vs,_,h,t=>by rw [h.nil_of];exact t
 |x::xs,ys,vs,ws,h,t=>by
  obtain⟨v,r,rfl,h1,h2⟩:=h.uncons;exact .cons h1 (RepL.append h2 t)
theorem RepL.drop:∀{xs:List D}{vs:List V}(n:Nat),RepL cA av H xs vs->RepL cA av H (xs.drop n) (vs.drop n)
 |_,_,0,h=>h
 | [],vs,n+1,h=>by rw [h.nil_of];exact .nil
 |x::xs,vs,n+1,h=>by
  obtain⟨v,r,rfl,_,h2⟩:=h.uncons;exact RepL.drop n h2
theorem RepL.take:∀{xs:List D}{vs:List V}(n:Nat),RepL cA av H xs vs->RepL cA av H (xs.take n) (vs.take n)
 |_,_,0,h=>by simp;exact .nil
 | [],vs,n+1,h=>by rw [h.nil_of];exact .nil
 |x::xs,vs,n+1,h=>by
  obtain⟨v,r,rfl,h1,h2⟩:=h.uncons;exact .cons h1 (RepL.take n h2)
theorem RepL.set{d:D}{v:V}(hd:Rep cA av H d v):∀{xs:List D}{vs:List V}(i:Nat),RepL cA av H xs vs->RepL cA av H (xs.set i d) (vs.set i v)
 | [],vs,_,h=>by rw [h.nil_of];exact .nil
 |x::xs,vs,0,h=>by
  obtain⟨v',r,rfl,h1,h2⟩:=h.uncons;exact .cons hd h2
 |x::xs,vs,i+1,h=>by
  obtain⟨v',r,rfl,h1,h2⟩:=h.uncons;exact .cons h1 (RepL.set hd i h2)
def val:D->V
 | .bl b => .bl b
 | .int i => .int i
 | .str cs=>S cs
 |_ => .non
theorem Rep.val{d:D}{v:V}(hs:Yg d=true)(h:Rep cA av H d v):v=DL.val d:=by
 cases d<;>first|exact h|cases hs
theorem Rep.of_val{d:D}(hs:Yg d=true):Rep cA av H d (DL.val d):=by
 cases d<;>first|rfl|cases hs
theorem RepL.vals:∀{xs:List D}{vs:List V},xs.all Yg=true->RepL cA av H xs vs->vs=xs.map DL.val
 | [],vs,_,h=>h.nil_of
 |x::xs,vs,hs,h=>by
  rw [List.all_cons,Bool.and_eq_true]at hs;obtain⟨v,r,rfl,h1,h2⟩:=h.uncons;rw [List.map_cons,h1.val hs.1,RepL.vals hs.2 h2]
theorem RepL.of_vals:∀{xs:List D},xs.all Yg=true->RepL cA av H xs (xs.map DL.val)
 | [],_ => .nil
 |x::xs,hs=>by
  rw [List.all_cons,Bool.and_eq_true]at hs;exact .cons (.of_val hs.1) (RepL.of_vals hs.2)
def RepT(cA:Kn)(t i:Addr->Prop)(H:Hp):D->V->Prop
 | .lst xs,v=>∃a vs,v = .ref a/\(t a->KL cA.K a vs)/\SqL cA.K H a vs/\RepL cA i H xs vs
 | .tup xs,v=>∃a vs,v = .ref a/\¬t a/\H a=some (.tup vs)/\RepL cA i H xs vs
 | .obj c ks xs,v=>∃a dx vs,v = .ref a/\¬t a/\H a=some (.ins (cA.c c) dx ((ks.map Str.ofString).zip vs))/\ks.length=xs.length/\RepL cA i H xs vs
 | .dct ks xs,v=>∃a vs,v = .ref a/\¬t a/\H a=some (.dK (ks.zip vs))/\ks.length=xs.length/\RepL cA i H xs vs
 | .dtt ks xs,v=>∃a vs,v = .ref a/\¬t a/\H a=some (.dT (ks.zip vs))/\ks.length=xs.length/\RepL cA i H xs vs
 |d,v=>v=DL.val d
theorem Rep.t{d:D}{v:V}(h:Rep cA av H d v):RepT cA av av H d v:=by
 cases d<;>first|exact h|(unfold Rep at h;exact h)
theorem RepT.r{d:D}{v:V}(h:RepT cA av av H d v):Rep cA av H d v:=by
 cases d<;>first|exact h|(unfold Rep;exact h)
theorem RepT.weak{t t' i i':Addr->Prop}{d:D}{v:V}(ht:∀a,t' a->t a)(hi:∀a,i' a->i a)(h:RepT cA t i H d v):RepT cA t' i' H d v:=by
 cases d with
 |lst xs=>obtain⟨a,vs,e,n,r,l⟩:=h;exact⟨a,vs,e,λz=>n (ht a z),r,l.av λb z => .inl (hi b z)⟩
 |tup xs=>obtain⟨a,vs,e,n,r,l⟩:=h;exact⟨a,vs,e,λz=>n (ht a z),r,l.av λb z => .inl (hi b z)⟩
 |obj c ks xs=>obtain⟨a,dx,vs,e,n,r,z,l⟩:=h;exact⟨a,dx,vs,e,λz=>n (ht a z),r,z,l.av λb z => .inl (hi b z)⟩
 |dct ks xs=>obtain⟨a,vs,e,n,r,z,l⟩:=h;exact⟨a,vs,e,λz=>n (ht a z),r,z,l.av λb z => .inl (hi b z)⟩
 |dtt ks xs=>obtain⟨a,vs,e,n,r,z,l⟩:=h;exact⟨a,vs,e,λz=>n (ht a z),r,z,l.av λb z => .inl (hi b z)⟩
 |_=>exact h
theorem RepT.same{t i:Addr->Prop}{d:D}{v:V}(k:Same H H')(h:RepT cA t i H d v):RepT cA t i H' d v:=by
 cases d with
 |lst xs=>obtain⟨a,vs,e,n,r,l⟩:=h;exact⟨a,vs,e,n,k.seq r,l.same k⟩
 |tup xs=>obtain⟨a,vs,e,n,r,l⟩:=h;exact⟨a,vs,e,n,k a _ r,l.same k⟩
 |obj c ks xs=>obtain⟨a,dx,vs,e,n,r,z,l⟩:=h;exact⟨a,dx,vs,e,n,k a _ r,z,l.same k⟩
 |dct ks xs=>obtain⟨a,vs,e,n,r,z,l⟩:=h;exact⟨a,vs,e,n,k a _ r,z,l.same k⟩
 |dtt ks xs=>obtain⟨a,vs,e,n,r,z,l⟩:=h;exact⟨a,vs,e,n,k a _ r,z,l.same k⟩
 |_=>exact h
end
abbrev Env:=List (Option D)
structure Cn where
 cA:Kn
 pin:Nat->Option (Addr ⊕ V)
def AV(av:Addr->Prop)(A:Nat->Option Addr)(a:Addr):Prop:=av a\/∃i,A i=some a
def Own(cA:Kn)(av:Addr->Prop)(H:Hp):D->Addr->Prop
 | .lst xs,a=>∃vs,H a=some (.lst vs)/\RepL cA av H xs vs
 | .obj c ks xs,a=>∃dx vs,H a=some (.ins (cA.c c) dx ((ks.map Str.ofString).zip vs))/\ks.length=xs.length/\RepL cA av H xs vs
 | .dct ks xs,a=>∃vs,H a=some (.dK (ks.zip vs))/\ks.length=xs.length/\RepL cA av H xs vs
 | .dtt ks xs,a=>∃vs,H a=some (.dT (ks.zip vs))/\ks.length=xs.length/\RepL cA av H xs vs
 |_,_=>False
structure ER(G:Cn)(ow:List Nat)(H0:Hp)(av:Addr->Prop)(A:Nat->Option Addr)(σ:St)(H:Hp)(δ:Env):Prop where
 same:Same H0 H
 avd:∀a,av a->H0 a≠none
 fr:∀i a,A i=some a->H0 a=none
 inj:∀i j a,A i=some a->A j=some a->i=j
 live:∀i a,A i=some a->H a≠none
 dom:∀i,A i≠none->i∈ow
 dom':∀i∈ow,A i≠none
 len:σ.length=δ.length
 pin:∀i a,G.2 i=some (.inl a)->A i=some a
 kept:∀i v,G.2 i=some (.inr v)->σ[i]? = some (some v)
 var:∀(i:Nat)(d:D),δ[i]? = some (some d)->∃v,σ[i]? = some (some v)/\(A i=none->Rep G.1 (AV av A) H d v)/\(∀a,A i=some a->v = .ref a/\Own G.1 (AV av A) H d a)
inductive Ql where
 |cl|tp|dt
def RepQ(cA:Kn)(av:Addr->Prop)(A:Nat->Option Addr)(H:Hp):Ql->D->V->Prop
 | .cl,d,v=>RepT cA (AV av A) (AV av A) H d v
 | .tp,d,v=>RepT cA av (AV av A) H d v
 | .dt,d,v=>RepT cA av av H d v
def Ql.it:Ql->Ql
 | .dt => .dt
 |_ => .cl
section
variable{cA:Kn}{G:Cn}{ow:List Nat}{H0 H H':Hp}{av:Addr->Prop}{A:Nat->Option Addr}{σ:St}{δ:Env}
theorem AV.l{a:Addr}(h:av a):AV av A a := .inl h
def Ql.iv(q:Ql)(av:Addr->Prop)(A:Nat->Option Addr):Addr->Prop:=match q with
 | .dt=>av
 |_=>AV av A
theorem RepQ.tp{q:Ql}{d:D}{v:V}(h:RepQ cA av A H q d v):RepT cA av (q.iv av A) H d v:=by
 cases q with
 |cl=>exact h.weak (λa => .inl) λa z=>z
 |tp=>exact h
 |dt=>exact h
theorem RepQ.any{q:Ql}{d:D}{v:V}(h:RepQ cA av A H q d v):Rep cA av H d v:=by
 cases q with
 |cl=>exact(h.weak (λa => .inl) λa => .inl).r
 |tp=>exact(h.weak (λa z=>z) λa => .inl).r
 |dt=>exact h.r
theorem RepQ.same{q:Ql}{d:D}{v:V}(k:Same H H')(h:RepQ cA av A H q d v):RepQ cA av A H' q d v:=by
 cases q<;>exact RepT.same k h
theorem ER.mono(E:ER G ow H0 av A σ H δ)(k:Same H H'):ER G ow H0 av A σ H' δ:=by
 refine⟨E.same.trans k,E.avd,E.fr,E.inj,λi a e => ?_,E.dom,E.dom',E.len,E.pin,E.kept,λi d e => ?_⟩
 · have:=E.live i a e
   cases q:H a with
   |none=>exact absurd q this
   |some o=>rw [k a o q];exact λz=>by cases z
 · obtain⟨v,h1,h2,h3⟩:=E.var i d e
   refine⟨v,h1,λz=>(h2 z).same k,λa z=>⟨(h3 a z).1,?_⟩⟩;have:=(h3 a z).2;cases d with
   |lst xs=>obtain⟨vs,q1,q2⟩:=this;exact⟨vs,k _ _ q1,q2.same k⟩
   |obj c ks xs=>obtain⟨dx,vs,q1,q0,q2⟩:=this;exact⟨dx,vs,k _ _ q1,q0,q2.same k⟩
   |dct ks xs=>obtain⟨vs,q1,q0,q2⟩:=this;exact⟨vs,k _ _ q1,q0,q2.same k⟩
   |dtt ks xs=>obtain⟨vs,q1,q0,q2⟩:=this;exact⟨vs,k _ _ q1,q0,q2.same k⟩
   |_=>exact this
theorem ER.avl(E:ER G ow H0 av A σ H δ):∀a,AV av A a->H a≠none:=λa h=>by
 rcases h with h|⟨i,h⟩
 · have:=E.avd a h
   cases q:H0 a with
   |none=>exact absurd q this
   |some o=>rw [E.same a o q];exact λz=>by cases z
 · exact E.live i a h
theorem ER.avH(E:ER G ow H0 av A σ H δ):∀a,av a->H a≠none:=λa h=>E.avl a (.inl h)
end
def VE(G:Cn)(ow:List Nat)(te:TE)(q:Ql)(ε:Env->Option D):Prop:=
 ∀H0 av A σ H δ,ER G ow H0 av A σ H δ->∀d,ε δ=some d->∀Q:VK,(∀v H',Same H H'->RepQ G.1 av A H' q d v->Q v H')->te σ H Q
def VF(G:Cn)(ow:List Nat)(te:TE)(ε:Env->Option D):Prop:=
 ∀H0 av A σ H δ,ER G ow H0 av A σ H δ->∀d,ε δ=some d->∀Q:VK,(∀p vs xs H1,Same H H1->H1 p=none->RepL G.1 (AV av A) H1 xs vs->d = .lst xs->Q (.ref p) (upd H1 p (.lst vs)))->te σ H Q
def VT(G:Cn)(ow:List Nat)(tt:TT)(τ:Env->Option Bool):Prop:=
 ∀H0 av A σ H δ,ER G ow H0 av A σ H δ->∀b,τ δ=some b->∀Q:Bool->Hp->Prop,(∀H',Same H H'->Q b H')->tt σ H Q
def RepQL(cA:Kn)(av:Addr->Prop)(A:Nat->Option Addr)(H:Hp)(q:Ql):List D->List V->Prop
 | [],vs=>vs=[]
 |x::xs,vs=>∃v r,vs=v::r/\RepQ cA av A H q x v/\RepQL cA av A H q xs r
def VA(G:Cn)(ow:List Nat)(ta:TA)(q:Ql)(α:Env->Option (List D)):Prop:=
 ∀H0 av A σ H δ,ER G ow H0 av A σ H δ->∀ds,α δ=some ds->∀Q:List V->Hp->Prop,(∀vs H',Same H H'->RepQL G.1 av A H' q ds vs->Q vs H')->ta σ H Q
section
variable{cA:Kn}{G:Cn}{ow:List Nat}
theorem RepQL.same{av:Addr->Prop}{A:Nat->Option Addr}{H H':Hp}{q:Ql}(k:Same H H'):∀{xs:List D}{vs:List V},RepQL cA av A H q xs vs->RepQL cA av A H' q xs vs
 | [],_,h=>h
 |x::xs,vs,h=>by
  obtain⟨v,r,e,h1,h2⟩:=h;exact⟨v,r,e,h1.same k,RepQL.same k h2⟩
theorem RepQL.cl{av:Addr->Prop}{A:Nat->Option Addr}{H:Hp}:∀{xs:List D}{vs:List V},RepQL cA av A H .cl xs vs->RepL cA (AV av A) H xs vs
 | [],_,h=>by unfold RepL;exact h
 |x::xs,vs,h=>by
  obtain⟨v,r,e,h1,h2⟩:=h;subst e;exact .cons (RepT.r h1) (RepQL.cl h2)
theorem RepQL.any{av:Addr->Prop}{A:Nat->Option Addr}{H:Hp}{q:Ql}:∀{xs:List D}{vs:List V},RepQL cA av A H q xs vs->RepL cA av H xs vs
 | [],_,h=>by unfold RepL;exact h
 |x::xs,vs,h=>by
  obtain⟨v,r,e,h1,h2⟩:=h;subst e;exact .cons h1.any (RepQL.any h2)
theorem VE.dt{te:TE}{q:Ql}{ε:Env->Option D}(h:VE G ow te q ε):VE G ow te .dt ε:=λH0 av A σ H δ E d e Q k=>
 h H0 av A σ H δ E d e Q λv H' s r=>k v H' s r.any.t
theorem YL{H:Hp}{p:Addr}{o:HO}(h:H p=none):Same H (upd H p o):=Zef h
theorem VF.cl{te:TE}{ε:Env->Option D}(h:VF G ow te ε):VE G ow te .cl ε:=λH0 av A σ H δ E d e Q k=>
 h H0 av A σ H δ E d e Q λp vs xs H1 s hp l hd=>by
  subst hd;refine k _ _ (s.trans (YL hp)) ⟨p,vs,rfl,λz=>((E.mono s).avl p z hp).elim,SqL.of Yq,l.same (YL hp)⟩
def Za(i:Nat)(δ:Env):Option D:=match δ[i]? with
 |some (some d)=>some d
 |_=>none
theorem XV{i:Nat}{δ:Env}{d:D}(h:Za i δ=some d):δ[i]? = some (some d):=by
 unfold Za at h;cases e:δ[i]? with
 |none=>rw [e]at h;cases h
 |some o=>
  rw [e]at h;cases o with
  |none=>cases h
  |some x=>exact congrArg (some∘some) (Option.some.inj h)
theorem Zc(i:Nat)(hi:(ow.contains i)=false:=by rfl):VE G ow (YZ i) .cl (Za i):=λH0 av A σ H δ E d e Q k=>by
 obtain⟨v,h1,h2,_⟩:=E.var i d (XV e)
 have hn:A i=none:=by
  cases q:A i with
  |none=>rfl
  |some a=>
   have:=E.dom i (by rw [q];exact λz=>by cases z);simp at hi;exact absurd this hi
 exact⟨v,h1,k v H (Same.refl H) (h2 hn).t⟩
def eC(d:D)(_:Env):Option D:=some d
theorem Zg{v:V}{d:D}(hs:Yg d=true)(hv:v=val d):VE G ow (tC v) .cl (eC d):=λH0 av A σ H δ E d' e Q k=>by
 have e':d=d':=Option.some.inj e;subst e' hv;exact k _ H (Same.refl H) (Rep.of_val hs).t
def XW(cA:Kn)(r:R2)(f:D->D->Option D):Prop:=
 ∀(t t' i:Addr->Prop)(H:Hp)(x y:D)(vx vy:V)(d:D),(∀a,i a->H a≠none)->RepT cA t i H x vx->RepT cA t' i H y vy->f x y=some d->∀Q:VK,(∀v H',Same H H'->Rep cA i H' d v->Q v H')->r vx vy H Q
def eOp(f:D->D->Option D)(a b:Env->Option D)(δ:Env):Option D:=match a δ with
 |some x=>match b δ with
  |some y=>f x y
  |none=>none
 |none=>none
theorem JD{f:D->D->Option D}{a b:Env->Option D}{δ:Env}{d:D}(h:eOp f a b δ=some d):∃x y,a δ=some x/\b δ=some y/\f x y=some d:=by
 unfold eOp at h;cases ea:a δ with
 |none=>rw [ea]at h;cases h
 |some x=>
  rw [ea]at h;cases eb:b δ with
  |none=>rw [eb]at h;cases h
  |some y=>rw [eb]at h;exact⟨x,y,rfl,rfl,h⟩
def Ql.jn:Ql->Ql->Ql
 | .dt,_ => .dt
 |_,.dt => .dt
 |_,_ => .cl
theorem Zh{r:R2}{f:D->D->Option D}{ta tb:TE}{qa qb:Ql}{a b:Env->Option D}(hr:XW G.1 r f)(ha:VE G ow ta qa a)(hb:VE G ow tb qb b):VE G ow (tOp r ta tb) (qa.jn qb) (eOp f a b):=λH0 av A σ H δ E d e Q k=>by
 obtain⟨x,y,ex,ey,ed⟩:=JD e;refine ha H0 av A σ H δ E x ex _ λvx H1 s1 r1=>hb H0 av A σ H1 δ (E.mono s1) y ey _ λvy H2 s2 r2 => ?_
 have E2:=(E.mono s1).mono s2;have r1':=(r1.same s2).tp;have r2':=r2.tp;have key:∀i:Addr->Prop,(∀a,i a->H2 a≠none)->RepT G.1 av i H2 x vx->RepT G.1 av i H2 y vy->(∀v H',Same H2 H'->Rep G.1 i H' d v->Q v H')->r vx vy H2 Q:=λi hi h1 h2 h3=>hr av av i H2 x y vx vy d hi h1 h2 ed Q h3
 have toav:∀{dd:D}{v:V},RepT G.1 av (AV av A) H2 dd v->RepT G.1 av av H2 dd v:=λh=>h.weak (λa z=>z) λa => .inl
 cases qa with
 |dt=>
  refine key av E2.avH r1' ?_ λv H' s3 r3=>k v H' ((s1.trans s2).trans s3) r3.t
  cases qb with
  |dt=>exact r2'
  |cl=>exact toav r2'
  |tp=>exact toav r2'
 |cl=>
  cases qb with
  |dt=>exact key av E2.avH (toav r1') r2' λv H' s3 r3=>k v H' ((s1.trans s2).trans s3) r3.t
  |cl=>exact key _ E2.avl r1' r2' λv H' s3 r3=>k v H' ((s1.trans s2).trans s3) r3.t
  |tp=>exact key _ E2.avl r1' r2' λv H' s3 r3=>k v H' ((s1.trans s2).trans s3) r3.t
 |tp=>
  cases qb with
  |dt=>exact key av E2.avH (toav r1') r2' λv H' s3 r3=>k v H' ((s1.trans s2).trans s3) r3.t
  |cl=>exact key _ E2.avl r1' r2' λv H' s3 r3=>k v H' ((s1.trans s2).trans s3) r3.t
  |tp=>exact key _ E2.avl r1' r2' λv H' s3 r3=>k v H' ((s1.trans s2).trans s3) r3.t
end
end DL
namespace DL
open PySem PySem.Spec L2
mutual
def toP:D->PyData
 | .non => .none
 | .bl b => .bool b
 | .int i => .int i
 | .str cs => .str (tx cs)
 | .lst xs => .list (Xf xs)
 | .tup xs => .tuple (Xf xs)
 | .obj _ _ _ => .dict []
 | .dct _ _ => .dict []
 | .dtt _ _ => .dict []
def Xf:List D->List PyData
 | []=>[]
 |x::xs=>toP x::Xf xs
end
section
variable{X:Cx}{cA:Kn}
mutual
theorem Ut{pins:List (Addr×Obj)}{σ:L2.St}{H:Hp}{s:Shared}{av:Addr->Prop}(hK:cA.K=X.K)(I:Inv X pins σ H s):∀(d:D)(v:V)(u:Value),PyData.canLay0 (toP d)=true->Rep cA av H d v->RelV v u->∃as,Reads s.heap u (toP d) as
 | .non,v,u,_,h,r=>by
  cases(show v = .non from h);cases r;exact⟨_,.none⟩
 | .bl b,v,u,_,h,r=>by
  cases(show v = .bl b from h);cases r;exact⟨_,.bool b⟩
 | .int i,v,u,_,h,r=>by
  cases(show v = .int i from h);obtain⟨t,rfl⟩:=r;exact⟨_,.int i t⟩
 | .str cs,v,u,_,h,r=>by
  cases(show v=S cs from h);obtain⟨t,rfl⟩:=r;exact⟨_,.str _ t⟩
 | .lst xs,v,u,c,h,r=>by
  unfold Rep at h;obtain⟨a,vs,rfl,_,rd,l⟩:=h;cases r;obtain⟨its,rv,⟨ob,n,e,hc,hd,hs⟩,z⟩:=I.list (show SqL X.K H a vs from hK▸rd);obtain⟨as,ra⟩:=Zaw hK I xs vs its (by unfold toP PyData.canLay0 at c;exact c) l rv;unfold toP;exact⟨_,.list e hc hs (by simpa using ra)⟩
 | .tup xs,v,u,c,h,r=>by
  unfold Rep at h;obtain⟨a,vs,rfl,_,rd,l⟩:=h;cases r;obtain⟨z,its,rv,ob,e,hc,⟨n,hd⟩,_⟩:=(show ObjOk X.prog X.w H s.heap a (.tup vs)from I.hok a _ rd)
  obtain⟨as,ra⟩:=Zaw hK I xs vs its (by unfold toP PyData.canLay0 at c;exact c) l rv;unfold toP;exact⟨_,.tuple e hc hd (by simpa using ra)⟩
 | .obj c' ks xs,v,u,c,h,r=>by
  unfold toP PyData.canLay0 at c;cases c
 | .dct ks xs,v,u,c,h,r=>by
  unfold toP PyData.canLay0 at c;cases c
 | .dtt ks xs,v,u,c,h,r=>by
  unfold toP PyData.canLay0 at c;cases c
theorem Zaw{pins:List (Addr×Obj)}{σ:L2.St}{H:Hp}{s:Shared}{av:Addr->Prop}(hK:cA.K=X.K)(I:Inv X pins σ H s):∀(xs:List D)(vs:List V)(us:List Value),PyData.canLayAll0 (Xf xs)=true->RepL cA av H xs vs->Vals vs us->∃as,ReadsAll s.heap us (Xf xs) as
 | [],vs,us,_,h,r=>by
  rw [h.nil_of]at r;cases r;exact⟨_,.nil⟩
 |x::xs,vs,us,c,h,r=>by
  obtain⟨v,rr,rfl,h1,h2⟩:=h.uncons;cases r with
  |cons r1 r2=>
   unfold Xf PyData.canLayAll0 at c;rw [Bool.and_eq_true]at c;obtain⟨a1,q1⟩:=Ut hK I x v _ c.1 h1 r1;obtain⟨a2,q2⟩:=Zaw hK I xs rr _ c.2 h2 r2;unfold Xf;exact⟨_,.cons q1 q2⟩
end
end
def eqD(x y:D):Option D:=
 if Yg x&&Yg y&&Vf (val x) (val y)then some (.bl (decide (val x=val y)))
 else if SeqAt.shaped (toP x)&&SeqAt.shaped (toP y)then some (.bl (PyData.eqv (toP x) (toP y)))else none
def neD(x y:D):Option D:=match eqD x y with
 |some (.bl b)=>some (.bl (!b))
 |_=>none
def JE(cA:Kn)(neg:Bool):R2:=λx y H Q=>∃av av' dx dy b,Rep cA av H dx x/\Rep cA av' H dy y/\eqD dx dy=some (.bl b)/\Q (.bl (neg != b)) H
section
variable{X:Cx}{cA:Kn}
theorem YM(hu:X.A.units+64<cLine)(hK:cA.K=X.K:=by rfl):OpR X (compareOp .Eq) (JE cA false):=by
 intro pins s σ H x y v u Q I rx ry h;obtain⟨av,av',dx,dy,b,hx,hy,e,q⟩:=h;unfold eqD at e
 by_cases h1:(Yg dx&&Yg dy&&Vf (val dx) (val dy))=true
 · rw [if_pos h1]at e
   simp only [Bool.and_eq_true]at h1;obtain⟨⟨s1,s2⟩,s3⟩:=h1;have e1:=hx.val s1;have e2:=hy.val s2;subst e1 e2;have e':decide (val dx=val dy)=b:=by simpa using e
   exact ZiI pins s σ H _ _ v u Q I rx ry ⟨s3,by rw [e'];simpa using q⟩
 · rw [if_neg h1]at e
   by_cases h2:(SeqAt.shaped (toP dx)&&SeqAt.shaped (toP dy))=true
   · rw [if_pos h2]at e
     rw [Bool.and_eq_true]at h2;obtain⟨as,ra⟩:=Ut hK I dx x v (SeqAt.canLay_of_shaped h2.1) hx rx;obtain⟨bs,rb⟩:=Ut hK I dy y u (SeqAt.canLay_of_shaped h2.2) hy ry;have e':PyData.eqv (toP dx) (toP dy)=b:=by simpa using e
     exact PyProof.Rows.eq_dataH ra rb h2.1 h2.2 hu (by rw [e'];exact⟨.bl b,H,I,rfl,by simpa using q⟩)
   · rw [if_neg h2]at e
     cases e
theorem UP(hu:X.A.units+64<cLine)(hK:cA.K=X.K:=by rfl):OpR X (compareOp .NotEq) (JE cA true):=by
 intro pins s σ H x y v u Q I rx ry h;obtain⟨av,av',dx,dy,b,hx,hy,e,q⟩:=h;unfold eqD at e
 by_cases h1:(Yg dx&&Yg dy&&Vf (val dx) (val dy))=true
 · rw [if_pos h1]at e
   simp only [Bool.and_eq_true]at h1;obtain⟨⟨s1,s2⟩,s3⟩:=h1;have e1:=hx.val s1;have e2:=hy.val s2;subst e1 e2;have e':decide (val dx=val dy)=b:=by simpa using e
   exact ZiJ pins s σ H _ _ v u Q I rx ry ⟨s3,by rw [e'];simpa using q⟩
 · rw [if_neg h1]at e
   by_cases h2:(SeqAt.shaped (toP dx)&&SeqAt.shaped (toP dy))=true
   · rw [if_pos h2]at e
     rw [Bool.and_eq_true]at h2;obtain⟨as,ra⟩:=Ut hK I dx x v (SeqAt.canLay_of_shaped h2.1) hx rx;obtain⟨bs,rb⟩:=Ut hK I dy y u (SeqAt.canLay_of_shaped h2.2) hy ry;have e':PyData.eqv (toP dx) (toP dy)=b:=by simpa using e
     exact PyProof.Rows.ne_dataH ra rb h2.1 h2.2 hu (by rw [e'];exact⟨.bl (!b),H,I,rfl,by simpa using q⟩)
   · rw [if_neg h2]at e
     cases e
theorem RepT.av0{t i:Addr->Prop}{H:Hp}{d:D}{v:V}(h:RepT cA t i H d v):Rep cA (λ_=>False) H d v:=(h.weak (λ_ z=>z.elim) λ_ z=>z.elim).r
theorem ZeW{x y d:D}(h:eqD x y=some d):∃b,d = .bl b:=by
 unfold eqD at h
 split at h
 · exact⟨_,(Option.some.inj h).symm⟩
 · split at h
   · exact⟨_,(Option.some.inj h).symm⟩
   · cases h
theorem YN:XW cA (JE cA false) eqD:=λt t' i H x y vx vy d _ hx hy e Q k=>by
 obtain⟨b,rfl⟩:=ZeW e;exact⟨_,_,x,y,b,hx.av0,hy.av0,e,k _ H (Same.refl H) (by cases b<;>rfl)⟩
theorem UQ:XW cA (JE cA true) neD:=λt t' i H x y vx vy d _ hx hy e Q k=>by
 unfold neD at e;cases he:eqD x y with
 |none=>rw [he]at e;cases e
 |some z=>
  obtain⟨b,rfl⟩:=ZeW he;rw [he]at e;have e':D.bl (!b)=d:=Option.some.inj e;subst e';exact⟨_,_,x,y,b,hx.av0,hy.av0,he,k _ H (Same.refl H) (by cases b<;>rfl)⟩
def UR(x:List Nat)(n:Int):List Nat:=(List.replicate n.toNat x).flatten
theorem Zbi(x:List Nat):∀(k:Nat)(acc:Array Nat),(List.replicate k x.toArray).foldl (· ++ ·) acc=acc++(List.replicate k x).flatten.toArray
 |0,acc=>by simp
 |k+1,acc=>by
  rw [List.replicate_succ,List.replicate_succ,List.foldl_cons,Zbi x k,List.flatten_cons];simp
theorem ZgV(x:List Nat)(n:Int):Txt.mul (tx x) n=tx (UR x n):=by
 unfold Txt.mul UR
 by_cases h1:n<1
 · rw [if_pos h1]
   have:n.toNat=0:=by omega
   rw [this];rfl
 · rw [if_neg h1]
   by_cases h2:(n == 1||(tx x).length == 0)=true
   · rw [if_pos h2]
     rw [Bool.or_eq_true]at h2;rcases h2 with h2|h2
     · have:n=1:=by simpa using h2
       subst this;simp
     · have : x = [] := by
        have:(tx x).length=0:=by simpa using h2
        rw [Xa]at this;exact List.eq_nil_of_length_eq_zero this
       subst this;simp
   · rw [if_neg h2]
     have:=Zbi x n.toNat #[];rw [this];simp
def rMulS:R2:=λx y H Q=>∃a n,x=S a/\y = .int n/\(n<2 ^ 63 /\ -(2 ^ 63)<=n/\a.length*n.toNat<=sizeLine)/\Q (S (UR a n)) H
theorem ZfG:OpR X (binaryOp .Mult) rMulS:=by
 intro pins s σ H x y v u Q I rx ry h;obtain⟨a,n,rfl,rfl,⟨h1,h2,h3⟩,q⟩:=h;obtain⟨t,rfl⟩:=rx;obtain⟨t',rfl⟩:=ry;refine SB.mul ⟨?_,λhn hc => ?_,λhn hc => ?_⟩ λt' k=>⟨S (UR a n),H,I.tok _,⟨_,by rw [ZgV]⟩,q⟩
 · have e1:decide (n < -(2 ^ 63:Int))=false:=decide_eq_false (by omega)
   have e2:decide (n ≥ 2 ^ 63)=false:=decide_eq_false (by omega);rw [e1,e2];rfl
 · rw [Xa]
   have hs:sizeLine=16777216:=sizeLine_eq;intro hgt
   have h5:(a.length:Int)*n<=16777216:=by
    have:(a.length:Int)*n=((a.length*n.toNat:Nat):Int):=by
     rw [Int.natCast_mul,Int.toNat_of_nonneg (by omega)]
    rw [this];omega
   have h6:(2 ^ 63-1) / n<(a.length:Int):=hgt
   have h7:(2 ^ 63-1:Int)<(a.length:Int)*n:=by
    have:=Int.lt_mul_of_ediv_lt (show(0:Int)<n by omega) h6;rw [Int.mul_comm];rw [Int.mul_comm]at this;exact this
   omega
 · rw [Xa]
   show decide (a.length*n.toNat>sizeLine)=false;exact decide_eq_false (by omega)
def rMulX:R2:=λx y H Q=>rI CMul (λi j => .int (i*j)) x y H Q\/rMulS x y H Q
theorem ZbF:OpR X (binaryOp .Mult) rMulX:=op_mul.or ZfG
instance (i j:Int):Decidable (CMul i j):=by unfold CMul;infer_instance
instance (i j:Int):Decidable (ZG i j):=by unfold ZG;infer_instance
def addD:D->D->Option D
 | .int i,.int j=>some (.int (i+j))
 | .str a,.str b=>if a.length+b.length<=sizeLine then some (.str (a++b))else none
 |_,_=>none
def subD:D->D->Option D
 | .int i,.int j=>some (.int (i-j))
 |_,_=>none
def mulD:D->D->Option D
 | .int i,.int j=>if CMul i j then some (.int (i*j))else none
 | .str a,.int n=>if n<2 ^ 63 /\ -(2 ^ 63)<=n/\a.length*n.toNat<=sizeLine then some (.str (UR a n))else none
 |_,_=>none
def fdivD:D->D->Option D
 | .int i,.int j=>if ZG i j then some (.int (i / j))else none
 |_,_=>none
def modD:D->D->Option D
 | .int i,.int j=>if 0<j then some (.int (i % j))else none
 |_,_=>none
def Zu(p:Int->Int->Bool):D->D->Option D
 | .int i,.int j=>some (.bl (p i j))
 |_,_=>none
theorem YU:XW cA rAddX addD:=λt t' i H x y vx vy d _ hx hy e Q k=>by
 cases x<;>cases y<;>first|(cases e;done)|skip
 · cases(show vx=_ from hx);cases(show vy=_ from hy)
   cases e;exact .inl ⟨_,_,rfl,rfl,k _ H (Same.refl H) rfl⟩
 · cases(show vx=_ from hx);cases(show vy=_ from hy)
   rename_i a b;dsimp only [addD]at e
   by_cases hz:a.length+b.length<=sizeLine
   · rw [if_pos hz]at e
     cases e;exact .inr (.inl ⟨_,_,rfl,rfl,hz,k _ H (Same.refl H) rfl⟩)
   · rw [if_neg hz]at e;cases e
theorem Vy:XW cA (rI0 λi j => .int (i-j)) subD:=λt t' i H x y vx vy d _ hx hy e Q k=>by
 cases x<;>cases y<;>first|(cases e;done)|skip
 cases(show vx=_ from hx);cases(show vy=_ from hy);cases e;exact⟨_,_,rfl,rfl,k _ H (Same.refl H) rfl⟩
theorem ZcM:XW cA rMulX mulD:=λt t' i H x y vx vy d _ hx hy e Q k=>by
 cases x<;>cases y<;>first|(cases e;done)|skip
 · cases(show vx=_ from hx);cases(show vy=_ from hy)
   rename_i a b;dsimp only [mulD]at e
   by_cases hz:CMul a b
   · rw [if_pos hz]at e
     cases e;exact .inl ⟨_,_,rfl,rfl,hz,k _ H (Same.refl H) rfl⟩
   · rw [if_neg hz]at e;cases e
 · cases(show vx=_ from hx);cases(show vy=_ from hy)
   rename_i a n;dsimp only [mulD]at e
   by_cases hz:n<2 ^ 63 /\ -(2 ^ 63)<=n/\a.length*n.toNat<=sizeLine
   · rw [if_pos hz]at e
     cases e;exact .inr ⟨_,_,rfl,rfl,hz,k _ H (Same.refl H) rfl⟩
   · rw [if_neg hz]at e;cases e
theorem XX:XW cA (rI ZG λi j => .int (i / j)) fdivD:=λt t' i H x y vx vy d _ hx hy e Q k=>by
 cases x<;>cases y<;>first|(cases e;done)|skip
 cases(show vx=_ from hx);cases(show vy=_ from hy);rename_i a b;dsimp only [fdivD]at e
 by_cases hz:ZG a b
 · rw [if_pos hz]at e
   cases e;exact⟨_,_,rfl,rfl,hz,k _ H (Same.refl H) rfl⟩
 · rw [if_neg hz]at e;cases e
theorem Yx:XW cA (rI (λ_ j=>0<j) λi j => .int (i % j)) modD:=λt t' i H x y vx vy d _ hx hy e Q k=>by
 cases x<;>cases y<;>first|(cases e;done)|skip
 cases(show vx=_ from hx);cases(show vy=_ from hy);rename_i a b;dsimp only [modD]at e
 by_cases hz:0<b
 · rw [if_pos hz]at e
   cases e;exact⟨_,_,rfl,rfl,hz,k _ H (Same.refl H) rfl⟩
 · rw [if_neg hz]at e;cases e
theorem XJ{p:Int->Int->Bool}:XW cA (rI0 λi j => .bl (p i j)) (Zu p):=λt t' i H x y vx vy d _ hx hy e Q k=>by
 cases x<;>cases y<;>first|(cases e;done)|skip
 cases(show vx=_ from hx);cases(show vy=_ from hy);cases e;exact⟨_,_,rfl,rfl,k _ H (Same.refl H) rfl⟩
def inD(neg:Bool):D->D->Option D
 | .str [c],.str b=>some (.bl (neg != decide (c∈b)))
 |x,.lst ys=>if Yg x&&ys.all Yg then some (.bl (if neg then !(inV (val x) (ys.map val))else inV (val x) (ys.map val)))else none
 |x,.tup ys=>if Yg x&&ys.all Yg then some (.bl (if neg then !(inV (val x) (ys.map val))else inV (val x) (ys.map val)))else none
 |_,_=>none
theorem ZaW{d:D}:Yg d=true->Vh (val d)=true:=by
 intro h;cases d<;>first|rfl|cases h
theorem Zax:∀{xs:List D},xs.all Yg=true->(xs.map val).all Vh=true
 | [],_=>rfl
 |x::xs,h=>by
  rw [List.all_cons,Bool.and_eq_true]at h;rw [List.map_cons,List.all_cons,ZaW h.1,Zax h.2];rfl
theorem ZfH{t i:Addr->Prop}{H:Hp}{d:D}{v:V}(hs:Yg d=true)(h:RepT cA t i H d v):v=val d:=by
 cases d<;>first|exact h|cases hs
theorem Zgi{neg:Bool}:XW cA (Jz cA.K neg) (inD neg):=λt t' i H x y vx vy d _ hx hy e Q k=>by
 have seq:∀ys,(y = .lst ys\/y = .tup ys)->(if Yg x&&ys.all Yg then some (D.bl (if neg then !(inV (val x) (ys.map val))else inV (val x) (ys.map val)))else none)=some d->Jz cA.K neg vx vy H Q:=λys hy' e=>by
  by_cases hz:(Yg x&&ys.all Yg)=true
  · rw [if_pos hz]at e
    rw [Bool.and_eq_true]at hz;have ex:=ZfH hz.1 hx;subst ex;cases e;rcases hy' with rfl|rfl
    · obtain⟨a,vs,rfl,_,rd,l⟩:=hy
      have ev:=l.vals hz.2;subst ev;exact .inr ⟨a,_,rfl,.inl rd,ZaW hz.1,Zax hz.2,k _ H (Same.refl H) rfl⟩
    · obtain⟨a,vs,rfl,_,rd,l⟩:=hy
      have ev:=l.vals hz.2;subst ev;exact .inr ⟨a,_,rfl,.inr (SqT.of rd),ZaW hz.1,Zax hz.2,k _ H (Same.refl H) rfl⟩
  · rw [if_neg hz]at e;cases e
 cases y with
 |lst ys=>exact seq ys (.inl rfl) (by cases x<;>first|exact e|(rename_i cs;cases cs<;>first|exact e|(rename_i c r;cases r<;>exact e)))
 |tup ys=>exact seq ys (.inr rfl) (by cases x<;>first|exact e|(rename_i cs;cases cs<;>first|exact e|(rename_i c r;cases r<;>exact e)))
 |str b=>
  cases x with
  |str cs=>
   cases cs with
   |nil=>cases e
   |cons c r=>
    cases r with
    |cons _ _=>cases e
    |nil=>
     cases(show vx=_ from hx);cases(show vy=_ from hy);cases e;exact .inl ⟨c,b,rfl,rfl,k _ H (Same.refl H) rfl⟩
  |_=>cases e
 |_=>cases x<;>first|(cases e;done)|(rename_i cs;cases cs<;>first|(cases e;done)|(rename_i c r;cases r<;>cases e))
def ixD:D->D->Option D
 | .lst xs,.int i=>atI xs i
 | .tup xs,.int i=>atI xs i
 | .str cs,.int i=>if cs.length<=sizeLine then(atI cs i).map λc => .str [c]else none
 |_,_=>none
theorem Zc2{av:Addr->Prop}{H:Hp}{xs:List D}{vs:List V}{i:Int}{d:D}(l:RepL cA av H xs vs)(h:atI xs i=some d):∃v,atI vs i=some v/\Rep cA av H d v:=by
 unfold atI at h ⊢;rw [l.length]at h;cases e:ixN vs.length i with
 |none=>rw [e]at h;cases h
 |some j=>
  rw [e]at h;exact l.get h
theorem Z2:XW cA (Ziq cA.K) ixD:=λt t' i H x y vx vy d _ hx hy e Q k=>by
 cases y<;>first|(cases x<;>cases e;done)|skip
 rename_i j;cases(show vy=_ from hy);cases x<;>first|(cases e;done)|skip
 · cases(show vx=_ from hx)
   rename_i cs;dsimp only [ixD]at e
   by_cases hz:cs.length<=sizeLine
   · rw [if_pos hz]at e
     cases ea:atI cs j with
     |none=>rw [ea]at e;cases e
     |some c=>
      rw [ea]at e;cases e;exact .inr (.inr ⟨cs,j,c,rfl,rfl,hz,ea,k _ H (Same.refl H) rfl⟩)
   · rw [if_neg hz]at e;cases e
 · obtain⟨a,vs,rfl,_,rd,l⟩:=hx
   obtain⟨v,h1,h2⟩:=Zc2 l e;exact .inl ⟨a,vs,j,v,rfl,rfl,rd,h1,k v H (Same.refl H) h2⟩
 · obtain⟨a,vs,rfl,_,rd,l⟩:=hx
   obtain⟨v,h1,h2⟩:=Zc2 l e;exact .inr (.inl ⟨a,vs,j,v,rfl,rfl,SqT.of rd,h1,k v H (Same.refl H) h2⟩)
end
end DL
namespace DL
open PySem PySem.Spec L2
section
variable{cA:Kn}{G:Cn}{ow:List Nat}
def bD:Option D->Option Bool
 |some (.bl b)=>some b
 |_=>none
theorem Zc3{o:Option D}{b:Bool}(h:bD o=some b):o=some (.bl b):=by
 cases o with
 |none=>cases h
 |some d=>cases d<;>first|(cases h;rfl)|cases h
def xB(ε:Env->Option D)(δ:Env):Option Bool:=bD (ε δ)
theorem Y3{te:TE}{q:Ql}{ε:Env->Option D}(h:VE G ow te q ε):VT G ow (tB te) (xB ε):=λH0 av A σ H δ E b e Q k=>
 h H0 av A σ H δ E _ (Zc3 e) _ λv H' s r=>⟨b,by cases q<;>exact r,k H' s⟩
theorem Ys{te:TE}{q:Ql}{ε:Env->Option D}(h:VE G ow te q ε):VT G ow (Ju te) (xB ε):=λH0 av A σ H δ E b e Q k=>
 h H0 av A σ H δ E _ (Zc3 e) _ λv H' s r=>⟨b,by cases q<;>exact r,k H' s⟩
def Zz(τ:Env->Option Bool)(δ:Env):Option Bool:=match τ δ with
 |some b=>some (!b)
 |none=>none
theorem Vz{t:TT}{τ:Env->Option Bool}(h:VT G ow t τ):VT G ow (Zig t) (Zz τ):=λH0 av A σ H δ E b e Q k=>by
 unfold Zz at e;cases he:τ δ with
 |none=>rw [he]at e;cases e
 |some c=>
  rw [he]at e;cases e;exact h H0 av A σ H δ E c he _ λH' s=>k H' s
def ZD(τ υ:Env->Option Bool)(δ:Env):Option Bool:=match τ δ with
 |some true=>υ δ
 |some false=>some false
 |none=>none
def xOr(τ υ:Env->Option Bool)(δ:Env):Option Bool:=match τ δ with
 |some true=>some true
 |some false=>υ δ
 |none=>none
theorem JF{t u:TT}{τ υ:Env->Option Bool}(h:VT G ow t τ)(h':VT G ow u υ):VT G ow (Zj1 t u) (ZD τ υ):=λH0 av A σ H δ E b e Q k=>by
 unfold ZD at e;cases he:τ δ with
 |none=>rw [he]at e;cases e
 |some c=>
  rw [he]at e;refine h H0 av A σ H δ E c he _ λH' s => ?_
  cases c with
  |true=>exact Vi (h' H0 av A σ H' δ (E.mono s) b e _ λH2 s2=>k H2 (s.trans s2))
  |false=>cases e;exact XU (k H' s)
theorem QF{t u:TT}{τ υ:Env->Option Bool}(h:VT G ow t τ)(h':VT G ow u υ):VT G ow (tOr t u) (xOr τ υ):=λH0 av A σ H δ E b e Q k=>by
 unfold xOr at e;cases he:τ δ with
 |none=>rw [he]at e;cases e
 |some c=>
  rw [he]at e;refine h H0 av A σ H δ E c he _ λH' s => ?_
  cases c with
  |true=>cases e;exact Vi (k H' s)
  |false=>exact XU (h' H0 av A σ H' δ (E.mono s) b e _ λH2 s2=>k H2 (s.trans s2))
theorem Xq:VT G ow tYes (λ_=>some true):=λH0 av A σ H δ E b e Q k=>by
 cases e;exact k H (Same.refl H)
theorem blq{av:Addr->Prop}{A:Nat->Option Addr}{H:Hp}{q:Ql}{b:Bool}:RepQ cA av A H q (.bl b) (.bl b):=by cases q<;>exact rfl
theorem qbl{av:Addr->Prop}{A:Nat->Option Addr}{H:Hp}{q:Ql}{b:Bool}{v:V}(h:RepQ cA av A H q (.bl b) v):v = .bl b:=by cases q<;>exact h
def ZM(a b:Env->Option D)(δ:Env):Option D:=match a δ with
 |some (.bl true)=>b δ
 |some (.bl false)=>some (.bl false)
 |_=>none
def eOr(a b:Env->Option D)(δ:Env):Option D:=match a δ with
 |some (.bl true)=>some (.bl true)
 |some (.bl false)=>b δ
 |_=>none
def ZN(a:Env->Option D)(δ:Env):Option D:=match a δ with
 |some (.bl b)=>some (.bl (!b))
 |_=>none
theorem JG{ta tb:TE}{qa qb:Ql}{a b:Env->Option D}(ha:VE G ow ta qa a)(hb:VE G ow tb qb b):VE G ow (Zff ta tb) qb (ZM a b):=λH0 av A σ H δ E d e Q k=>by
 unfold ZM at e;cases he:a δ with
 |none=>rw [he]at e;cases e
 |some x=>
  rw [he]at e;cases x<;>first|(cases e;done)|skip
  rename_i c;refine ha H0 av A σ H δ E _ he _ λv H' s r=>⟨c,qbl r,?_⟩
  cases c with
  |true=>exact Vi (hb H0 av A σ H' δ (E.mono s) d e _ λv2 H2 s2 r2=>k v2 H2 (s.trans s2) r2)
  |false=>cases e;exact XU (k _ H' s blq)
theorem Zgj{ta tb:TE}{qa qb:Ql}{a b:Env->Option D}(ha:VE G ow ta qa a)(hb:VE G ow tb qb b):VE G ow (Zj2 ta tb) qb (eOr a b):=λH0 av A σ H δ E d e Q k=>by
 unfold eOr at e;cases he:a δ with
 |none=>rw [he]at e;cases e
 |some x=>
  rw [he]at e;cases x<;>first|(cases e;done)|skip
  rename_i c;refine ha H0 av A σ H δ E _ he _ λv H' s r=>⟨c,qbl r,?_⟩
  cases c with
  |false=>exact XU (hb H0 av A σ H' δ (E.mono s) d e _ λv2 H2 s2 r2=>k v2 H2 (s.trans s2) r2)
  |true=>cases e;exact Vi (k _ H' s blq)
theorem ZgW{ta:TE}{qa:Ql}{a:Env->Option D}(ha:VE G ow ta qa a):VE G ow (Zf9 ta) .cl (ZN a):=λH0 av A σ H δ E d e Q k=>by
 unfold ZN at e;cases he:a δ with
 |none=>rw [he]at e;cases e
 |some x=>
  rw [he]at e;cases x<;>first|(cases e;done)|skip
  cases e;exact ha H0 av A σ H δ E _ he _ λv H' s r=>⟨_,qbl r,k _ H' s blq⟩
def eIf(τ:Env->Option Bool)(a b:Env->Option D)(δ:Env):Option D:=match τ δ with
 |some true=>a δ
 |some false=>b δ
 |none=>none
theorem QG{t:TT}{ta tb:TE}{q:Ql}{τ:Env->Option Bool}{a b:Env->Option D}(ht:VT G ow t τ)(ha:VE G ow ta q a)(hb:VE G ow tb q b):VE G ow (tIf t ta tb) q (eIf τ a b):=λH0 av A σ H δ E d e Q k=>by
 unfold eIf at e;cases he:τ δ with
 |none=>rw [he]at e;cases e
 |some c=>
  rw [he]at e;refine ht H0 av A σ H δ E c he _ λH' s => ?_
  cases c with
  |true=>exact Vi (ha H0 av A σ H' δ (E.mono s) d e _ λv H2 s2 r=>k v H2 (s.trans s2) r)
  |false=>exact XU (hb H0 av A σ H' δ (E.mono s) d e _ λv H2 s2 r=>k v H2 (s.trans s2) r)
def Zp:D->Bool
 | .non=>true
 |_=>false
theorem Zc4{av:Addr->Prop}{H:Hp}{d:D}{v:V}(h:Rep cA av H d v):decide (v = .non)=Zp d:=by
 cases d with
 |non=>cases(show v=_ from h);rfl
 |bl b=>cases(show v=_ from h);rfl
 |int i=>cases(show v=_ from h);rfl
 |str cs=>cases(show v=_ from h);rfl
 |lst xs=>unfold Rep at h;obtain⟨a,vs,rfl,_⟩:=h;rfl
 |tup xs=>unfold Rep at h;obtain⟨a,vs,rfl,_⟩:=h;rfl
 |obj c ks xs=>unfold Rep at h;obtain⟨a,dx,vs,rfl,_⟩:=h;rfl
 |dct ks xs=>unfold Rep at h;obtain⟨a,vs,rfl,_⟩:=h;rfl
 |dtt ks xs=>unfold Rep at h;obtain⟨a,vs,rfl,_⟩:=h;rfl
def Zy(a:Env->Option D)(δ:Env):Option D:=match a δ with
 |some d=>some (.bl (Zp d))
 |none=>none
def ZH(a:Env->Option D)(δ:Env):Option D:=match a δ with
 |some d=>some (.bl (!Zp d))
 |none=>none
theorem VB{ta:TE}{qa:Ql}{a:Env->Option D}(ha:VE G ow ta qa a):VE G ow (Zj0 ta) .cl (Zy a):=λH0 av A σ H δ E d e Q k=>by
 unfold Zy at e;cases he:a δ with
 |none=>rw [he]at e;cases e
 |some x=>
  rw [he]at e;cases e;refine ha H0 av A σ H δ E _ he _ λv H' s r => ?_
  rw [Zc4 r.any];exact k _ H' s blq
theorem JH{ta:TE}{qa:Ql}{a:Env->Option D}(ha:VE G ow ta qa a):VE G ow (Zf8 ta) .cl (ZH a):=λH0 av A σ H δ E d e Q k=>by
 unfold ZH at e;cases he:a δ with
 |none=>rw [he]at e;cases e
 |some x=>
  rw [he]at e;cases e;refine ha H0 av A σ H δ E _ he _ λv H' s r => ?_
  rw [Zc4 r.any];exact k _ H' s blq
def ZP(f g:D->D->Option D)(a b c:Env->Option D)(δ:Env):Option D:=match eOp f a b δ with
 |some (.bl true)=>eOp g b c δ
 |some (.bl false)=>some (.bl false)
 |_=>none
theorem ZaX{p p':Int->Int->Bool}{ta tb tc:TE}{qa qb qc:Ql}{a b c:Env->Option D}(ha:VE G ow ta qa a)(hb:VE G ow tb qb b)(hc:VE G ow tc qc c) :
 VE G ow (ZcJ (rI0 λi j => .bl (p i j)) (rI0 λi j => .bl (p' i j)) ta tb tc) .cl (ZP (Zu p) (Zu p') a b c):=λH0 av A σ H δ E d e Q k=>by
 unfold ZP at e;cases he:eOp (Zu p) a b δ with
 |none=>rw [he]at e;cases e
 |some z=>
  rw [he]at e;obtain⟨x,y,ex,ey,ez⟩:=JD he;cases x<;>cases y<;>first|(cases ez;done)|skip
  rename_i i j;cases ez;refine ha H0 av A σ H δ E _ ex _ λvx H1 s1 r1=>hb H0 av A σ H1 δ (E.mono s1) _ ey _ λvy H2 s2 r2 => ?_
  have e1:vx = .int i:=r1.any;have e2:vy = .int j:=r2.any;subst e1 e2;refine⟨i,j,rfl,rfl,p i j,rfl,?_⟩;have E2:=(E.mono s1).mono s2;cases hp:p i j with
  |false=>
   rw [hp]at e;cases e;exact XU (k _ H2 (s1.trans s2) blq)
  |true=>
   rw [hp]at e;obtain⟨y',w',ey',ew,ez⟩:=JD e;rw [ey]at ey';cases ey';cases w'<;>first|(cases ez;done)|skip
   rename_i l;cases ez;refine Vi (hc H0 av A σ H2 δ E2 _ ew _ λvw H3 s3 r3 => ?_);have e3:vw = .int l:=r3.any;subst e3;exact⟨j,l,rfl,rfl,k _ H3 ((s1.trans s2).trans s3) blq⟩
def ZI:D->Option D
 | .int i=>some (.int (-i))
 |_=>none
def eUn(f:D->Option D)(a:Env->Option D)(δ:Env):Option D:=match a δ with
 |some x=>f x
 |none=>none
theorem Uu{ta:TE}{qa:Ql}{a:Env->Option D}(ha:VE G ow ta qa a):VE G ow (tUn (rU λi => .int (-i)) ta) .cl (eUn ZI a):=λH0 av A σ H δ E d e Q k=>by
 unfold eUn at e;cases he:a δ with
 |none=>rw [he]at e;cases e
 |some x=>
  rw [he]at e;cases x<;>first|(cases e;done)|skip
  cases e;refine ha H0 av A σ H δ E _ he _ λv H' s r => ?_
  have e1:=r.any;exact⟨_,e1,k _ H' s rfl⟩
def eNil(_:Env):Option (List D):=some []
def Zb(a:Env->Option D)(r:Env->Option (List D))(δ:Env):Option (List D):=match a δ with
 |some x=>match r δ with
  |some xs=>some (x::xs)
  |none=>none
 |none=>none
theorem Zl{q:Ql}:VA G ow tNil q eNil:=λH0 av A σ H δ E ds e Q k=>by
 cases e;exact k [] H (Same.refl H) rfl
theorem Ze{te:TE}{ta:TA}{q:Ql}{a:Env->Option D}{r:Env->Option (List D)}(ha:VE G ow te q a)(hr:VA G ow ta q r):VA G ow (YR te ta) q (Zb a r):=λH0 av A σ H δ E ds e Q k=>by
 unfold Zb at e;cases he:a δ with
 |none=>rw [he]at e;cases e
 |some x=>
  rw [he]at e;cases hr':r δ with
  |none=>rw [hr']at e;cases e
  |some xs=>
   rw [hr']at e;cases e;exact ha H0 av A σ H δ E x he _ λv H1 s1 r1=>hr H0 av A σ H1 δ (E.mono s1) xs hr' _ λvs H2 s2 r2=>k _ H2 (s1.trans s2) ⟨v,vs,rfl,r1.same s2,r2⟩
theorem RepQL.length{av:Addr->Prop}{A:Nat->Option Addr}{H:Hp}{q:Ql}{xs:List D}{vs:List V}(h:RepQL cA av A H q xs vs):xs.length=vs.length:=h.any.length
def ZA(α:Env->Option (List D))(δ:Env):Option D:=match α δ with
 |some xs=>if xs.length<=sizeLine then some (.lst xs)else none
 |none=>none
theorem Uv{t:TA}{α:Env->Option (List D)}(h:VA G ow t .cl α):VF G ow (Zj7 t) (ZA α):=λH0 av A σ H δ E d e Q k=>by
 unfold ZA at e;cases he:α δ with
 |none=>rw [he]at e;cases e
 |some xs=>
  rw [he]at e
  by_cases hz:xs.length<=sizeLine
  · have e':D.lst xs=d:=by simpa [hz]using e
    exact h H0 av A σ H δ E xs he _ λvs H1 s1 r1=>⟨by rw [<-r1.length];exact hz,λp hp=>k p vs xs H1 s1 hp r1.cl e'.symm⟩
  · simp [hz]at e
def ZE(α:Env->Option (List D))(δ:Env):Option D:=match α δ with
 |some xs=>if xs.length<=sizeLine then some (.tup xs)else none
 |none=>none
theorem V0{t:TA}{α:Env->Option (List D)}(h:VA G ow t .cl α):VE G ow (Zj6 t) .cl (ZE α):=λH0 av A σ H δ E d e Q k=>by
 unfold ZE at e;cases he:α δ with
 |none=>rw [he]at e;cases e
 |some xs=>
  rw [he]at e
  by_cases hz:xs.length<=sizeLine
  · have e':D.tup xs=d:=by simpa [hz]using e
    subst e';refine h H0 av A σ H δ E xs he _ λvs H1 s1 r1=>⟨by rw [<-r1.length];exact hz,λp hp=>k _ _ (s1.trans (YL hp)) ⟨p,vs,rfl,λz=>(E.mono s1).avl p z hp,Yq,r1.cl.same (YL hp)⟩⟩
  · simp [hz]at e
def VC(cA:Kn)(i:Addr->Prop)(H:Hp):List D->List V->Prop
 | [],vs=>vs=[]
 |x::xs,vs=>∃v r,vs=v::r/\(∃t,RepT cA t i H x v)/\VC cA i H xs r
theorem RepQL.il{av:Addr->Prop}{A:Nat->Option Addr}{H:Hp}{q:Ql}:∀{xs:List D}{vs:List V},RepQL cA av A H q xs vs->VC cA (q.iv av A) H xs vs
 | [],_,h=>h
 |x::xs,vs,h=>by
  obtain⟨v,r,e,h1,h2⟩:=h;exact⟨v,r,e,⟨_,h1.tp⟩,RepQL.il h2⟩
def V1(cA:Kn)(r:List V->Hp->VK->Prop)(f:List D->Option D):Prop:=
 ∀(i:Addr->Prop)(H:Hp)(ds:List D)(vs:List V)(d:D),(∀a,i a->H a≠none)->VC cA i H ds vs->f ds=some d->∀Q:VK,(∀v H',Same H H'->Rep cA i H' d v->Q v H')->r vs H Q
def eCB(f:List D->Option D)(α:Env->Option (List D))(δ:Env):Option D:=match α δ with
 |some ds=>f ds
 |none=>none
theorem Yt{r:List V->Hp->VK->Prop}{f:List D->Option D}{t:TA}{q:Ql}{α:Env->Option (List D)}(hr:V1 G.1 r f)(h:VA G ow t q α):VE G ow (tCB r t) q.it (eCB f α):=λH0 av A σ H δ E d e Q k=>by
 unfold eCB at e;cases he:α δ with
 |none=>rw [he]at e;cases e
 |some ds=>
  rw [he]at e;refine h H0 av A σ H δ E ds he _ λvs H1 s1 r1 => ?_
  have E1:=E.mono s1;cases q with
  |cl=>exact hr _ H1 ds vs d E1.avl r1.il e _ λv H' s r=>k v H' (s1.trans s) r.t
  |tp=>exact hr _ H1 ds vs d E1.avl r1.il e _ λv H' s r=>k v H' (s1.trans s) r.t
  |dt=>exact hr _ H1 ds vs d E1.avH r1.il e _ λv H' s r=>k v H' (s1.trans s) r.t
theorem il1{i:Addr->Prop}{H:Hp}{x:D}{vs:List V}(h:VC cA i H [x] vs):∃v t,vs=[v]/\RepT cA t i H x v:=by
 obtain⟨v,r,rfl,⟨t,h1⟩,h2⟩:=h;cases(show r=[]from h2);exact⟨v,t,rfl,h1⟩
theorem il2{i:Addr->Prop}{H:Hp}{x y:D}{vs:List V}(h:VC cA i H [x,y] vs):∃v u t t',vs=[v,u]/\RepT cA t i H x v/\RepT cA t' i H y u:=by
 obtain⟨v,r,rfl,⟨t,h1⟩,u,r',rfl,⟨t',h2⟩,h3⟩:=h;cases(show r'=[]from h3);exact⟨v,u,t,t',rfl,h1,h2⟩
def lenD:List D->Option D
 | [.str a]=>if a.length<=sizeLine then some (.int a.length)else none
 | [.lst xs]=>some (.int xs.length)
 | [.tup xs]=>some (.int xs.length)
 |_=>none
theorem YW:V1 cA (Zfj cA.K) lenD:=λi H ds vs d _ h e Q k=>by
 cases ds with
 |nil=>cases e
 |cons x r=>
  cases r with
  |cons _ _=>cases x<;>cases e
  |nil=>
   obtain⟨v,t,rfl,hx⟩:=il1 h;cases x<;>first|(cases e;done)|skip
   · rename_i a
     dsimp only [lenD]at e
     by_cases hz:a.length<=sizeLine
     · rw [if_pos hz]at e
       cases e;exact .inl ⟨a,by rw [show v=S a from hx],hz,k _ H (Same.refl H) rfl⟩
     · rw [if_neg hz]at e;cases e
   · obtain⟨a,ws,rfl,_,rd,l⟩:=hx
     cases e;exact .inr ⟨a,ws,rfl,.inl rd,k _ H (Same.refl H) (by rw [l.length];rfl)⟩
   · obtain⟨a,ws,rfl,_,rd,l⟩:=hx
     cases e;exact .inr ⟨a,ws,rfl,.inr (SqT.of rd),k _ H (Same.refl H) (by rw [l.length];rfl)⟩
def minD:List D->Option D
 | [.int i,.int j]=>some (.int (if j<i then j else i))
 |_=>none
def Z3:List D->Option D
 | [.int i,.int j]=>some (.int (if j>i then j else i))
 |_=>none
theorem ZfI{ds:List D}{d:D}(e:minD ds=some d):∃i j,ds=[.int i,.int j]/\d = .int (if j<i then j else i):=by
 unfold minD at e
 split at e
 · exact⟨_,_,rfl,(Option.some.inj e).symm⟩
 · cases e
theorem ZeX:V1 cA (λxs H Q=>∃i j,xs=[.int i,.int j]/\Q (.int (if j<i then j else i)) H) minD:=λi H ds vs d _ h e Q k=>by
 obtain⟨a,b,rfl,rfl⟩:=ZfI e;obtain⟨v,u,t,t',rfl,h1,h2⟩:=il2 h;cases(show v=_ from h1);cases(show u=_ from h2);exact⟨a,b,rfl,k _ H (Same.refl H) rfl⟩
def XM:List D->Option (List Bool)
 | []=>some []
 | .bl b::r=>match XM r with
  |some bs=>some (b::bs)
  |none=>none
 |_=>none
theorem Zcc:∀{xs:List D}{bs:List Bool},XM xs=some bs->xs=bs.map D.bl
 | [],bs,h=>by cases h;rfl
 |x::xs,bs,h=>by
  cases x<;>first|(cases h;done)|skip
  rename_i b;unfold XM at h;cases hr:XM xs with
  |none=>rw [hr]at h;cases h
  |some cs=>
   rw [hr]at h;cases h;rw [List.map_cons,Zcc hr]
theorem JI(bs:List Bool):XM (bs.map D.bl)=some bs:=by
 induction bs with
 |nil=>rfl
 |cons b bs ih=>rw [List.map_cons,XM,ih]
def Xg(f:List Bool->Bool):List D->Option D
 | [.lst xs]=>match XM xs with
  |some bs=>some (.bl (f bs))
  |none=>none
 |_=>none
theorem US{f:List Bool->Bool}:V1 cA (QC cA.K f) (Xg f):=λi H ds vs d _ h e Q k=>by
 unfold Xg at e
 split at e
 · rename_i xs
   cases hb:XM xs with
   |none=>rw [hb]at e;cases e
   |some bs=>
    rw [hb]at e;cases e;obtain⟨v,t,rfl,a,ws,rfl,_,rd,l⟩:=il1 h;have ex:=Zcc hb;subst ex;have ev:=l.vals (by rw [List.all_map];exact List.all_eq_true.mpr λ_ _=>rfl);rw [List.map_map]at ev;subst ev;exact⟨a,bs,rfl,rd,k _ H (Same.refl H) rfl⟩
 · cases e
def intD:List D->Option D
 | [.str a]=>if a.length<=640/\a≠[]/\a.all Jy=true then some (.int (Zio a:Nat))else none
 | [.bl b]=>some (.int (if b then 1 else 0))
 |_=>none
theorem ZgX:V1 cA rIntX intD:=λi H ds vs d _ h e Q k=>by
 unfold intD at e
 split at e
 · rename_i a
   obtain⟨v,t,rfl,hx⟩:=il1 h;cases(show v=_ from hx)
   by_cases hz:a.length<=640/\a≠[]/\a.all Jy=true
   · rw [if_pos hz]at e
     cases e;exact .inl ⟨a,rfl,hz.1,hz.2.1,hz.2.2,k _ H (Same.refl H) rfl⟩
   · rw [if_neg hz]at e;cases e
 · rename_i b
   obtain⟨v,t,rfl,hx⟩:=il1 h;cases(show v=_ from hx);cases e;exact .inr ⟨b,rfl,k _ H (Same.refl H) rfl⟩
 · cases e
def Vj:List D->Option D
 | [.lst xs]=>some (.tup xs)
 | [.tup xs]=>some (.tup xs)
 |_=>none
def Zgk:List D->Option D
 | [.lst xs]=>some (.lst xs)
 | [.tup xs]=>some (.lst xs)
 |_=>none
theorem JJ{t:TA}{α:Env->Option (List D)}(h:VA G ow t .cl α):VE G ow (tCB (ZcL G.1.K) t) .cl (eCB Vj α):=λH0 av A σ H δ E d e Q k=>by
 unfold eCB at e;cases he:α δ with
 |none=>rw [he]at e;cases e
 |some ds=>
  rw [he]at e;refine h H0 av A σ H δ E ds he _ λvs H1 s1 r1 => ?_
  have E1:=E.mono s1;have e:Vj ds=some d:=e;unfold Vj at e
  split at e
  · rename_i xs
    cases e;obtain⟨v,r,rfl,⟨a,ws,rfl,_,rd,l⟩,h2⟩:=r1;cases(show r=[]from h2);exact⟨a,ws,rfl,.inl ⟨rd,λp hp=>k _ _ (s1.trans (YL hp)) ⟨p,ws,rfl,λz=>E1.avl p z hp,Yq,l.same (YL hp)⟩⟩⟩
  · rename_i xs
    cases e;obtain⟨v,r,rfl,⟨a,ws,rfl,na,rd,l⟩,h2⟩:=r1;cases(show r=[]from h2);exact⟨a,ws,rfl,.inr ⟨SqT.of rd,k _ H1 s1 ⟨a,ws,rfl,na,rd,l⟩⟩⟩
  · cases e
end
end DL
namespace DL
open PySem PySem.Spec L2
inductive Out where
 |nx (δ:Env)
 |rt (d:D)
 |bk (δ:Env)
 |ct (δ:Env)
def ZiP(G:Cn)(owN owB owC:List Nat)(H0:Hp)(av:Addr->Prop)(De:Ends):Out->Prop
 | .nx δ'=>∀A' σ' H',ER G owN H0 av A' σ' H' δ'->De.nx σ' H'
 | .rt d=>∀v H',Same H0 H'->Rep G.1 av H' d v->De.rt v H'
 | .bk δ'=>∀A' σ' H',ER G owB H0 av A' σ' H' δ'->De.bk σ' H'
 | .ct δ'=>∀A' σ' H',ER G owC H0 av A' σ' H' δ'->De.ct σ' H'
def VS(G:Cn)(ow owN owB owC:List Nat)(ts:TS)(φ:Env->Option Out):Prop:=
 ∀H0 av A σ H δ,ER G ow H0 av A σ H δ->∀o,φ δ=some o->∀De:Ends,ZiP G owN owB owC H0 av De o->ts De σ H
def VG(G:Cn)(ow ow':List Nat)(g:TG)(γ:D->Env->Option Env):Prop:=
 ∀H0 av A σ H δ,ER G ow H0 av A σ H δ->∀d v,Rep G.1 (AV av A) H d v->∀δ',γ d δ=some δ'->∀Q:L2.St->Hp->Prop,(∀A' σ' H',Same H H'->ER G ow' H0 av A' σ' H' δ'->Q σ' H')->g v σ H Q
def sub(a b:List Nat):Bool:=a.all λx=>b.contains x
theorem JK{a b:List Nat}(h:sub a b=true):∀x∈a,x∈b:=λx hx=>by
 have:=List.all_eq_true.mp h x hx;simpa using this
section
variable{cA:Kn}{G:Cn}{ow owN owB owC ow1 ow2:List Nat}{H0 H H':Hp}{av:Addr->Prop}{A:Nat->Option Addr}{σ:L2.St}{δ:Env}
theorem QH{α:Type}{l:List (Option α)}{i j:Nat}{x y:α}(h:(l.set i (some x))[j]? = some (some y)):(j=i/\y=x/\i<l.length)\/(j≠i/\l[j]? = some (some y)):=by
 by_cases e:j=i
 · subst e
   by_cases hl:j<l.length
   · rw [List.getElem?_set_self hl]at h
     exact .inl ⟨rfl,(Option.some.inj (Option.some.inj h)).symm,hl⟩
   · rw [List.getElem?_eq_none (by simpa using hl)]at h
     cases h
 · rw [List.getElem?_set_ne (Ne.symm e)]at h
   exact .inr ⟨e,h⟩
theorem ER.set{i:Nat}{d:D}{v:V}(E:ER G ow H0 av A σ H δ)(h:Rep G.1 (AV av A) H d v)(hw:∀j,j∈ow1 ↔ j∈ow/\j≠i)(hn:G.2 i=none) :
 ER G ow1 H0 av (λj=>if j=i then none else A j) (σ.set i (some v)) H (δ.set i (some d)):=by
 have less:∀b,AV av (λj=>if j=i then none else A j) b->AV av A b:=λb z=>by
  rcases z with z|⟨j,z⟩
  · exact .inl z
  · by_cases e:j=i
    · simp [e]at z
    · simp [e]at z;exact .inr ⟨j,z⟩
 refine⟨E.same,E.avd,λj a e => ?_,λj k a e1 e2 => ?_,λj a e => ?_,λj e => ?_,λj hj => ?_,by simp [E.len],λj a e=>(by
  have q:j≠i:=λz=>by rw [z,hn]at e;cases e
  simp only [q,if_false];exact E.pin j a e),(λj v' e=>by
  have q:j≠i:=λz=>by rw [z,hn]at e;cases e
  rw [List.getElem?_set_ne (Ne.symm q)];exact E.kept j v' e),λj d' e => ?_⟩
 · by_cases q:j=i
   · simp [q]at e
   · simp [q]at e;exact E.fr j a e
 · by_cases q:j=i
   · simp [q]at e1
   · by_cases q2:k=i
     · simp [q2]at e2
     · simp [q]at e1;simp [q2]at e2;exact E.inj j k a e1 e2
 · by_cases q:j=i
   · simp [q]at e
   · simp [q]at e;exact E.live j a e
 · by_cases q:j=i
   · simp [q]at e
   · simp [q]at e;exact(hw j).mpr ⟨E.dom j e,q⟩
 · obtain⟨h1,h2⟩:=(hw j).mp hj
   simp [h2];exact E.dom' j h1
 · rcases QH e with⟨rfl,rfl,hl⟩|⟨q,e'⟩
   · refine⟨v,?_,λ_=>h.av λb z => .inl (less b z),λa z=>by simp at z⟩
     rw [List.getElem?_set_self (by rw [E.len];exact hl)]
   · obtain⟨v',h1,h2,h3⟩:=E.var j d' e'
     refine⟨v',by rw [List.getElem?_set_ne (Ne.symm q)];exact h1,λz => ?_,λa z => ?_⟩
     · simp [q]at z
       exact(h2 z).av λb z => .inl (less b z)
     · simp [q]at z
       obtain⟨r1,r2⟩:=h3 a z;refine⟨r1,?_⟩;cases d' with
       |lst xs=>obtain⟨vs,q1,q2⟩:=r2;exact⟨vs,q1,q2.av λb z => .inl (less b z)⟩
       |obj c ks xs=>obtain⟨dx,vs,q1,q0,q2⟩:=r2;exact⟨dx,vs,q1,q0,q2.av λb z => .inl (less b z)⟩
       |dct ks xs=>obtain⟨vs,q1,q0,q2⟩:=r2;exact⟨vs,q1,q0,q2.av λb z => .inl (less b z)⟩
       |dtt ks xs=>obtain⟨vs,q1,q0,q2⟩:=r2;exact⟨vs,q1,q0,q2.av λb z => .inl (less b z)⟩
       |_=>exact r2
theorem ER.own{i:Nat}{xs:List D}{vs:List V}{p:Addr}(E:ER G ow H0 av A σ H δ)(hp:H p=none)(l:RepL G.1 (AV av A) H xs vs)(hw:∀j,j∈ow1 ↔ j∈ow\/j=i)(hn:G.2 i=none) :
 ER G ow1 H0 av (λj=>if j=i then some p else A j) (σ.set i (some (.ref p))) (upd H p (.lst vs)) (δ.set i (some (.lst xs))):=by
 have hs:Same H (upd H p (.lst vs)):=YL hp
 have less:∀b,AV av (λj=>if j=i then some p else A j) b->AV av A b\/H b=none:=λb z=>by
  rcases z with z|⟨j,z⟩
  · exact .inl (.inl z)
  · by_cases e:j=i
    · simp [e]at z;subst z;exact .inr hp
    · simp [e]at z;exact .inl (.inr ⟨j,z⟩)
 have np:∀j a,A j=some a->a≠p:=λj a e z=>by subst z;exact E.live j a e hp
 have h0:H0 p=none:=by
  cases q:H0 p with
  |none=>rfl
  |some o=>rw [E.same p o q]at hp;cases hp
 refine⟨E.same.trans hs,E.avd,λj a e => ?_,λj k a e1 e2 => ?_,λj a e => ?_,λj e => ?_,λj hj => ?_,by simp [E.len],λj a e=>(by
  have q:j≠i:=λz=>by rw [z,hn]at e;cases e
  simp only [q,if_false];exact E.pin j a e),(λj v' e=>by
  have q:j≠i:=λz=>by rw [z,hn]at e;cases e
  rw [List.getElem?_set_ne (Ne.symm q)];exact E.kept j v' e),λj d' e => ?_⟩
 · by_cases q:j=i
   · simp [q]at e;subst e;exact h0
   · simp [q]at e;exact E.fr j a e
 · by_cases q:j=i
   · by_cases q2:k=i
     · rw [q,q2]
     · simp [q]at e1;simp [q2]at e2
       exact absurd e1.symm (np k a e2)
   · by_cases q2:k=i
     · simp [q]at e1;simp [q2]at e2
       exact absurd e2.symm (np j a e1)
     · simp [q]at e1;simp [q2]at e2;exact E.inj j k a e1 e2
 · by_cases q:j=i
   · simp [q]at e;subst e;rw [Yq];exact λz=>by cases z
   · simp [q]at e
     rw [Zv (np j a e)];exact E.live j a e
 · by_cases q:j=i
   · exact(hw j).mpr (.inr q)
   · simp [q]at e;exact(hw j).mpr (.inl (E.dom j e))
 · by_cases q:j=i
   · simp [q]
   · simp [q]
     exact E.dom' j (((hw j).mp hj).resolve_right q)
 · rcases QH e with⟨rfl,rfl,hl⟩|⟨q,e'⟩
   · refine⟨.ref p,?_,λz=>by simp at z,λa z => ?_⟩
     · rw [List.getElem?_set_self (by rw [E.len];exact hl)]
     · simp at z
       subst z;exact⟨rfl,vs,Yq,(l.av less).same hs⟩
   · obtain⟨v',h1,h2,h3⟩:=E.var j d' e'
     refine⟨v',by rw [List.getElem?_set_ne (Ne.symm q)];exact h1,λz => ?_,λa z => ?_⟩
     · simp [q]at z
       exact((h2 z).av less).same hs
     · simp [q]at z
       obtain⟨r1,r2⟩:=h3 a z;refine⟨r1,?_⟩;cases d' with
       |lst xs=>obtain⟨vs',q1,q2⟩:=r2;exact⟨vs',hs _ _ q1,(q2.av less).same hs⟩
       |obj c ks xs=>obtain⟨dx,vs',q1,q0,q2⟩:=r2;exact⟨dx,vs',hs _ _ q1,q0,(q2.av less).same hs⟩
       |dct ks xs=>obtain⟨vs',q1,q0,q2⟩:=r2;exact⟨vs',hs _ _ q1,q0,(q2.av less).same hs⟩
       |dtt ks xs=>obtain⟨vs',q1,q0,q2⟩:=r2;exact⟨vs',hs _ _ q1,q0,(q2.av less).same hs⟩
       |_=>exact r2
theorem ER.put{i:Nat}{a:Addr}{d d':D}(E:ER G ow H0 av A σ H δ)(hi:A i=some a)(hd:δ[i]? = some (some d))(hk:∀b o,b≠a->H b=some o->H' b=some o)(hl:H' a≠none)(ho:Own G.1 (AV av A) H' d' a) :
 ER G ow H0 av A σ H' (δ.set i (some d')):=by
 have kk:∀b o,¬AV av A b->H b=some o->H' b=some o:=λb o n e=>hk b o (λz=>n (.inr ⟨i,by rw [z];exact hi⟩)) e
 refine⟨λb o e=>hk b o (λz => ?_) (E.same b o e),E.avd,E.fr,E.inj,λj b e => ?_,E.dom,E.dom',by simp [E.len],E.pin,E.kept,λj d'' e => ?_⟩
 · rw [z,E.fr i a hi]at e;cases e
 · by_cases q:b=a
   · subst q;exact hl
   · have:=E.live j b e
     cases e':H b with
     |none=>exact absurd e' this
     |some o=>rw [hk b o q e'];exact λz=>by cases z
 · rcases QH e with⟨rfl,rfl,hl'⟩|⟨q,e'⟩
   · obtain⟨v,h1,_,h3⟩:=E.var j d hd
     obtain⟨r1,_⟩:=h3 a hi
     exact⟨v,h1,λz=>(by rw [hi]at z;cases z),λb z=>by
      rw [hi]at z;cases z;exact⟨r1,ho⟩⟩
   · obtain⟨v',h1,h2,h3⟩:=E.var j d'' e'
     refine⟨v',h1,λz=>(h2 z).ext kk,λb z => ?_⟩;obtain⟨r1,r2⟩:=h3 b z;have nb:b≠a:=λw=>q (E.inj j i a (by rw [<-w];exact z) hi)
     refine⟨r1,?_⟩;cases d'' with
     |lst xs=>obtain⟨vs,q1,q2⟩:=r2;exact⟨vs,hk _ _ nb q1,q2.ext kk⟩
     |obj c ks xs=>obtain⟨dx,vs,q1,q0,q2⟩:=r2;exact⟨dx,vs,hk _ _ nb q1,q0,q2.ext kk⟩
     |dct ks xs=>obtain⟨vs,q1,q0,q2⟩:=r2;exact⟨vs,hk _ _ nb q1,q0,q2.ext kk⟩
     |dtt ks xs=>obtain⟨vs,q1,q0,q2⟩:=r2;exact⟨vs,hk _ _ nb q1,q0,q2.ext kk⟩
     |_=>exact r2
theorem ER.freeze(i:Nat)(E:ER G ow H0 av A σ H δ)(hw:∀j,j∈ow1 ↔ j∈ow/\j≠i)(hn:G.2 i=none):ER G ow1 H0 av (λj=>if j=i then none else A j) σ H δ:=by
 have less:∀b,AV av (λj=>if j=i then none else A j) b->AV av A b:=λb z=>by
  rcases z with z|⟨j,z⟩
  · exact .inl z
  · by_cases e:j=i
    · simp [e]at z
    · simp [e]at z;exact .inr ⟨j,z⟩
 refine⟨E.same,E.avd,λj a e => ?_,λj k a e1 e2 => ?_,λj a e => ?_,λj e => ?_,λj hj => ?_,E.len,λj a e=>(by
  have q:j≠i:=λz=>by rw [z,hn]at e;cases e
  simp only [q,if_false];exact E.pin j a e),E.kept,λj d' e => ?_⟩
 · by_cases q:j=i
   · simp [q]at e
   · simp [q]at e;exact E.fr j a e
 · by_cases q:j=i
   · simp [q]at e1
   · by_cases q2:k=i
     · simp [q2]at e2
     · simp [q]at e1;simp [q2]at e2;exact E.inj j k a e1 e2
 · by_cases q:j=i
   · simp [q]at e
   · simp [q]at e;exact E.live j a e
 · by_cases q:j=i
   · simp [q]at e
   · simp [q]at e;exact(hw j).mpr ⟨E.dom j e,q⟩
 · obtain⟨h1,h2⟩:=(hw j).mp hj
   simp [h2];exact E.dom' j h1
 · obtain⟨v',h1,h2,h3⟩:=E.var j d' e
   refine⟨v',h1,λz => ?_,λa z => ?_⟩
   · by_cases q:j=i
     · subst q
       cases hA:A j with
       |none=>exact(h2 hA).av λb z => .inl (less b z)
       |some a=>
        obtain⟨rfl,r2⟩:=h3 a hA
        have na:¬AV av (λk=>if k=j then none else A k) a:=λz=>by
         rcases z with z|⟨k,z⟩
         · exact E.avd a z (E.fr j a hA)
         · by_cases qk:k=j
           · simp [qk]at z
           · simp [qk]at z;exact qk (E.inj k j a z hA)
        cases d' with
        |lst xs=>obtain⟨vs,q1,q2⟩:=r2;unfold Rep;exact⟨a,vs,rfl,λz=>(na z).elim,SqL.of q1,q2.av λb z => .inl (less b z)⟩
        |obj c ks xs=>obtain⟨dx,vs,q1,q0,q2⟩:=r2;unfold Rep;exact⟨a,dx,vs,rfl,na,q1,q0,q2.av λb z => .inl (less b z)⟩
        |dct ks xs=>obtain⟨vs,q1,q0,q2⟩:=r2;unfold Rep;exact⟨a,vs,rfl,na,q1,q0,q2.av λb z => .inl (less b z)⟩
        |dtt ks xs=>obtain⟨vs,q1,q0,q2⟩:=r2;unfold Rep;exact⟨a,vs,rfl,na,q1,q0,q2.av λb z => .inl (less b z)⟩
        |_=>exact False.elim r2
     · simp [q]at z
       exact(h2 z).av λb z => .inl (less b z)
   · by_cases q:j=i
     · simp [q]at z
     · simp [q]at z
       obtain⟨r1,r2⟩:=h3 a z;refine⟨r1,?_⟩;cases d' with
       |lst xs=>obtain⟨vs,q1,q2⟩:=r2;exact⟨vs,q1,q2.av λb z => .inl (less b z)⟩
       |obj c ks xs=>obtain⟨dx,vs,q1,q0,q2⟩:=r2;exact⟨dx,vs,q1,q0,q2.av λb z => .inl (less b z)⟩
       |dct ks xs=>obtain⟨vs,q1,q0,q2⟩:=r2;exact⟨vs,q1,q0,q2.av λb z => .inl (less b z)⟩
       |dtt ks xs=>obtain⟨vs,q1,q0,q2⟩:=r2;exact⟨vs,q1,q0,q2.av λb z => .inl (less b z)⟩
       |_=>exact r2
open Classical in
noncomputable def cut(A:Nat->Option Addr)(H:Hp):Hp:=λb=>if ∃i,A i=some b then none else H b
theorem Zcd{b:Addr}{o:HO}(h:cut A H b=some o):H b=some o/\¬∃i,A i=some b:=by
 unfold cut at h
 by_cases e:∃i,A i=some b
 · rw [if_pos e]at h;cases h
 · rw [if_neg e]at h;exact⟨h,e⟩
theorem VD{b:Addr}(e:¬∃i,A i=some b):cut A H b=H b:=by
 unfold cut;rw [if_neg e]
theorem ER.cut(E:ER G ow H0 av A σ H δ):ER G ow (DL.cut A H) av A σ H δ:=by
 refine⟨λb o e=>(Zcd e).1,λa z => ?_,λi a e => ?_,E.inj,E.live,E.dom,E.dom',E.len,E.pin,E.kept,E.var⟩
 · rw [VD λ⟨i,e⟩=>E.avd a z (E.fr i a e)]
   exact E.avH a z
 · unfold DL.cut
   rw [if_pos ⟨i,e⟩]
theorem ER.sub0(E:ER G ow H0 av A σ H δ):Same H0 (DL.cut A H):=λb o e=>by
 rw [VD λ⟨i,z⟩=>by rw [E.fr i b z]at e;cases e];exact E.same b o e
theorem ER.uncut{A':Nat->Option Addr}{σ':L2.St}{δ':Env}(E:ER G ow H0 av A σ H δ)(E':ER G ow1 (DL.cut A H) av A' σ' H' δ'):ER G ow1 H0 av A' σ' H' δ':=
 ⟨E.sub0.trans E'.same,E.avd,λi a e=>E.sub0.free (E'.fr i a e),E'.inj,E'.live,E'.dom,E'.dom',E'.len,E'.pin,E'.kept,E'.var⟩
def sNext(δ:Env):Option Out:=some (.nx δ)
theorem Ym:VS G ow ow owB owC tNext sNext:=λH0 av A σ H δ E o e De k=>by
 cases e;exact k A σ H E
def Zf(φ ψ:Env->Option Out)(δ:Env):Option Out:=match φ δ with
 |some (.nx δ')=>ψ δ'
 |r=>r
theorem Zs{t u:TS}{φ ψ:Env->Option Out}(h1:VS G ow ow1 owB owC t φ)(h2:VS G ow1 owN owB owC u ψ):VS G ow owN owB owC (Vc t u) (Zf φ ψ):=λH0 av A σ H δ E o e De k=>by
 unfold Zf at e;cases he:φ δ with
 |none=>rw [he]at e;cases e
 |some o1=>
  rw [he]at e;refine h1 H0 av A σ H δ E o1 he _ ?_;cases o1 with
  |nx δ'=>exact λA' σ' H' E'=>h2 H0 av A' σ' H' δ' E' o e De k
  |rt d=>cases e;exact k
  |bk δ'=>cases e;exact k
  |ct δ'=>cases e;exact k
def sIf(τ:Env->Option Bool)(φ ψ:Env->Option Out)(δ:Env):Option Out:=match τ δ with
 |some true=>φ δ
 |some false=>ψ δ
 |none=>none
theorem Yn{c:TT}{t u:TS}{τ:Env->Option Bool}{φ ψ:Env->Option Out}(hc:VT G ow c τ)(h1:VS G ow owN owB owC t φ)(h2:VS G ow owN owB owC u ψ):VS G ow owN owB owC (Zih c t u) (sIf τ φ ψ):=λH0 av A σ H δ E o e De k=>by
 unfold sIf at e;cases he:τ δ with
 |none=>rw [he]at e;cases e
 |some b=>
  rw [he]at e;refine hc H0 av A σ H δ E b he _ λH' s => ?_
  cases b with
  |true=>exact Vi (h1 H0 av A σ H' δ (E.mono s) o e De k)
  |false=>exact XU (h2 H0 av A σ H' δ (E.mono s) o e De k)
def Zm(ε:Env->Option D)(δ:Env):Option Out:=match ε δ with
 |some d=>some (.rt d)
 |none=>none
theorem Z8{te:TE}{q:Ql}{ε:Env->Option D}(h:VE G ow te q ε):VS G ow owN owB owC (Jo te) (Zm ε):=λH0 av A σ H δ E o e De k=>by
 unfold Zm at e;cases he:ε δ with
 |none=>rw [he]at e;cases e
 |some d=>
  rw [he]at e;cases e;exact h H0 av A σ H δ E d he _ λv H' s r=>k v H' (E.same.trans s) r.any
def Z4(_:Env):Option Out:=some (.rt .non)
def sNever(_:Env):Option Out:=none
theorem JL{ts:TS}:VS G ow owN owB owC ts sNever:=λH0 av A σ H δ E o e De k=>by cases e
def sBreak(δ:Env):Option Out:=some (.bk δ)
theorem ZaY:VS G ow owN ow owC tBreak sBreak:=λH0 av A σ H δ E o e De k=>by
 cases e;exact k A σ H E
def Zk(i:Nat)(ε:Env->Option D)(δ:Env):Option Out:=match ε δ with
 |some d=>some (.nx (δ.set i (some d)))
 |none=>none
theorem Zay{i:Nat}(h1:sub ow1 ow=true)(h2:ow1.contains i=false)(h3:sub ow (i::ow1)=true):∀j,j∈ow1 ↔ j∈ow/\j≠i:=λj=>by
 constructor
 · intro h
   refine⟨JK h1 j h,λe => ?_⟩;subst e;have:j∉ow1:=by simpa using h2
   exact this h
 · rintro⟨h,n⟩
   rcases List.mem_cons.mp (JK h3 j h)with e|e
   · exact absurd e n
   · exact e
theorem Zeg{i:Nat}(h1:sub ow1 (i::ow)=true)(h2:ow1.contains i=true)(h3:sub ow ow1=true):∀j,j∈ow1 ↔ j∈ow\/j=i:=λj=>by
 constructor
 · intro h
   rcases List.mem_cons.mp (JK h1 j h)with e|e
   · exact .inr e
   · exact .inl e
 · rintro(h|rfl)
   · exact JK h3 j h
   · simpa using h2
theorem Yl{te:TE}{ε:Env->Option D}(i:Nat)(h:VE G ow te .cl ε)(hn:G.2 i=none:=by rfl)(h1:sub owN ow=true:=by rfl)(h2:owN.contains i=false:=by rfl)(h3:sub ow (i::owN)=true:=by rfl):VS G ow owN owB owC (Um te (Vd i)) (Zk i ε):=λH0 av A σ H δ E o e De k=>by
 unfold Zk at e;cases he:ε δ with
 |none=>rw [he]at e;cases e
 |some d=>
  rw [he]at e;cases e;exact h H0 av A σ H δ E d he _ λv H' s r=>k _ _ H' ((E.mono s).set (RepT.r r) (Zay h1 h2 h3) hn)
theorem ZbG{te:TE}{ε:Env->Option D}(i:Nat)(h:VF G ow te ε)(hn:G.2 i=none:=by rfl)(h1:sub owN (i::ow)=true:=by rfl)(h2:owN.contains i=true:=by rfl)(h3:sub ow owN=true:=by rfl):VS G ow owN owB owC (Um te (Vd i)) (Zk i ε):=λH0 av A σ H δ E o e De k=>by
 unfold Zk at e;cases he:ε δ with
 |none=>rw [he]at e;cases e
 |some d=>
  rw [he]at e;cases e;refine h H0 av A σ H δ E d he _ λp vs xs H1 s hp l hd => ?_
  subst hd;exact k _ _ _ ((E.mono s).own hp l (Zeg h1 h2 h3) hn)
def Zx(ε:Env->Option D)(δ:Env):Option Out:=match ε δ with
 |some _=>some (.nx δ)
 |none=>none
theorem Xh{te:TE}{q:Ql}{ε:Env->Option D}(h:VE G ow te q ε):VS G ow ow owB owC (UH te) (Zx ε):=λH0 av A σ H δ E o e De k=>by
 unfold Zx at e;cases he:ε δ with
 |none=>rw [he]at e;cases e
 |some d=>
  rw [he]at e;cases e;exact h H0 av A σ H δ E d he _ λv H' s r=>k A σ H' (E.mono s)
def V2(i:Nat)(ε:Env->Option D)(δ:Env):Option Out:=match Za i δ with
 |some (.lst xs)=>match ε δ with
  |some d=>if xs.length<sizeLine then some (.nx (δ.set i (some (.lst (xs++[d])))))else none
  |none=>none
 |_=>none
theorem ZeY{K:PySem.W.Frag}{te:TE}{ε:Env->Option D}(i:Nat)(hi:ow.contains i=true)(h:VE G ow te .cl ε):VS G ow ow owB owC (UH (tBM K "list" rAppend (YZ i) (YR te tNil))) (V2 i ε):=λH0 av A σ H δ E o e De k=>by
 unfold V2 at e;cases hv:Za i δ with
 |none=>rw [hv]at e;cases e
 |some x=>
  rw [hv]at e;cases x<;>first|(cases e;done)|skip
  rename_i xs;dsimp only at e;cases he:ε δ with
  |none=>rw [he]at e;cases e
  |some d=>
   rw [he]at e;dsimp only at e
   by_cases hz:xs.length<sizeLine
   · rw [if_pos hz]at e
     cases e;have hi':i∈ow:=by simpa using hi
     cases hA:A i with
     |none=>exact absurd hA (E.dom' i hi')
     |some a=>
      obtain⟨v,h1,_,h3⟩:=E.var i _ (XV hv);obtain⟨rfl,vs,q1,q2⟩:=h3 a hA;refine⟨_,h1,.inl ⟨rfl,vs,SqL.of q1⟩,h H0 av A σ H δ E d he _ λv H' s r => ?_⟩;have E':=E.mono s;have q1':=s _ _ q1;refine⟨a,vs,v,rfl,rfl,q1',by rw [<-q2.length];exact hz,k A σ _ (E'.put hA (XV hv) (λb o hb e=>by rw [Zv hb];exact e) (by rw [Yq];exact λz=>by cases z) ⟨_,Yq,?_⟩)⟩
      have ex:∀b o,¬AV av A b->H' b=some o->upd H' a (.lst (vs++[v])) b=some o:=λb o n e=>by
       rw [Zv λz=>n (.inr ⟨i,by rw [z];exact hA⟩)];exact e
      exact((q2.same s).append (.cons (RepT.r r) .nil)).ext ex
   · rw [if_neg hz]at e;cases e
theorem VS.frz{t:TS}{φ:Env->Option Out}(i:Nat)(h:VS G ow1 owN owB owC t φ)(hn:G.2 i=none:=by rfl)(h1:sub ow1 ow=true:=by rfl)(h2:ow1.contains i=false:=by rfl)(h3:sub ow (i::ow1)=true:=by rfl):VS G ow owN owB owC t φ:=λH0 av A σ H δ E o e De k=>
 h H0 av _ σ H δ (E.freeze i (Zay h1 h2 h3) hn) o e De k
def Z9(i:Nat)(d:D)(δ:Env):Option Env:=some (δ.set i (some d))
theorem Y4(i:Nat)(hi:ow.contains i=false:=by rfl)(hn:G.2 i=none:=by rfl):VG G ow ow (Vd i) (Z9 i):=λH0 av A σ H δ E d v r δ' e Q k=>by
 cases e
 exact k _ _ H (Same.refl H) (E.set r (λj=>by
  have:i∉ow:=by simpa using hi
  exact⟨λh=>⟨h,λz=>this (z▸h)⟩,λh=>h.1⟩) hn)
def VGs(G:Cn)(ow ow':List Nat)(g:TGs)(γ:List D->Env->Option Env):Prop:=
 ∀H0 av A σ H δ,ER G ow H0 av A σ H δ->∀ds vs,RepL G.1 (AV av A) H ds vs->∀δ',γ ds δ=some δ'->∀Q:L2.St->Hp->Prop,(∀A' σ' H',Same H H'->(∀b,AV av A' b->AV av A b)->ER G ow' H0 av A' σ' H' δ'->Q σ' H')->g vs σ H Q
def gsNil(ds:List D)(δ:Env):Option Env:=match ds with
 | []=>some δ
 |_=>none
theorem ZbH:VGs G ow ow gNil gsNil:=λH0 av A σ H δ E ds vs r δ' e Q k=>by
 cases ds with
 |nil=>cases e;exact⟨r.nil_of,k A σ H (Same.refl H) (λ_ z=>z) E⟩
 |cons _ _=>cases e
def YC(i:Nat)(γs:List D->Env->Option Env)(ds:List D)(δ:Env):Option Env:=match ds with
 |d::r=>γs r (δ.set i (some d))
 | []=>none
theorem UT{gs:TGs}{γs:List D->Env->Option Env}(i:Nat)(hi:ow.contains i=false)(hn:G.2 i=none)(h:VGs G ow ow gs γs):VGs G ow ow (Zgb (Vd i) gs) (YC i γs):=λH0 av A σ H δ E ds vs r δ' e Q k=>by
 cases ds with
 |nil=>cases e
 |cons d ds=>
  obtain⟨v,vr,rfl,r1,r2⟩:=r.uncons;refine⟨v,vr,rfl,?_⟩
  have less:∀b,AV av (λj=>if j=i then none else A j) b->AV av A b:=λb z=>by
   rcases z with z|⟨j,z⟩
   · exact .inl z
   · by_cases e:j=i
     · simp [e]at z
     · simp [e]at z;exact .inr ⟨j,z⟩
  have E1:ER G ow H0 av (λj=>if j=i then none else A j) (σ.set i (some v)) H (δ.set i (some d)):=E.set r1 (λj=>by
   have:i∉ow:=by simpa using hi
   exact⟨λh=>⟨h,λz=>this (z▸h)⟩,λh=>h.1⟩) hn
  exact h H0 av _ _ H _ E1 ds vr (r2.av λb z => .inl (less b z)) δ' e Q λA' σ' H' s l E'=>k A' σ' H' s (λb z=>less b (l b z)) E'
def Xr(n:Nat)(γs:List D->Env->Option Env)(d:D)(δ:Env):Option Env:=match d with
 | .tup ds=>if ds.length=n then γs ds δ else none
 |_=>none
theorem ZcN{K:PySem.W.Frag}{n:Nat}{gs:TGs}{γs:List D->Env->Option Env}(h:VGs G ow ow gs γs):VG G ow ow (Zii K n gs) (Xr n γs):=λH0 av A σ H δ E d v r δ' e Q k=>by
 cases d<;>first|(cases e;done)|skip
 rename_i ds;dsimp only [Xr]at e
 by_cases hz:ds.length=n
 · rw [if_pos hz]at e
   unfold Rep at r;obtain⟨a,vs,rfl,_,rd,l⟩:=r;exact⟨a,vs,rfl,SqT.of rd,by rw [<-l.length];exact hz,h H0 av A σ H δ E ds vs l δ' e Q λA' σ' H' s _ E'=>k A' σ' H' s E'⟩
 · rw [if_neg hz]at e;cases e
def V3(cA:Kn)(iv:Addr->Prop)(J:It)(xs:List D)(H0:Hp):Prop:=∀H,Same H0 H ->
 (∀i,i<xs.length->J.go i H) /\
 (∀(i:Nat)x v H',xs[i]? = some x->J.yld i H v H'->Same H H'/\∀av':Addr->Prop,(∀b,av' b->H b≠none)->(∀b,av' b->iv b\/H0 b=none)->Rep cA av' H' x v) /\
 (∀i,xs.length<=i->J.stop i H)
def VI(G:Cn)(ow:List Nat)(wi:TI)(ι:Env->Option (List D)):Prop:=
 ∀H0 av A σ H δ,ER G ow H0 av A σ H δ->∀xs,ι δ=some xs->∀R:It->Hp->Prop,(∀J H1,Same H H1->V3 G.1 (AV av A) J xs (DL.cut A H1)->R J H1)->wi σ H R
def YO(γ:D->Env->Option Env)(φ:Env->Option Out):List D->Env->Option Out
 | [],δ=>some (.nx δ)
 |x::r,δ=>match γ x δ with
  |none=>none
  |some δ1=>match φ δ1 with
   |none=>none
   |some (.nx δ2)=>YO γ φ r δ2
   |some (.ct δ2)=>YO γ φ r δ2
   |some (.bk δ2)=>some (.nx δ2)
   |some (.rt d)=>some (.rt d)
def Y8(ι:Env->Option (List D))(γ:D->Env->Option Env)(φ:Env->Option Out)(δ:Env):Option Out:=match ι δ with
 |some xs=>YO γ φ xs δ
 |none=>none
theorem UU{wi:TI}{g:TG}{tb:TS}{ι:Env->Option (List D)}{γ:D->Env->Option Env}{φ:Env->Option Out}(hi:VI G ow wi ι)(hg:VG G ow ow g γ)(hb:VS G ow ow ow ow tb φ):VS G ow ow owB owC (Zj3 wi g tb) (Y8 ι γ φ):=λH0 av A σ H δ E o e De k=>by
 unfold Y8 at e;cases he:ι δ with
 |none=>rw [he]at e;cases e
 |some xs=>
  rw [he]at e;have e:YO γ φ xs δ=some o:=e;refine hi H0 av A σ H δ E xs he _ λJ H1 s1 W => ?_
  have E1:=E.mono s1;refine⟨λi m σ' H'=>m=xs.length-i/\i<=xs.length/\∃A' δ',ER G ow (DL.cut A H1) av A' σ' H' δ'/\YO γ φ (xs.drop i) δ'=some o,⟨xs.length,by simp,Nat.zero_le _,A,δ,E1.cut,e⟩,?_⟩
  rintro i m σ' H' ⟨rfl,hle,A',δ',E',e'⟩
  obtain⟨w1,w2,w3⟩:=W H' E'.same
  by_cases hlt:i<xs.length
  · refine .inr ⟨w1 i hlt,λσ2 H2=>∃A2 δ2,ER G ow (DL.cut A H1) av A2 σ2 H2 δ2/\YO γ φ (xs.drop (i+1)) δ2=some o,λσ2 H2 ⟨A2,δ2,E2,e2⟩=>⟨xs.length-(i+1),by omega,rfl,hlt,A2,δ2,E2,e2⟩,λv H2 y => ?_⟩
    have hx:xs[i]? = some xs[i]:=List.getElem?_eq_getElem hlt;obtain⟨s2,rep⟩:=w2 i _ v H2 hx y;have E2:=E'.mono s2
    have rep':Rep G.1 (AV av A') H2 xs[i] v:=rep _ E'.avl λb z=>by
     rcases z with z|⟨j,z⟩
     · exact .inl (.inl z)
     · exact .inr (E'.fr j b z)
    rw [List.drop_eq_getElem_cons hlt]at e';unfold YO at e';cases hγ:γ xs[i] δ' with
    |none=>rw [hγ]at e';cases e'
    |some δ1=>
     rw [hγ]at e';dsimp only at e';refine hg _ av A' σ' H2 δ' E2 _ v rep' δ1 hγ _ λA3 σ3 H3 s3 E3 => ?_
     cases hφ:φ δ1 with
     |none=>rw [hφ]at e';cases e'
     |some o1=>
      rw [hφ]at e';refine hb _ av A3 σ3 H3 δ1 E3 o1 hφ _ ?_;cases o1 with
      |nx δ2=>exact λA4 σ4 H4 E4=>⟨A4,δ2,E4,e'⟩
      |ct δ2=>exact λA4 σ4 H4 E4=>⟨A4,δ2,E4,e'⟩
      |bk δ2=>cases e';exact λA4 σ4 H4 E4=>k A4 σ4 H4 (E1.uncut E4)
      |rt d=>cases e';exact λv H4 s4 r4=>k v H4 (E1.sub0.trans s4) r4
  · have ei:i=xs.length:=by omega
    subst ei;rw [List.drop_length]at e';cases e';exact .inl ⟨w3 _ (Nat.le_refl _),k A' σ' H' (E1.uncut E')⟩
def Xb(τ:Env->Option Bool)(φ:Env->Option Out):Nat->Env->Option Out
 |0,_=>none
 |n+1,δ=>match τ δ with
  |none=>none
  |some false=>some (.nx δ)
  |some true=>match φ δ with
   |none=>none
   |some (.nx δ2)=>Xb τ φ n δ2
   |some (.ct δ2)=>Xb τ φ n δ2
   |some (.bk δ2)=>some (.nx δ2)
   |some (.rt d)=>some (.rt d)
theorem JM{τ:Env->Option Bool}{φ:Env->Option Out}:∀(n k:Nat)(δ:Env)(o:Out),Xb τ φ n δ=some o->Xb τ φ (n+k) δ=some o
 |0,_,_,_,h=>by cases h
 |n+1,k,δ,o,h=>by
  rw [Nat.add_right_comm];unfold Xb at h ⊢;cases ht:τ δ with
  |none=>rw [ht]at h;cases h
  |some b=>
   rw [ht]at h;cases b with
   |false=>exact h
   |true=>
    dsimp only at h ⊢;cases hp:φ δ with
    |none=>rw [hp]at h;cases h
    |some o1=>
     rw [hp]at h;cases o1 with
     |nx δ2=>exact JM n k δ2 o h
     |ct δ2=>exact JM n k δ2 o h
     |bk δ2=>exact h
     |rt d=>exact h
open Classical in
noncomputable def Uw(τ:Env->Option Bool)(φ:Env->Option Out)(δ:Env):Option Out:=if h:∃n o,Xb τ φ n δ=some o then Xb τ φ (Classical.choose h) δ else none
theorem ZdD{τ:Env->Option Bool}{φ:Env->Option Out}{δ:Env}{n:Nat}{o:Out}(h:Xb τ φ n δ=some o):Uw τ φ δ=some o:=by
 have hx:∃n o,Xb τ φ n δ=some o:=⟨n,o,h⟩
 unfold Uw;rw [dif_pos hx];obtain⟨o',ho'⟩:=Classical.choose_spec hx;have h1:=JM _ n δ o' ho';have h2:=JM _ (Classical.choose hx) δ o h;rw [Nat.add_comm,h2]at h1;rw [ho',h1]
theorem ZbQ{τ:Env->Option Bool}{φ:Env->Option Out}{δ:Env}{o:Out}(h:Uw τ φ δ=some o):∃n,Xb τ φ n δ=some o:=by
 unfold Uw at h
 split at h
 · exact⟨_,h⟩
 · cases h
theorem Zeh{c:TT}{tb:TS}{τ:Env->Option Bool}{φ:Env->Option Out}(hc:VT G ow c τ)(hb:VS G ow ow ow ow tb φ):VS G ow ow owB owC (ZeR c tb) (Uw τ φ):=λH0 av A σ H δ E o e De k=>by
 obtain⟨n,e⟩:=ZbQ e;refine⟨λm σ' H'=>∃A' δ',ER G ow H0 av A' σ' H' δ'/\Xb τ φ m δ'=some o,⟨n,A,δ,E,e⟩,?_⟩
 rintro m σ' H' ⟨A',δ',E',e'⟩
 cases m with
 |zero=>cases e'
 |succ m=>
  unfold Xb at e';cases ht:τ δ' with
  |none=>rw [ht]at e';cases e'
  |some b=>
   rw [ht]at e';refine hc H0 av A' σ' H' δ' E' b ht _ λH2 s2 => ?_
   have E2:=E'.mono s2;cases b with
   |false=>cases e';exact XU (k A' σ' H2 E2)
   |true=>
    dsimp only at e';refine Vi ⟨λσ3 H3=>∃A3 δ3,ER G ow H0 av A3 σ3 H3 δ3/\Xb τ φ m δ3=some o,λσ3 H3 ⟨A3,δ3,E3,e3⟩=>⟨m,Nat.lt_succ_self _,A3,δ3,E3,e3⟩,?_⟩;cases hφ:φ δ' with
    |none=>rw [hφ]at e';cases e'
    |some o1=>
     rw [hφ]at e';refine hb H0 av A' σ' H2 δ' E2 o1 hφ _ ?_;cases o1 with
     |nx δ2=>exact λA4 σ4 H4 E4=>⟨A4,δ2,E4,e'⟩
     |ct δ2=>exact λA4 σ4 H4 E4=>⟨A4,δ2,E4,e'⟩
     |bk δ2=>cases e';exact k
     |rt d=>cases e';exact k
end
end DL
namespace DL
open PySem PySem.Spec L2
section
variable{cA:Kn}{G:Cn}{ow owN owB owC:List Nat}
def Yz(ε:Env->Option D)(δ:Env):Option (List D):=match ε δ with
 |some (.lst xs)=>some xs
 |some (.tup xs)=>some xs
 |some (.str cs)=>some (cs.map λc => .str [c])
 |_=>none
theorem Rep.cut{av:Addr->Prop}{A:Nat->Option Addr}{H:Hp}{d:D}{v:V}(h:Rep cA (AV av A) H d v):Rep cA (AV av A) (DL.cut A H) d v:=h.ext λb o n e=>by
 rw [VD λ⟨i,z⟩=>n (.inr ⟨i,z⟩)];exact e
theorem RepL.cut{av:Addr->Prop}{A:Nat->Option Addr}{H:Hp}{d:List D}{v:List V}(h:RepL cA (AV av A) H d v):RepL cA (AV av A) (DL.cut A H) d v:=h.ext λb o n e=>by
 rw [VD λ⟨i,z⟩=>n (.inr ⟨i,z⟩)];exact e
theorem Zcy{iv:Addr->Prop}{H0:Hp}{a:Addr}{vs:List V}{xs:List D}(rd:SqL cA.K H0 a vs)(l:RepL cA iv H0 xs vs):V3 cA iv (Itl cA.K a) xs H0:=λH s=>by
 have rd':SqL cA.K H a vs:=s.seq rd;refine⟨λi hi => ?_,λi x v H' hx y => ?_,λi hi=>⟨vs,rd',by rw [<-l.length];exact hi⟩⟩
 · obtain⟨v,hv,_⟩:=l.get (List.getElem?_eq_getElem hi)
   exact⟨vs,v,rd',hv⟩
 · obtain⟨rfl,hy⟩:=y
   obtain⟨v',hv,r⟩:=l.get hx;rw [hy vs rd']at hv;cases hv;exact⟨Same.refl _,λav' _ h2=>(r.av h2).same s⟩
theorem ZdE{K:PySem.W.Frag}{iv:Addr->Prop}{H0:Hp}{a:Addr}{vs:List V}{xs:List D}(rd:H0 a=some (.tup vs))(l:RepL cA iv H0 xs vs):V3 cA iv (Itt K a) xs H0:=λH s=>by
 have rd':SqT K H a vs:=SqT.of (s _ _ rd);refine⟨λi hi => ?_,λi x v H' hx y => ?_,λi hi=>⟨vs,rd',by rw [<-l.length];exact hi⟩⟩
 · obtain⟨v,hv,_⟩:=l.get (List.getElem?_eq_getElem hi)
   exact⟨vs,v,rd',hv⟩
 · obtain⟨rfl,hy⟩:=y
   obtain⟨v',hv,r⟩:=l.get hx;rw [hy vs rd']at hv;cases hv;exact⟨Same.refl _,λav' _ h2=>(r.av h2).same s⟩
theorem ZdF{iv:Addr->Prop}{H0:Hp}{cs:List Nat}:V3 cA iv (Its cs) (cs.map λc => .str [c]) H0:=λH s=>by
 refine⟨λi hi=>(show i<cs.length by simpa using hi),λi x v H' hx y => ?_,λi hi=>(show cs.length<=i by simpa using hi)⟩;obtain⟨rfl,c,hc,rfl⟩:=y;rw [List.getElem?_map,hc]at hx;cases hx;exact⟨Same.refl _,λ_ _ _=>rfl⟩
theorem XN{tl:TE}{ε:Env->Option D}(h:VE G ow tl .cl ε):VI G ow (Zip G.1.K tl) (Yz ε):=λH0 av A σ H δ E xs e R k=>by
 unfold Yz at e;cases he:ε δ with
 |none=>rw [he]at e;cases e
 |some d=>
  rw [he]at e;refine h H0 av A σ H δ E d he _ λv H1 s r => ?_
  cases d<;>first|(cases e;done)|skip
  · cases e
    exact .inr (.inr ⟨_,r,k _ H1 s ZdF⟩)
  · cases e
    obtain⟨a,vs,rfl,na,rd,l⟩:=r;exact .inl ⟨a,vs,rfl,rd,k _ H1 s (Zcy (JC na rd λb o n e=>by rw [VD λ⟨i,z⟩=>n (.inr ⟨i,z⟩)];exact e) l.cut)⟩
  · cases e
    obtain⟨a,vs,rfl,na,rd,l⟩:=r;exact .inr (.inl ⟨a,vs,rfl,SqT.of rd,k _ H1 s (ZdE (by rw [VD λ⟨i,z⟩=>na (.inr ⟨i,z⟩)];exact rd) l.cut)⟩)
def YA(lo c:Int)(n:Nat):List D:=(List.range n).map λk => .int (lo+(k:Nat)*c)
theorem ZdG{iv:Addr->Prop}{H0:Hp}{lo:Int}{n:Nat}:V3 cA iv (Itr lo n) (YA lo 1 n) H0:=λH s=>by
 refine⟨λi hi=>(show i<n by simpa [YA]using hi),λi x v H' hx y => ?_,λi hi=>(show n<=i by simpa [YA]using hi)⟩;obtain⟨rfl,rfl⟩:=y;have hi:i<n:=by have:=(List.getElem?_eq_some_iff.mp hx).1;simpa [YA]using this
 have:x = .int (lo+i):=by
  unfold YA at hx;rw [List.getElem?_map,List.getElem?_range hi]at hx;have:=Option.some.inj hx;rw [<-this];show D.int (lo+(i:Int)*1)=_;rw [Int.mul_one]
 subst this;exact⟨Same.refl _,λ_ _ _=>rfl⟩
def Y5(α:Env->Option (List D))(δ:Env):Option (List D):=match α δ with
 |some [.int j]=>if -(2 ^ 62)<=j/\j<2 ^ 62 then some (YA 0 1 j.toNat)else none
 |some [.int i,.int j]=>if -(2 ^ 62)<=i/\i<2 ^ 62 /\ -(2 ^ 62)<=j/\j<2 ^ 62 then some (YA i 1 (j-i).toNat)else none
 |some [.int i,.int j,.int c]=>if c≠0/\c.natAbs<1073741824/\Builtin.Range.small i j c=true then some (YA i c (Builtin.Range.rangeSize i j c).toNat)else none
 |_=>none
theorem ql1{av:Addr->Prop}{A:Nat->Option Addr}{H:Hp}{q:Ql}{x:Int}{vs:List V}(h:RepQL cA av A H q [.int x] vs):vs=[.int x]:=by
 obtain⟨v,r,rfl,h1,h2⟩:=h;have:=h1.any;cases(show v=_ from this);cases(show r=[]from h2);rfl
theorem UV{ta:TA}{q:Ql}{a:Env->Option (List D)}(h:VA G ow ta q a)(hl:∀δ ds,a δ=some ds->ds.length=1):VI G ow (Zgc ta) (Y5 a):=λH0 av A σ H δ E xs e R k=>by
 unfold Y5 at e;cases he:a δ with
 |none=>rw [he]at e;cases e
 |some ds=>
  rw [he]at e;refine h H0 av A σ H δ E ds he _ λvs H1 s r => ?_
  have hln:=hl δ ds he
  split at e
  · rename_i j he2
    cases he2
    by_cases hz : -(2 ^ 62)<=j/\j<2 ^ 62
    · rw [if_pos hz]at e
      cases e;exact⟨j,ql1 r,hz.1,hz.2,k _ H1 s ZdG⟩
    · rw [if_neg hz]at e;cases e
  · rename_i he2;cases he2;simp at hln
  · rename_i he2;cases he2;simp at hln
  · cases e
theorem ZfJ{δ:Env}{ds:List D}(h:eNil δ=some ds):ds.length=0:=by cases h;rfl
theorem Zei{a:Env->Option D}{r:Env->Option (List D)}{n:Nat}(hr:∀δ ds,r δ=some ds->ds.length=n):∀δ ds,Zb a r δ=some ds->ds.length=n+1:=λδ ds h=>by
 unfold Zb at h;cases ha:a δ with
 |none=>rw [ha]at h;cases h
 |some x=>
  rw [ha]at h;cases hr':r δ with
  |none=>rw [hr']at h;cases h
  |some xs=>rw [hr']at h;cases h;rw [List.length_cons,hr δ xs hr']
theorem UW{a:Env->Option D}:∀δ ds,Zb a eNil δ=some ds->ds.length=1:=Zei λ_ _=>ZfJ
def XB(n:Nat)(δ:Env)(js:List Nat):Env:=List.replicate n none++js.map λj=>(δ[j]?).getD none
def YX(γ:D->Env->Option Env)(τ:Env->Option Bool)(ε:Env->Option D)(δ0:Env):List D->Option (List D)
 | []=>some []
 |x::r=>match γ x δ0 with
  |none=>none
  |some δ1=>match τ δ1 with
   |none=>none
   |some false=>YX γ τ ε δ0 r
   |some true=>match ε δ1 with
    |none=>none
    |some y=>match YX γ τ ε δ0 r with
     |none=>none
     |some ys=>some (y::ys)
def Yo(ι:Env->Option (List D))(γ:D->Env->Option Env)(τ:Env->Option Bool)(ε:Env->Option D)(n:Nat)(js:List Nat)(δ:Env):Option D:=match ι δ with
 |none=>none
 |some xs=>match YX γ τ ε (XB n δ js) xs with
  |none=>none
  |some ys=>if ys.length<=sizeLine then some (.lst ys)else none
theorem ER.blk{H0 H:Hp}{av:Addr->Prop}{A:Nat->Option Addr}{σ:L2.St}{δ:Env}(n:Nat)(js:List Nat)(hjs:js.all (λj => !ow.contains j)=true)(E:ER G ow H0 av A σ H δ) :
 ER ⟨G.1,λ_=>none⟩ [] H (AV av A) (λ_=>none) (L2.blk n σ js) H (XB n δ js):=by
 refine⟨Same.refl H,E.avl,λ_ _ z=>(by cases z),λ_ _ _ z=>(by cases z),λ_ _ z=>(by cases z),λ_ z=>absurd rfl z,λ_ z=>(by cases z),?_,λ_ _ z=>(by cases z),λ_ _ z=>(by cases z),λi d e => ?_⟩
 · unfold L2.blk XB QB
   rw [List.length_append,List.length_append,List.length_replicate,List.length_replicate,List.length_map,List.length_map]
 · unfold XB at e
   by_cases hi:i<n
   · rw [List.getElem?_append_left (by simpa using hi),List.getElem?_replicate,if_pos hi]at e
     cases e
   · rw [List.getElem?_append_right (by simpa using hi),List.length_replicate,List.getElem?_map]at e
     cases hj:js[i-n]? with
     |none=>rw [hj]at e;cases e
     |some j=>
      rw [hj]at e;have e':(δ[j]?).getD none=some d:=Option.some.inj e
      have e2:δ[j]? = some (some d):=by
       cases q:δ[j]? with
       |none=>rw [q]at e';cases e'
       |some z=>rw [q]at e';exact congrArg some e'
      obtain⟨v,h1,h2,_⟩:=E.var j d e2
      have hjo:A j=none:=by
       cases q:A j with
       |none=>rfl
       |some a=>
        have h3:=E.dom j (by rw [q];exact λz=>by cases z);have h4:=List.all_eq_true.mp hjs j (List.mem_of_getElem? hj);simp at h4;exact absurd h3 h4
      refine⟨v,?_,λ_=>(h2 hjo).av λb z => ?_,λ_ z=>(by cases z)⟩
      · unfold L2.blk QB
        rw [List.getElem?_append_right (by simpa using hi),List.length_replicate,List.getElem?_map,hj];show some ((σ[j]?).getD none)=_;rw [h1];rfl
      · rcases z with z|⟨_,z⟩
        · exact .inl z
        · cases z
theorem Xi {wi:TI} {g:TG} {tt:TT} {te:TE} {n:Nat} {js:List Nat} {ι:Env->Option (List D)} {γ:D->Env->Option Env} {τ:Env->Option Bool} {ε:Env->Option D}
 (hjs:js.all (λj => !ow.contains j)=true) (hi:VI G ow wi ι) (hg:VG ⟨G.1,λ_=>none⟩ [] [] g γ) (ht:VT ⟨G.1,λ_=>none⟩ [] tt τ) (he:VE ⟨G.1,λ_=>none⟩ [] te .cl ε):VF G ow (Zfi wi g tt te n js) (Yo ι γ τ ε n js):=λH0 av A σ H δ E d e Q k=>by
 unfold Yo at e;cases hι:ι δ with
 |none=>rw [hι]at e;cases e
 |some xs=>
  rw [hι]at e;dsimp only at e;cases hc:YX γ τ ε (XB n δ js) xs with
  |none=>rw [hc]at e;cases e
  |some full=>
   rw [hc]at e;dsimp only at e
   by_cases hz:full.length<=sizeLine
   · rw [if_pos hz]at e
     have ed:D.lst full=d:=Option.some.inj e;refine hi H0 av A σ H δ E xs hι _ λJ H1 s1 W => ?_
     have E1:=E.mono s1
     refine⟨λi m ys H'=>m=xs.length-i/\i<=xs.length/\Same H1 H'/\∃done rest,RepL G.1 (AV av A) H' done ys/\YX γ τ ε (XB n δ js) (xs.drop i)=some rest/\done++rest=full,
      ⟨xs.length,by simp,Nat.zero_le _,Same.refl _,[],full,.nil,hc,rfl⟩,?_⟩
     rintro i m ys H' ⟨rfl,hle,s',done,rest,rl,hr,hf⟩
     have E':=E1.mono s';have sc:Same (DL.cut A H1) H':=λb o z=>s' b o (Zcd z).1
     obtain⟨w1,w2,w3⟩:=W H' sc
     by_cases hlt:i<xs.length
     · refine .inr ⟨w1 i hlt,λv H2 y => ?_⟩
       have hx:xs[i]? = some xs[i]:=List.getElem?_eq_getElem hlt;obtain⟨s2,rep⟩:=w2 i _ v H2 hx y;have rep':Rep G.1 (AV av A) H2 xs[i] v:=rep _ E'.avl λb z => .inl z
       have E2:=E'.mono s2;have EB:ER ⟨G.1,λ_=>none⟩ [] H2 (AV av A) (λ_=>none) (L2.blk n σ js) H2 (XB n δ js):=E2.blk n js hjs
       have triv:∀(A':Nat->Option Addr){σ':L2.St}{H3:Hp}{δ':Env},ER ⟨G.1,λ_=>none⟩ [] H2 (AV av A) A' σ' H3 δ'->∀b,AV (AV av A) A' b ↔ AV av A b:=λA' {σ' H3 δ'} E3 b=>by
        constructor
        · rintro(z|⟨j,z⟩)
          · exact z
          · have:=E3.dom j (by rw [z];exact λz=>by cases z)
            cases this
        · exact λz => .inl z
       rw [List.drop_eq_getElem_cons hlt]at hr;unfold YX at hr;cases hγ:γ xs[i] (XB n δ js)with
       |none=>rw [hγ]at hr;cases hr
       |some δ1=>
        rw [hγ]at hr;dsimp only at hr;refine hg _ _ _ _ H2 _ EB _ v (rep'.av λb z => .inl ((triv _ EB b).mp z)) δ1 hγ _ λA3 σ3 H3 s3 E3 => ?_
        cases hτ:τ δ1 with
        |none=>rw [hτ]at hr;cases hr
        |some c=>
         rw [hτ]at hr;refine ht _ _ A3 σ3 H3 δ1 E3 c hτ _ λH4 s4 => ?_
         have E4:=E3.mono s4;cases c with
         |false=>
          exact XU ⟨xs.length-(i+1),by omega,rfl,hlt,(s'.trans s2).trans (s3.trans s4),done,rest,rl.same ((s2.trans s3).trans s4),hr,hf⟩
         |true=>
          dsimp only at hr;cases hε:ε δ1 with
          |none=>rw [hε]at hr;cases hr
          |some yd=>
           rw [hε]at hr;dsimp only at hr;cases hr':YX γ τ ε (XB n δ js) (xs.drop (i+1))with
           |none=>rw [hr']at hr;cases hr
           |some rest'=>
            rw [hr']at hr;have hrr:yd::rest'=rest:=Option.some.inj hr;subst hrr;refine Vi (he _ _ A3 σ3 H4 δ1 E4 yd hε _ λvy H5 s5 r5 => ?_);have sall:Same H' H5:=((s2.trans s3).trans s4).trans s5;refine⟨?_,xs.length-(i+1),by omega,rfl,hlt,s'.trans sall,done++[yd],rest',(rl.same sall).append (.cons ((RepT.r r5).av λb z => .inl ((triv _ E4 b).mpr z)) .nil),hr',by rw [<-hf];simp⟩
            have:=congrArg List.length hf;rw [List.length_append,List.length_cons]at this;have:=rl.length;omega
     · have ei:i=xs.length:=by omega
       subst ei;rw [List.drop_length]at hr;cases hr;refine .inl ⟨w3 _ (Nat.le_refl _),λp hp=>k p ys full H' (s1.trans s') hp (by rw [<-hf,List.append_nil];exact rl) ed.symm⟩
   · rw [if_neg hz]at e;cases e
def spD(cA:Kn)(n:Nat)(m:List D->Option D):Sp:=λvs H Q _=>∃av ds d,(∀a,av a->H a≠none)/\RepL cA av H ds vs/\ds.length=n/\m ds=some d/\∀v H',Same H H'->Rep cA av H' d v->Q v H'
def Zn(n:Nat)(m:List D->Option D)(dds:List D)(α:Env->Option (List D))(δ:Env):Option D:=match α δ with
 |some ds=>if(ds++dds).length=n then m (ds++dds)else none
 |none=>none
def Ql.cq:Ql->Ql
 | .cl => .cl
 |_ => .dt
theorem Yd{n:Nat}{m:List D->Option D}{t:TA}{q:Ql}{α:Env->Option (List D)}{E0:XK}(dds:List D)(hd:dds.all Yg=true)(h:VA G ow t q α):VE G ow (Jx (spD G.1 n m) (dds.map val) E0 t) q.cq (Zn n m dds α):=λH0 av A σ H δ E d e Q k=>by
 unfold Zn at e;cases he:α δ with
 |none=>rw [he]at e;cases e
 |some ds=>
  rw [he]at e;dsimp only at e
  by_cases hz:(ds++dds).length=n
  · rw [if_pos hz]at e
    refine h H0 av A σ H δ E ds he _ λvs H1 s1 r1 => ?_
    have E1:=E.mono s1;cases q with
    |cl=>exact⟨AV av A,ds++dds,d,E1.avl,r1.cl.append (.of_vals hd),hz,e,λv H' s r=>k v H' (s1.trans s) r.t⟩
    |tp=>exact⟨av,ds++dds,d,E1.avH,r1.any.append (.of_vals hd),hz,e,λv H' s r=>k v H' (s1.trans s) r.t⟩
    |dt=>exact⟨av,ds++dds,d,E1.avH,r1.any.append (.of_vals hd),hz,e,λv H' s r=>k v H' (s1.trans s) r.t⟩
  · rw [if_neg hz]at e;cases e
def run(N:Nat)(φ:Env->Option Out)(ds:List D):Option D:=match φ (ds.map some++List.replicate (N-ds.length) none)with
 |some (.rt d)=>some d
 |some (.nx _)=>some .non
 |_=>none
theorem ZdH{N:List Str}{ds:List D}{vs:List V}{av:Addr->Prop}{H:Hp}(r:RepL cA av H ds vs){i:Nat}{d:D}(h:(ds.map some++List.replicate (N.length-ds.length) none)[i]? = some (some d)) :
 ∃v,(L2.start N vs)[i]? = some (some v)/\Rep cA av H d v:=by
 by_cases hi:i<ds.length
 · rw [List.getElem?_append_left (by simpa using hi),List.getElem?_map]at h
   cases hd:ds[i]? with
   |none=>rw [hd]at h;cases h
   |some x=>
    rw [hd]at h;cases h;obtain⟨v,hv,rv⟩:=r.get hd;refine⟨v,?_,rv⟩;unfold L2.start;have:i<vs.length:=by rw [<-r.length];exact hi
    rw [List.getElem?_append_left (by simpa using this),List.getElem?_map,hv];rfl
 · rw [List.getElem?_append_right (by simpa using hi),List.getElem?_replicate]at h
   split at h<;>cases h
theorem Zej{N:List Str}{ds:List D}{vs:List V}{av:Addr->Prop}{H:Hp}(ha:∀a,av a->H a≠none)(r:RepL cA av H ds vs) :
 ER ⟨cA,λ_=>none⟩ [] H av (λ_=>none) (L2.start N vs) H (ds.map some++List.replicate (N.length-ds.length) none):=by
 refine⟨Same.refl H,ha,λ_ _ z=>(by cases z),λ_ _ _ z=>(by cases z),λ_ _ z=>(by cases z),λ_ z=>absurd rfl z,λ_ z=>(by cases z),?_,λ_ _ z=>(by cases z),λ_ _ z=>(by cases z),λi d e => ?_⟩
 · unfold L2.start
   rw [List.length_append,List.length_append,List.length_map,List.length_map,List.length_replicate,List.length_replicate,r.length]
 · obtain⟨v,h1,h2⟩:=ZdH r e
   refine⟨v,h1,λ_=>h2.av λb z => ?_,λ_ z=>(by cases z)⟩;rcases z with z|⟨_,z⟩
   · exact .inl z
   · cases z
section
variable{P:Program}{w:World}{K:PySem.W.Frag}{mg:Str->Option Value}{base:Heap}
end
theorem Zc5{vs:List V}{lo hi:Option Int}:VZ vs lo hi=cutL vs lo hi:=by
 unfold VZ cutL;have e:∀n d o,HT.sIx n d o=YJ n d o:=λn d o=>by cases o<;>rfl
 rw [e,e]
theorem RepL.cutL{av:Addr->Prop}{H:Hp}{xs:List D}{vs:List V}(l:RepL cA av H xs vs)(lo hi:Option Int):RepL cA av H (L2.cutL xs lo hi) (L2.cutL vs lo hi):=by
 unfold L2.cutL;rw [l.length];exact(l.drop _).take _
def xNoP(_:Env):Option (Option Int):=some none
def xP(ε:Env->Option D)(δ:Env):Option (Option Int):=match ε δ with
 |some (.int i)=>some (some i)
 |_=>none
def VO(G:Cn)(ow:List Nat)(to:TO)(ω:Env->Option (Option Int)):Prop:=
 ∀H0 av A σ H δ,ER G ow H0 av A σ H δ->∀x,ω δ=some x->∀Q:Option Int->Hp->Prop,(∀H',Same H H'->Q x H')->to σ H Q
theorem QI:VO G ow tNoPart xNoP:=λH0 av A σ H δ E x e Q k=>by
 cases e;exact k H (Same.refl H)
theorem QJ{te:TE}{q:Ql}{ε:Env->Option D}(h:VE G ow te q ε):VO G ow (Zgf te) (xP ε):=λH0 av A σ H δ E x e Q k=>by
 unfold xP at e;cases he:ε δ with
 |none=>rw [he]at e;cases e
 |some d=>
  rw [he]at e;cases d<;>first|(cases e;done)|skip
  cases e;exact h H0 av A σ H δ E _ he _ λv H' s r=>⟨_,r.any,k H' s⟩
def slD:D->Option Int->Option Int->Option D
 | .str a,lo,hi=>if a.length<=sizeLine then some (.str (L2.cutL a lo hi))else none
 | .lst xs,lo,hi=>some (.lst (L2.cutL xs lo hi))
 | .tup xs,lo,hi=>if YJ xs.length 0 lo=0/\YJ xs.length xs.length hi=xs.length then none else some (.tup (L2.cutL xs lo hi))
 |_,_,_=>none
def eSl(a:Env->Option D)(lo hi:Env->Option (Option Int))(δ:Env):Option D:=match a δ with
 |some x=>match lo δ with
  |some l=>match hi δ with
   |some u=>slD x l u
   |none=>none
  |none=>none
 |none=>none
theorem Zek{a:Env->Option D}{lo hi:Env->Option (Option Int)}{δ:Env}{d:D}(h:eSl a lo hi δ=some d):∃x l u,a δ=some x/\lo δ=some l/\hi δ=some u/\slD x l u=some d:=by
 unfold eSl at h;cases ea:a δ with
 |none=>rw [ea]at h;cases h
 |some x=>
  rw [ea]at h;cases el:lo δ with
  |none=>rw [el]at h;cases h
  |some l=>
   rw [el]at h;cases eu:hi δ with
   |none=>rw [eu]at h;cases h
   |some u=>rw [eu]at h;exact⟨x,l,u,rfl,rfl,rfl,h⟩
theorem QK{ta:TE}{tl th:TO}{q:Ql}{a:Env->Option D}{lo hi:Env->Option (Option Int)}(hq:q = .cl\/q = .tp)(ha:VE G ow ta q a)(hl:VO G ow tl lo)(hh:VO G ow th hi):VE G ow (tSl (Zir G.1.K) ta tl th) .cl (eSl a lo hi):=λH0 av A σ H δ E d e Q k=>by
 obtain⟨x,l,u,ex,el,eu,ed⟩:=Zek e;refine ha H0 av A σ H δ E x ex _ λv H1 s1 r1=>hl H0 av A σ H1 δ (E.mono s1) l el _ λH2 s2=>hh H0 av A σ H2 δ ((E.mono s1).mono s2) u eu _ λH3 s3 => ?_
 have s13:=s2.trans s3;have E3:=(E.mono s1).mono s13
 have r3:RepT G.1 av (AV av A) H3 x v:=by
  have:=(r1.same s13).tp;rcases hq with rfl|rfl<;>exact this
 cases x<;>first|(cases ed;done)|skip
 · rename_i cs
   cases(show v=_ from r3);dsimp only [slD]at ed
   by_cases hz:cs.length<=sizeLine
   · rw [if_pos hz]at ed
     cases ed;exact .inl ⟨cs,rfl,hz,k _ H3 (s1.trans s13) rfl⟩
   · rw [if_neg hz]at ed;cases ed
 · cases ed
   obtain⟨p,vs,rfl,_,rd,ll⟩:=r3;refine .inr (.inl ⟨p,vs,rfl,rd,λp' hp => ?_⟩);rw [Zc5];exact k _ _ ((s1.trans s13).trans (YL hp)) ⟨p',_,rfl,λz=>(E3.avl p' z hp).elim,SqL.of Yq,(ll.cutL l u).same (YL hp)⟩
 · rename_i xs
   dsimp only [slD]at ed
   by_cases hz:YJ xs.length 0 l=0/\YJ xs.length xs.length u=xs.length
   · rw [if_pos hz]at ed;cases ed
   · rw [if_neg hz]at ed
     cases ed;obtain⟨p,vs,rfl,_,rd,ll⟩:=r3;refine .inr (.inr ⟨p,vs,rfl,SqT.of rd,?_,λp' hp => ?_⟩)
     · have e:∀n d o,HT.sIx n d o=YJ n d o:=λn d o=>by cases o<;>rfl
       rw [e,e,<-ll.length];exact hz
     · rw [Zc5]
       exact k _ _ ((s1.trans s13).trans (YL hp)) ⟨p',_,rfl,λz=>E3.avl p' z hp,Yq,(ll.cutL l u).same (YL hp)⟩
def JN(K:PySem.W.Frag):List V->Hp->VK->Prop:=λxs H Q=>Zkn K xs H Q\/∃p vs c cv b,xs=[.ref p,c]/\(∀v,RelV c v->v=cv)/\KL K p vs/\kitOne K (.type "list") cv=some b/\Q (.bl b) H
theorem UX{X:Cx}{K:PySem.W.Frag}(hK:X.K=K:=by rfl):YI X (.builtin "isinstance") (JN K):=by
 subst hK;intro pins s σ H xs us Q I rs h;rcases h with h|⟨p,vs,c,cv,b,rfl,hc,⟨o,its,n,hk,h1,_⟩,e,q⟩
 · exact Zee pins s σ H xs us Q I rs h
 · obtain⟨u,w',rfl,rx,rc⟩:=Zfg rs
   have ec:=hc _ rc;subst ec;cases(show u=Value.ref p from rx);exact PySem.W.kia_one PySem.W.kitx_list I.kIn ⟨o,I.kIn p o hk,h1⟩ e (λz=>nomatch z) λtk=>⟨.bl b,H,I.tok tk,rfl,q⟩
def kind:D->String
 | .non => "NoneType"
 | .bl _ => "bool"
 | .int _ => "int"
 | .str _ => "str"
 | .lst _ => "list"
 | .tup _ => "tuple"
 | .obj c _ _=>c
 | .dct _ _ => "dict"
 | .dtt _ _ => "dict"
def plainKinds:List String:=["NoneType", "bool", "int", "str", "list", "tuple"]
def ZO(tab:List (String×Bool)):D->Option Bool
 | .obj c _ _=>if plainKinds.contains c then none else tab.lookup c
 | .dct _ _=>none
 | .dtt _ _=>none
 |d=>tab.lookup (kind d)
def ZF(tab:List (String×Bool))(a:Env->Option D)(δ:Env):Option D:=match a δ with
 |some d=>match ZO tab d with
  |some b=>some (.bl b)
  |none=>none
 |none=>none
structure ClsI(K:PySem.W.Frag)(C:Addr):Prop where
 cl:Cls K C
 ha:PySem.W.findIn K (.ref C) "__class__" = some (some (.builtin "object.__class__"))
 hn:PySem.W.specialIn K (.builtin "object.__class__") "__get__" = some (some (.builtin "getset_descriptor.__get__"))
 htk:PySem.W.takesIn K (.builtin "object.__class__")=some true
 hm:PySem.W.mroIn K C (.type "object")=some true
structure IsiOk(K:PySem.W.Frag)(cA:Kn)(cv:Value)(tab:List (String×Bool)):Prop where
 plain:∀k∈plainKinds,∀b,tab.lookup k=some b->kitOne K (.type k) cv=some b
 own:∀(c:String)b,plainKinds.contains c=false->tab.lookup c=some b->kitOne K (.ref (cA.c c)) cv=some b/\ClsI K (cA.c c)
theorem ZaZ{β:Type}{c:String}{b:β}:∀{tab:List (String×β)},tab.lookup c=some b->(c,b)∈tab
 | [],h=>by simp at h
 |(c',b')::r,h=>by
  rw [List.lookup_cons]at h;cases hc:c == c' with
  |true=>
   rw [hc]at h;cases h;rw [eq_of_beq hc];exact List.mem_cons_self
  |false=>
   rw [hc]at h;exact List.mem_cons_of_mem _ (ZaZ h)
theorem QL{K:PySem.W.Frag}{cA:Kn}{cv:Value}{tab:List (String×Bool)}(h:∀p∈tab,if plainKinds.contains p.1=true then kitOne K (.type p.1) cv=some p.2 else kitOne K (.ref (cA.c p.1)) cv=some p.2/\ClsI K (cA.c p.1)):IsiOk K cA cv tab where
 plain:=λk hk b hl=>by
  have:=h _ (ZaZ hl)
  rwa [if_pos (by simpa using hk)]at this
 own:=λc b hc hl=>by
  have:=h _ (ZaZ hl)
  rwa [if_neg (by simpa using hc)]at this
theorem QM{ta:TE}{q:Ql}{a:Env->Option D}{c:V}{cv:Value}{tab:List (String×Bool)}(hc:∀v,RelV c v->v=cv)(I:IsiOk G.1.K G.1 cv tab)(ha:VE G ow ta q a) :
 VE G ow (tCB (JN G.1.K) (YR ta (YR (tC c) tNil))) .cl (ZF tab a):=λH0 av A σ H δ E d e Q k=>by
 unfold ZF at e;cases he:a δ with
 |none=>rw [he]at e;cases e
 |some x=>
  rw [he]at e;dsimp only at e;cases ht:ZO tab x with
  |none=>rw [ht]at e;cases e
  |some b=>
   rw [ht]at e;cases e;refine ha H0 av A σ H δ E x he _ λv H1 s r => ?_
   have r':=r.any;have fin:∀t,TyOf G.1.K H1 v t->kitOne G.1.K t cv=some b->JN G.1.K [v,c] H1 Q:=λt ty e => .inl ⟨v,c,cv,t,b,rfl,hc,ty,e,k _ H1 s rfl⟩
   cases x with
   |non=>cases(show v=_ from r');exact fin _ .non (I.plain _ (by decide) b (by exact ht))
   |bl y=>cases(show v=_ from r');exact fin _ (.bl y) (I.plain _ (by decide) b (by exact ht))
   |int y=>cases(show v=_ from r');exact fin _ (.int y) (I.plain _ (by decide) b (by exact ht))
   |str y=>cases(show v=_ from r');exact fin _ (.str _) (I.plain _ (by decide) b (by exact ht))
   |lst y=>
    unfold Rep at r';obtain⟨p,vs,rfl,_,rd,_⟩:=r';rcases rd with(rd|⟨o,rd⟩)|rd
    · exact fin _ (.lst rd) (I.plain _ (by decide) b (by exact ht))
    · exact fin _ (.frz rd) (I.plain _ (by decide) b (by exact ht))
    · exact .inr ⟨p,vs,c,cv,b,rfl,hc,rd,I.plain _ (by decide) b (by exact ht),k _ H1 s rfl⟩
   |tup y=>
    unfold Rep at r';obtain⟨p,vs,rfl,_,rd,_⟩:=r';exact fin _ (.tup rd) (I.plain _ (by decide) b (by exact ht))
   |dct ks y=>cases ht
   |dtt ks y=>cases ht
   |obj c' ks y=>
    unfold Rep at r';obtain⟨p,dx,vs,rfl,_,rd,_⟩:=r';dsimp only [ZO]at ht;cases hp:plainKinds.contains c' with
    |true=>rw [hp,if_pos rfl]at ht;cases ht
    |false=>
    rw [hp,if_neg Bool.false_ne_true]at ht;obtain⟨h1,h2⟩:=I.own c' b hp ht;exact fin _ (.ins rd h2.cl h2.ha h2.hn h2.htk h2.hm) h1
end
end DL
namespace L2
open PySem PySem.Spec
section
variable{X:Cx}
theorem Zel:MtR X "str.rfind" (λx xs H Q=>∃a c,x=S a/\xs=[S [c]]/\Q (.int (X5 c a)) H):=by
 intro pins s σ H x xs v us Q I rx rs h;obtain⟨a,c,rfl,rfl,q⟩:=h;obtain⟨t,rfl⟩:=rx;obtain⟨u,rfl,t',rfl⟩:=Y2 rs;refine SC.rfind ?_;rw [Zeb];exact⟨.int _,H,I.tok _,⟨_,rfl⟩,q⟩
theorem Zem:MtR X "str.count" (λx xs H Q=>∃a c,x=S a/\xs=[S [c]]/\Q (.int (a.count c:Nat)) H):=by
 intro pins s σ H x xs v us Q I rx rs h;obtain⟨a,c,rfl,rfl,q⟩:=h;obtain⟨t,rfl⟩:=rx;obtain⟨u,rfl,t',rfl⟩:=Y2 rs;refine SC.count ?_;rw [Zec];exact⟨.int _,H,I.tok _,⟨_,rfl⟩,q⟩
theorem Za0:MtR X "str.index" (λx xs H Q=>∃a c i,x=S a/\xs=[S [c]]/\Y7 c a=(i:Nat)/\Q (.int (i:Nat)) H):=by
 intro pins s σ H x xs v us Q I rx rs h;obtain⟨a,c,i,rfl,rfl,e,q⟩:=h;obtain⟨t,rfl⟩:=rx;obtain⟨u,rfl,t',rfl⟩:=Y2 rs;have e':=ZfC a c;rw [e]at e';unfold Txt.find at e';cases ho:Builtin.Str.occurrences (tx a) (tx [c]) 0 (tx a).length 1 with
 |nil=>rw [ho]at e';exact absurd e' (by show ¬(-1:Int)=(i:Int);omega)
 |cons j r=>
  rw [ho]at e'
  have e2:j=i:=by
   have:(j:Int)=(i:Int):=e';omega
  subst e2;exact SC.index ho ⟨.int _,H,I.tok _,⟨_,rfl⟩,q⟩
theorem ZaJ:∀{l:List (List Nat)}{us:List Value},Vals (l.map S) us->PyProof.Rows.StrsAre us (l.map tx)
 | [],us,r=>by
  rw [List.map_nil]at r;cases r;exact .nil
 |a::l,us,r=>by
  rw [List.map_cons]at r;cases r with
  |cons r1 r2=>
   obtain⟨t,rfl⟩:=r1;exact .cons _ t (ZaJ r2)
theorem Zc6{K:PySem.W.Frag}(hK:X.K=K:=by rfl):MtR X "str.join" (λx xs H Q=>∃sep p l,x=S sep/\xs=[.ref p]/\SqL K H p (l.map S)/\(l.map List.length).sum+l.length*sep.length<=sizeLine/\Q (S (Vx sep l)) H):=by
 subst hK;intro pins s σ H x xs v us Q I rx rs h;obtain⟨sep,p,l,rfl,rfl,hq,hz,q⟩:=h;obtain⟨t,rfl⟩:=rx;obtain⟨u,rfl,rp⟩:=Y2 rs;cases rp;obtain⟨its,rv,pl,_⟩:=I.list hq;have hs:sizeLine=16777216:=sizeLine_eq;refine PyProof.Rows.join_list (ys:=l.map tx) pl.isList (by simpa using ZaJ rv) ?_ λt' k=>⟨S (Vx sep l),H,I.tok _,⟨t',?_⟩,q⟩
 · have e : ((l.map tx).map (·.length)) = l.map List.length := by
    rw [List.map_map];exact List.map_congr_left λa _=>Xa a
   rw [e,List.length_map,Xa];omega
 · have:=ZbE sep l
   show Value.str (Builtin.Str.glued (tx sep) (l.map tx)) t'=_;rw [StrLaws.glued_eq_join,ZbE]
end
end L2
namespace DL
open PySem PySem.Spec L2
section
variable{cA:Kn}{G:Cn}{ow:List Nat}
def UY(cA:Kn)(r:V->List V->Hp->VK->Prop)(f:List Nat->List D->Option D):Prop:=
 ∀(i:Addr->Prop)(H:Hp)(a:List Nat)(ds:List D)(vs:List V)(d:D),(∀a,i a->H a≠none)->VC cA i H ds vs->f a ds=some d->∀Q:VK,(∀v H',Same H H'->Rep cA i H' d v->Q v H')->r (S a) vs H Q
def eBM(f:List Nat->List D->Option D)(a:Env->Option D)(α:Env->Option (List D))(δ:Env):Option D:=match a δ with
 |some (.str cs)=>match α δ with
  |some ds=>f cs ds
  |none=>none
 |_=>none
theorem Vk{K:PySem.W.Frag}{r:V->List V->Hp->VK->Prop}{f:List Nat->List D->Option D}{to:TE}{t:TA}{q0 q:Ql}{a:Env->Option D}{α:Env->Option (List D)}(hr:UY G.1 r f)(ha:VE G ow to q0 a)(h:VA G ow t q α) :
 VE G ow (tBM K "str" r to t) q.it (eBM f a α):=λH0 av A σ H δ E d e Q k=>by
 unfold eBM at e;cases hx:a δ with
 |none=>rw [hx]at e;cases e
 |some x=>
  rw [hx]at e;cases x<;>first|(cases e;done)|skip
  rename_i cs;dsimp only at e;cases he:α δ with
  |none=>rw [he]at e;cases e
  |some ds=>
   rw [he]at e;refine ha H0 av A σ H δ E _ hx _ λv H1 s1 r1 => ?_
   have e1:v=S cs:=r1.any;subst e1;refine⟨rfl,h H0 av A σ H1 δ (E.mono s1) ds he _ λvs H2 s2 r2 => ?_⟩;have E2:=(E.mono s1).mono s2;have s12:=s1.trans s2;cases q with
   |cl=>exact hr _ H2 cs ds vs d E2.avl r2.il e _ λv H' s r=>k v H' (s12.trans s) r.t
   |tp=>exact hr _ H2 cs ds vs d E2.avl r2.il e _ λv H' s r=>k v H' (s12.trans s) r.t
   |dt=>exact hr _ H2 cs ds vs d E2.avH r2.il e _ λv H' s r=>k v H' (s12.trans s) r.t
def endsD(a:List Nat):List D->Option D
 | [.str b]=>some (.bl (b.isSuffixOf a))
 |_=>none
def rfindD(a:List Nat):List D->Option D
 | [.str [c]]=>some (.int (X5 c a))
 |_=>none
def countD(a:List Nat):List D->Option D
 | [.str [c]]=>some (.int (a.count c:Nat))
 |_=>none
def indexD(a:List Nat):List D->Option D
 | [.str [c]]=>if 0<=Y7 c a then some (.int (Y7 c a))else none
 |_=>none
theorem JO{i:Addr->Prop}{H:Hp}{b:List Nat}{vs:List V}(h:VC cA i H [.str b] vs):vs=[S b]:=by
 obtain⟨v,t,rfl,hx⟩:=il1 h;rw [show v=S b from hx]
theorem ZbI:UY cA (λx xs H Q=>∃a b,x=S a/\xs=[S b]/\Q (.bl (b.isSuffixOf a)) H) endsD:=λi H a ds vs d _ h e Q k=>by
 unfold endsD at e
 split at e
 · cases e;exact⟨a,_,rfl,JO h,k _ H (Same.refl H) rfl⟩
 · cases e
theorem Zen:UY cA (λx xs H Q=>∃a c,x=S a/\xs=[S [c]]/\Q (.int (X5 c a)) H) rfindD:=λi H a ds vs d _ h e Q k=>by
 unfold rfindD at e
 split at e
 · cases e;exact⟨a,_,rfl,JO h,k _ H (Same.refl H) rfl⟩
 · cases e
theorem Zeo:UY cA (λx xs H Q=>∃a c,x=S a/\xs=[S [c]]/\Q (.int (a.count c:Nat)) H) countD:=λi H a ds vs d _ h e Q k=>by
 unfold countD at e
 split at e
 · cases e;exact⟨a,_,rfl,JO h,k _ H (Same.refl H) rfl⟩
 · cases e
theorem Za1:UY cA (λx xs H Q=>∃a c i,x=S a/\xs=[S [c]]/\Y7 c a=(i:Nat)/\Q (.int (i:Nat)) H) indexD:=λi H a ds vs d _ h e Q k=>by
 unfold indexD at e
 split at e
 · rename_i c
   by_cases hz:0<=Y7 c a
   · rw [if_pos hz]at e
     cases e;exact⟨a,c,(Y7 c a).toNat,rfl,JO h,by omega,k _ H (Same.refl H) (by rw [Int.toNat_of_nonneg hz];rfl)⟩
   · rw [if_neg hz]at e;cases e
 · cases e
def strs? : List D->Option (List (List Nat))
 | []=>some []
 | .str a::r=>match strs? r with
  |some l=>some (a::l)
  |none=>none
 |_=>none
theorem Zc7:∀{xs:List D}{l:List (List Nat)},strs? xs=some l->xs=l.map D.str
 | [],l,h=>by cases h;rfl
 |x::xs,l,h=>by
  cases x<;>first|(cases h;done)|skip
  rename_i a;unfold strs? at h;cases hr:strs? xs with
  |none=>rw [hr]at h;cases h
  |some r=>
   rw [hr]at h;cases h;rw [List.map_cons,Zc7 hr]
def joinD(sep:List Nat):List D->Option D
 | [.lst xs]=>match strs? xs with
  |some l=>if(l.map List.length).sum+l.length*sep.length<=sizeLine then some (.str (Vx sep l))else none
  |none=>none
 |_=>none
theorem Zc8:UY cA (λx xs H Q=>∃sep p l,x=S sep/\xs=[.ref p]/\SqL cA.K H p (l.map S)/\(l.map List.length).sum+l.length*sep.length<=sizeLine/\Q (S (Vx sep l)) H) joinD:=λi H a ds vs d _ h e Q k=>by
 unfold joinD at e
 split at e
 · rename_i xs
   cases hs:strs? xs with
   |none=>rw [hs]at e;cases e
   |some l=>
    rw [hs]at e;dsimp only at e
    by_cases hz:(l.map List.length).sum+l.length*a.length<=sizeLine
    · rw [if_pos hz]at e
      cases e;obtain⟨v,t,rfl,p,ws,rfl,_,rd,ll⟩:=il1 h;have ex:=Zc7 hs;subst ex;have ev:=ll.vals (by rw [List.all_map];exact List.all_eq_true.mpr λ_ _=>rfl);rw [List.map_map]at ev;subst ev;exact⟨a,p,l,rfl,rfl,rd,hz,k _ H (Same.refl H) rfl⟩
    · rw [if_neg hz]at e;cases e
 · cases e
end
end DL
namespace L2
open PySem PySem.Spec
structure FunX(K:PySem.W.Frag)(x qual:Str)(st:Stmt)(f:Addr)(fd:FuncData):Prop where
 ex:∃(oc:Value) (od:Option Addr) (dV kV doc pm:Value) (an:Option Addr) (cdv ct:Value) (osl:Array (Option Value)),
  fd=fnOf x qual (defArgs st) (defBody st) (defScope st) dV kV doc pm an cdv ct/\K.lookup f=some ⟨oc,od,.func fd,osl⟩/\codeIn K cdv qual=true
theorem Fun.x{K:PySem.W.Frag}{x qual:Str}{st:Stmt}{f:Addr}{fd:FuncData}(F:Fun K x qual st f fd):FunX K x qual st f fd:=by
 obtain⟨oc,od,kV,doc,pm,an,cdv,ct,osl,h⟩:=F.ex;exact⟨oc,od,.none,kV,doc,pm,an,cdv,ct,osl,h⟩
section
variable{P:Program}{w:World}{K:PySem.W.Frag}{mg:Str->Option Value}{base:Heap}
theorem FunX.ok {x qual:Str} {st:Stmt} {f:Addr} {fd:FuncData} {N ps:List Str} {k:Nat} {sp:Sp} (F:FunX K x qual st f fd) (S:FnScope N ps (defScope st)) (len:∀vs H Q E,sp vs H Q E->vs.length=ps.length)
 (hbody:∀(cdv:Value)(A:Around)(outer:List Env)(s:Shared)(H:Hp)(vs:List V)(Q:VK)(E:XK),Room k (A.deeper (PyProof.Rows.envOfC qual (defScope st) s.heap.objs.size f cdv))->sp vs H Q E ->
   ∃t,PSs (XG CX0 P w K mg base N qual (defScope st) f cdv A outer s H E).nox (defBody st) t/\t { nx:=λ_ H'=>Q .non H',rt:=Q } (start N vs) H):FnOk P w K mg base CX0 (k+1) f fd ps sp:=by
 obtain⟨oc,od,dV,kV,doc,pm,an,cdv,ct,osl,rfl,lk,hcd⟩:=F.ex;refine Zge lk hcd S len λA outer s H vs Q E hr hsp => ?_
 obtain⟨t,h,q⟩:=hbody cdv A outer s H vs Q E hr hsp;exact⟨t,h.nox,q⟩
theorem ZaK {x qual:Str} {st:Stmt} {dT:Addr} {o:Obj} {ps:List Str} {ds items:List Value} {n:Nat} {kV doc pm:Value} {an:Option Addr} {cdv ct:Value} (us0:List Str) (ht:K.lookup dT=some o) (hd:o.data = .seq items.toArray n) (hn:us0.length+ds.length=ps.length)
 (h:∀(us:List Value),us.length=us0.length->∃k,bindArgs (fnOf x qual (defArgs st) (defBody st) (defScope st) (.ref dT) kV doc pm an cdv ct) ⟨us,[]⟩=seqItems? (.ref dT) >>= k/\k (some items.toArray)=pure (ps.zip (us++ds))) :
 Binds K (fnOf x qual (defArgs st) (defBody st) (defScope st) (.ref dT) kV doc pm an cdv ct) ps ds:=λs us X hl=>by
 obtain⟨k,h1,h2⟩:=h us (by rw [List.length_append]at hl;omega);exact BindsTo.of_defaults (T:=dT) (o:=o) (items:=items.toArray) (n:=n) rfl (X _ _ ht) hd h1 h2
end
section
variable{X:Cx}
end
structure CMeth(K:PySem.W.Frag)(C:Addr)(m:Str)(f:Addr):Prop where
 ga:PySem.W.specialIn K (.ref C) "__getattribute__" = some (some (.builtin "type.__getattribute__"))
 rd:PySem.W.readsIn K C (.type "type")=true
 fc:PySem.W.findCls K (.ref C) (.type "type") m=some (.val (.ref f))
 kp:keepIn K (.ref f)=true
section
variable{X:Cx}{CX:CXT}{k:Nat}{f C:Addr}{fd:FuncData}{ps:List Str}{sp:Sp}{dvs:List V}{ds:List Value}{E:XK}{x m:Str}{p pos apos:Pos}{e o:Expr}{es:List Expr}{ta:TE}{t:TA}
theorem UZ {pl:Sem Bool} (hg:Gl X x) (hmg:X.mg x=some (.ref C)) (hm:CMeth X.K C m f) (F:FnOk X.prog X.w X.K X.mg X.base CX k f fd ps sp) (hr:Room k X.A) (hb:Binds X.K fd ps ds) (hd:Vals dvs ds) (hx:Ur CX X E) (ha:PA X (e::es) t)
 (hdb:(x == ("__debug__" : Str))=false:=by decide)
 (hst:starEach (e::es) X.env=(false,eval e X.env)::starEach es X.env:=by rfl) (hpl:(backTo pos (starEach es X.env)).any (·.1)=false:=by rfl)
 (ht:eval (.Call (.Attribute (.Name x p) m apos) (e::es) [] pos) X.env=(do
   let ov <-eval (.Name x p) X.env
   standAt apos.atName
   let(f,first) <-holding [ov] (getMethod ov m pl)
   callWith pos f first (backTo pos (starEach (e::es) X.env)) (backToKw pos (keywordEach [] X.env))):=by rfl) :
 PE X (.Call (.Attribute (.Name x p) m apos) (e::es) [] pos) (Jx sp dvs E t):=by
 intro pins s σ H Q I h;refine PySem.W.methodCall_KW (pl:=pl) (Jk I hg hmg ?_ hdb) ht;refine PySem.W.method_cls I.kIn hm.ga (PySem.W.cls_value I.kIn hm.rd hm.fc rfl ?_);have I1:Inv X pins σ H { s with toks:=s.toks+1 }:=I.tok _;refine PySem.W.callWith_K (first:=[]) (h₀:=X.base) I.ok.mod.kin hm.kp (thn (ha pos pins _ σ H _ I1 h) λus s2 ⟨vs,H2,I2,r,q2⟩=>⟨I2.kIn,?_⟩) hst hpl;exact Qv (us:=us) (vs:=vs) F hr hb hd hx I2 r q2
end
end L2
namespace DL
open PySem PySem.Spec L2
theorem Zap{a b:String}(h:Str.ofString a=Str.ofString b):a=b:=by
 rw [Str.ofString_eq_toList,Str.ofString_eq_toList]at h
 have h1:(a.toList.map Char.toNat)=(b.toList.map Char.toNat):=by
  have:=congrArg (λs:Str=>s.cps.toList) h;simpa using this
 have inj:∀{x y:List Char},x.map Char.toNat=y.map Char.toNat->x=y:=by
  intro x
  induction x with
  |nil=>
   intro y h;cases y with
   |nil=>rfl
   |cons _ _=>cases h
  |cons c x ih=>
   intro y h;cases y with
   |nil=>cases h
   |cons d y=>
    rw [List.map_cons,List.map_cons,List.cons.injEq]at h;have:c=d:=Char.toNat_inj.mp h.1;rw [this,ih h.2]
 exact String.toList_inj.mp (inj h1)
theorem JP(a b:String):(Str.ofString a == Str.ofString b)=(a == b):=by
 rw [Bool.eq_iff_iff,beq_iff_eq,beq_iff_eq];exact⟨Zap,λh=>by rw [h]⟩
section
variable{cA:Kn}{G:Cn}{ow owN owB owC:List Nat}
theorem Zce{av:Addr->Prop}{H:Hp}{f:String}:∀{ks:List String}{xs:List D}{vs:List V}{d:D},RepL cA av H xs vs->(ks.zip xs).lookup f=some d->∃v,((ks.map Str.ofString).zip vs).lookup (Str.ofString f)=some v/\Rep cA av H d v
 | [],_,_,_,_,h=>by simp at h
 |k::ks,[],_,_,_,h=>by simp at h
 |k::ks,x::xs,vs,d,l,h=>by
  obtain⟨v,r,rfl,h1,h2⟩:=l.uncons;rw [List.zip_cons_cons,List.lookup_cons]at h;rw [List.map_cons,List.zip_cons_cons,List.lookup_cons,JP];cases hk:f == k with
  |true=>rw [hk]at h;cases h;exact⟨v,rfl,h1⟩
  |false=>rw [hk]at h;exact Zce h2 h
theorem Za2{f:String}:∀{ks:List String}{vs:List V},ks.contains f=false->((ks.map Str.ofString).zip vs).lookup (Str.ofString f)=none
 | [],_,_=>by simp
 |k::ks,[],_=>by simp
 |k::ks,v::vs,h=>by
  rw [List.contains_cons,Bool.or_eq_false_iff]at h;rw [List.map_cons,List.zip_cons_cons,List.lookup_cons,JP,h.1];exact Za2 h.2
theorem ZbJ{f:String}{y:V}:∀{ks:List String}{vs:List V},ks.length=vs.length->ks.contains f=false->Y0 (Str.ofString f) y ((ks.map Str.ofString).zip vs)=(((ks++[f]).map Str.ofString).zip (vs++[y]))
 | [],[],_,_=>rfl
 | [],_::_,h,_=>by simp at h
 |_::_,[],h,_=>by simp at h
 |k::ks,v::vs,h,hf=>by
  rw [List.contains_cons,Bool.or_eq_false_iff]at hf
  have hne:¬Str.ofString k=Str.ofString f:=λz=>by
   have:=Zap z;have h1:=hf.1;rw [this]at h1;simp at h1
  rw [List.map_cons,List.zip_cons_cons,List.cons_append,List.cons_append,List.map_cons,List.zip_cons_cons];rw [show Y0 (Str.ofString f) y ((Str.ofString k,v)::(ks.map Str.ofString).zip vs)=(if Str.ofString k=Str.ofString f then(Str.ofString k,y)::(ks.map Str.ofString).zip vs else(Str.ofString k,v)::Y0 (Str.ofString f) y ((ks.map Str.ofString).zip vs))from rfl,if_neg hne];rw [ZbJ (by simpa using h) hf.2]
def Xs(K:PySem.W.Frag)(cA:Kn)(cls:List String)(f:String):Prop:=∀c∈cls,Cls K (cA.c c)/\NoAttr K (cA.c c) (Str.ofString f)
def Zq(cls:List String)(f:String)(a:Env->Option D)(δ:Env):Option D:=match a δ with
 |some (.obj c ks xs)=>if cls.contains c then(ks.zip xs).lookup f else none
 |_=>none
theorem YQ{K:PySem.W.Frag}{ta:TE}{q:Ql}{a:Env->Option D}{cls:List String}{f:String}(F:Xs K G.1 cls f)(ha:VE G ow ta q a):VE G ow (Jw K ta (Str.ofString f)) q.it (Zq cls f a):=λH0 av A σ H δ E d e Q k=>by
 unfold Zq at e;cases he:a δ with
 |none=>rw [he]at e;cases e
 |some x=>
  rw [he]at e;cases x<;>first|(cases e;done)|skip
  rename_i c ks xs;dsimp only at e
  by_cases hc:cls.contains c=true
  · rw [if_pos hc]at e
    obtain⟨h1,h2⟩:=F c (by simpa using hc);refine ha H0 av A σ H δ E _ he _ λv H1 s r => ?_
    obtain⟨p,dx,vs,rfl,_,rd,_,l⟩:=r.tp;obtain⟨w,hw,rw'⟩:=Zce l e;refine⟨p,_,dx,_,w,rfl,rd,h1,h2,hw,k w H1 s ?_⟩;cases q<;>exact rw'.t
  · rw [if_neg hc]at e;cases e
def ZC(i:Nat)(cls:List String)(f:String)(ε:Env->Option D)(δ:Env):Option Out:=match ε δ with
 |some d=>match Za i δ with
  |some (.obj c ks xs)=>if cls.contains c && !ks.contains f&&decide (ks.length<1000)then some (.nx (δ.set i (some (.obj c (ks++[f]) (xs++[d])))))else none
  |_=>none
 |none=>none
theorem XY{K:PySem.W.Frag}{te:TE}{ε:Env->Option D}{cls:List String}{f:String}(i:Nat)(hi:ow.contains i=true)(F:Xs K G.1 cls f)(h:VE G ow te .cl ε):VS G ow ow owB owC (Zik K (YZ i) te (Str.ofString f)) (ZC i cls f ε):=λH0 av A σ H δ E o e De k=>by
 unfold ZC at e;cases he:ε δ with
 |none=>rw [he]at e;cases e
 |some d=>
  rw [he]at e;dsimp only at e;cases hv:Za i δ with
  |none=>rw [hv]at e;cases e
  |some x=>
   rw [hv]at e;cases x<;>first|(cases e;done)|skip
   rename_i c ks xs;dsimp only at e
   by_cases hz:(cls.contains c && !ks.contains f&&decide (ks.length<1000))=true
   · rw [if_pos hz]at e
     cases e;simp only [Bool.and_eq_true,decide_eq_true_eq,Bool.not_eq_true']at hz;obtain⟨⟨z1,z2⟩,z3⟩:=hz;obtain⟨h1,h2⟩:=F c (by simpa using z1);have hi':i∈ow:=by simpa using hi
     cases hA:A i with
     |none=>exact absurd hA (E.dom' i hi')
     |some a=>
      refine h H0 av A σ H δ E d he _ λy H1 s r => ?_
      have E1:=E.mono s;obtain⟨v,g1,_,g3⟩:=E1.var i _ (XV hv);obtain⟨rfl,dx,vs,q1,q0,q2⟩:=g3 a hA;have hl:ks.length=vs.length:=q0.trans q2.length;refine⟨_,g1,a,_,dx,_,rfl,q1,h1,h2,?_,k A σ _ (E1.put hA (XV hv) (λb o hb e=>by rw [Zv hb];exact e) (by rw [Yq];exact λz=>by cases z) ?_)⟩
      · rw [List.length_zip,List.length_map];omega
      · refine⟨dx,vs++[y],?_,by rw [List.length_append,List.length_append,q0];rfl,?_⟩
        · rw [Yq,ZbJ hl z2]
        · have ex : ∀ b o, ¬ AV av A b -> H1 b = some o -> upd H1 a (.ins (G.1.c c) dx (Y0 (Str.ofString f) y ((ks.map Str.ofString).zip vs))) b = some o := fun b o n e => by
           rw [Zv λz=>n (.inr ⟨i,by rw [z];exact hA⟩)];exact e
          exact(q2.append (.cons (RepT.r r) .nil)).ext ex
   · rw [if_neg hz]at e;cases e
def spI(cA:Kn)(n:Nat)(m:List D->Option D):Sp:=λvs H Q _=>∃(x:Addr) (r:List V) (av:Addr->Prop) (ds:List D) (d d':D),vs = .ref x::r/\(∀a,av a->H a≠none)/\¬av x/\Own cA (λa=>av a\/a=x) H d x/\RepL cA (λa=>av a\/a=x) H ds r/\(d::ds).length=n/\m (d::ds)=some d' /\
 ∀H',(∀b o,b≠x->H b=some o->H' b=some o)->Own cA (λa=>av a\/a=x) H' d' x->Q .non H'
theorem Own.live{av:Addr->Prop}{H:Hp}{d:D}{a:Addr}(h:Own cA av H d a):H a≠none:=by
 cases d with
 |lst xs=>obtain⟨vs,q,_⟩:=h;rw [q];exact λz=>by cases z
 |obj c ks xs=>obtain⟨dx,vs,q,_⟩:=h;rw [q];exact λz=>by cases z
 |dct ks xs=>obtain⟨vs,q,_⟩:=h;rw [q];exact λz=>by cases z
 |dtt ks xs=>obtain⟨vs,q,_⟩:=h;rw [q];exact λz=>by cases z
 |_=>exact h.elim
theorem Own.av{av av':Addr->Prop}{H:Hp}{d:D}{a:Addr}(k:∀b,av' b->av b\/H b=none)(h:Own cA av H d a):Own cA av' H d a:=by
 cases d with
 |lst xs=>obtain⟨vs,q,l⟩:=h;exact⟨vs,q,l.av k⟩
 |obj c ks xs=>obtain⟨dx,vs,q,z,l⟩:=h;exact⟨dx,vs,q,z,l.av k⟩
 |dct ks xs=>obtain⟨vs,q,z,l⟩:=h;exact⟨vs,q,z,l.av k⟩
 |dtt ks xs=>obtain⟨vs,q,z,l⟩:=h;exact⟨vs,q,z,l.av k⟩
 |_=>exact h.elim
theorem Own.rep{av:Addr->Prop}{H:Hp}{d:D}{a:Addr}(n:¬av a)(h:Own cA av H d a):Rep cA av H d (.ref a):=by
 cases d with
 |lst xs=>obtain⟨vs,q,l⟩:=h;unfold Rep;exact⟨a,vs,rfl,λz=>(n z).elim,SqL.of q,l⟩
 |obj c ks xs=>obtain⟨dx,vs,q,z,l⟩:=h;unfold Rep;exact⟨a,dx,vs,rfl,n,q,z,l⟩
 |dct ks xs=>obtain⟨vs,q,z,l⟩:=h;unfold Rep;exact⟨a,vs,rfl,n,q,z,l⟩
 |dtt ks xs=>obtain⟨vs,q,z,l⟩:=h;unfold Rep;exact⟨a,vs,rfl,n,q,z,l⟩
 |_=>exact h.elim
def ZK(c:String)(n:Nat)(m:List D->Option D)(dds:List D)(α:Env->Option (List D))(δ:Env):Option D:=match α δ with
 |some ds=>if(D.obj c [] []::(ds++dds)).length=n then m (.obj c [] []::(ds++dds))else none
 |none=>none
theorem U0{n:Nat}{m:List D->Option D}{t:TA}{α:Env->Option (List D)}{E0:XK}{c:String}(dds:List D)(hd:dds.all Yg=true)(h:VA G ow t .cl α):VE G ow (Zfh (G.1.c c) (spI G.1 n m) (dds.map val) E0 t) .cl (ZK c n m dds α):=λH0 av A σ H δ E d e Q k=>by
 unfold ZK at e;cases he:α δ with
 |none=>rw [he]at e;cases e
 |some ds=>
  rw [he]at e;dsimp only at e
  by_cases hz:(D.obj c [] []::(ds++dds)).length=n
  · rw [if_pos hz]at e
    refine h H0 av A σ H δ E ds he _ λvs H1 s1 r1 x dx hx hdx hne => ?_
    have E1:=E.mono s1;have s2:Same H1 (upd (upd H1 dx (.own x)) x (.ins (G.1.c c) dx [])):=(YL hdx).trans (YL (by rw [Zv (Ne.symm hne)];exact hx));have nx:¬AV av A x:=λz=>E1.avl x z hx
    refine⟨x,vs++dds.map val,AV av A,ds++dds,.obj c [] [],d,rfl,λa z => ?_,nx,⟨dx,[],Yq,rfl,.nil⟩,?_,hz,e,λH' hk ho=>⟨rfl,k _ H' ?_ ?_⟩⟩
    · have:=E1.avl a z
      cases q:H1 a with
      |none=>exact absurd q this
      |some o=>rw [s2 a o q];exact λz=>by cases z
    · refine RepL.same s2 ((r1.cl.append (.of_vals hd)).av λb z => ?_)
      rcases z with z|z
      · exact .inl z
      · exact .inr (by rw [z];exact hx)
    · refine s1.trans λb o e=>hk b o (λz=>by rw [z,hx]at e;cases e) (s2 b o e)
    · exact((ho.av λb z => .inl (.inl z)).rep nx).t
  · rw [if_neg hz]at e;cases e
def ZJ(i n:Nat)(m:List D->Option D)(dds:List D)(α:Env->Option (List D))(δ:Env):Option Out:=match Za i δ with
 |some d=>match α δ with
  |some ds=>if(d::(ds++dds)).length=n then(match m (d::(ds++dds))with
   |some d'=>some (.nx (δ.set i (some d')))
   |none=>none)else none
  |none=>none
 |none=>none
theorem U1{n:Nat}{m:List D->Option D}{t:TA}{α:Env->Option (List D)}{E0:XK}(i:Nat)(hi:ow.contains i=true)(dds:List D)(hd:dds.all Yg=true)(h:VA G ow t .cl α) :
 VS G ow ow owB owC (UH (Jx (spI G.1 n m) (dds.map val) E0 (YR (YZ i) t))) (ZJ i n m dds α):=λH0 av A σ H δ E o e De k=>by
 unfold ZJ at e;cases hv:Za i δ with
 |none=>rw [hv]at e;cases e
 |some d=>
  rw [hv]at e;dsimp only at e;cases he:α δ with
  |none=>rw [he]at e;cases e
  |some ds=>
   rw [he]at e;dsimp only at e
   by_cases hz:(d::(ds++dds)).length=n
   · rw [if_pos hz]at e
     cases hm:m (d::(ds++dds))with
     |none=>rw [hm]at e;cases e
     |some d'=>
      rw [hm]at e;cases e;have hi':i∈ow:=by simpa using hi
      cases hA:A i with
      |none=>exact absurd hA (E.dom' i hi')
      |some a=>
       obtain⟨v,g1,_,g3⟩:=E.var i _ (XV hv);obtain⟨rfl,_⟩:=g3 a hA;refine⟨_,g1,h H0 av A σ H δ E ds he _ λvs H1 s r => ?_⟩;have E1:=E.mono s;obtain⟨v2,g1',_,g3'⟩:=E1.var i _ (XV hv);obtain⟨_,ow'⟩:=g3' a hA
       have eqv:∀b,(AV av A b/\b≠a)\/b=a ↔ AV av A b:=λb=>by
        constructor
        · rintro(z|z)
          · exact z.1
          · rw [z];exact .inr ⟨i,hA⟩
        · intro z
          by_cases q:b=a
          · exact .inr q
          · exact .inl ⟨z,q⟩
       refine⟨a,vs++dds.map val,λb=>AV av A b/\b≠a,ds++dds,d,d',rfl,λb z=>E1.avl b z.1,λz=>z.2 rfl,ow'.av λb z => .inl ((eqv b).mp z),(r.cl.append (.of_vals hd)).av λb z => .inl ((eqv b).mp z),hz,hm,λH' hk ho => ?_⟩;exact k A σ H' (E1.put hA (XV hv) hk ho.live (ho.av λb z => .inl ((eqv b).mpr z)))
   · rw [if_neg hz]at e;cases e
def runI(N:Nat)(φ:Env->Option Out)(ds:List D):Option D:=match φ (ds.map some++List.replicate (N-ds.length) none)with
 |some (.nx δ)=>Za 0 δ
 |_=>none
section
variable{P:Program}{w:World}{K:PySem.W.Frag}{mg:Str->Option Value}{base:Heap}
theorem Zko {x qual:Str} {st:Stmt} {f:Addr} {fd:FuncData} {N ps:List Str} {k:Nat} {φ:Env->Option Out} (F:FunX K x qual st f fd) (S:FnScope N ps (defScope st))
 (hbody:∀(cdv:Value)(A:Around)(outer:List PySem.Env)(s:Shared)(H:Hp)(E:XK)(a:Addr),Room k (A.deeper (PyProof.Rows.envOfC qual (defScope st) s.heap.objs.size f cdv)) ->
   ∃t,PSs (XG CX0 P w K mg base N qual (defScope st) f cdv A outer s H E).nox (defBody st) t/\VS ⟨cA,λj=>if j=0 then some (.inl a)else none⟩ [0] [0] [] [] t φ):FnOk P w K mg base CX0 (k+1) f fd ps (spI cA ps.length (runI N.length φ)):=by
 refine F.ok S (λvs H Q E h => ?_) λcdv A outer s H vs Q E hr h => ?_
 · obtain⟨x,r,av,ds,d,d',rfl,_,_,_,l,hl,_⟩:=h
   rw [<-hl,List.length_cons,List.length_cons,l.length]
 · obtain⟨x,r,av,ds,d,d',rfl,ha,nx,ho,l,hl,hm,q⟩:=h
   obtain⟨t,ht,hv⟩:=hbody cdv A outer s H E x hr;refine⟨t,ht,?_⟩;unfold runI at hm;cases hφ:φ ((d::ds).map some++List.replicate (N.length-(d::ds).length) none)with
   |none=>rw [hφ]at hm;cases hm
   |some o=>
    rw [hφ]at hm;cases o<;>first|(cases hm;done)|skip
    rename_i δ';have hm:Za 0 δ'=some d':=hm
    have hAV:∀b,AV av (λj=>if j=0 then some x else none) b ↔ av b\/b=x:=λb=>by
     constructor
     · rintro(z|⟨j,z⟩)
       · exact .inl z
       · by_cases e:j=0
         · simp [e]at z;exact .inr z.symm
         · simp [e]at z
     · rintro(z|z)
       · exact .inl z
       · exact .inr ⟨0,by simp [z]⟩
    have E0:ER ⟨cA,λj=>if j=0 then some (.inl x)else none⟩ [0] (λb=>if b=x then none else H b) av (λj=>if j=0 then some x else none) (L2.start N (.ref x::r)) H ((d::ds).map some++List.replicate (N.length-(d::ds).length) none):=by
     refine⟨λb o e => ?_,λa z => ?_,λi a e => ?_,λi j a e1 e2 => ?_,λi a e => ?_,λi e => ?_,λi hi => ?_,?_,(λi a e=>by
      by_cases q:i=0
      · simp [q]at e;simp [q,e]
      · simp [q]at e),(λi v e=>by
      by_cases q:i=0
      · simp [q]at e
      · simp [q]at e),λi d'' e => ?_⟩
     · by_cases q:b=x
       · simp [q]at e
       · simpa [q]using e
     · have:a≠x:=λq=>nx (q▸z)
       simp [this];exact ha a z
     · by_cases q:i=0
       · simp [q]at e;simp [e]
       · simp [q]at e
     · by_cases q:i=0
       · by_cases q2:j=0
         · rw [q,q2]
         · simp [q2]at e2
       · simp [q]at e1
     · by_cases q:i=0
       · simp [q]at e;subst e;exact ho.live
       · simp [q]at e
     · by_cases q:i=0
       · simp [q]
       · simp [q]at e
     · have:i=0:=by simpa using hi
       simp [this]
     · unfold L2.start
       rw [List.length_append,List.length_append,List.length_map,List.length_map,List.length_replicate,List.length_replicate,List.length_cons,List.length_cons,l.length]
     · by_cases q:i=0
       · subst q
         have e':d=d'':=by simpa using e
         subst e'
         exact⟨.ref x,by simp [L2.start],λz=>by simp at z,λa z=>by
          simp at z;subst z;exact⟨rfl,ho.av λb z => .inl ((hAV b).mp z)⟩⟩
       · obtain⟨i,rfl⟩:∃i',i=i'+1:=⟨i-1,by omega⟩
         have e2:(ds.map some++List.replicate (N.length-(ds.length+1)) none)[i]? = some (some d''):=by simpa using e
         by_cases hi:i<ds.length
         · rw [List.getElem?_append_left (by simpa using hi),List.getElem?_map]at e2
           cases hd:ds[i]? with
           |none=>rw [hd]at e2;cases e2
           |some z=>
            rw [hd]at e2;cases e2;obtain⟨v,hv',rv⟩:=l.get hd;refine⟨v,?_,λ_=>rv.av λb z => .inl ((hAV b).mp z),λa z=>by simp at z⟩;unfold L2.start;have:i+1<(V.ref x::r).length:=by rw [List.length_cons,<-l.length];omega
            rw [List.getElem?_append_left (by simpa using this),List.getElem?_map];simp [hv']
         · rw [List.getElem?_append_right (by simpa using hi),List.getElem?_replicate]at e2
           split at e2<;>cases e2
    refine hv _ av _ _ H _ E0 _ hφ _ λA' σ' H' E' => ?_
    have hA':A' 0=some x:=E'.pin 0 x (by simp);obtain⟨v,_,_,g3⟩:=E'.var 0 d' (XV hm);obtain⟨_,ho'⟩:=g3 x hA';refine q H' (λb o hb e=>E'.same b o (by simpa [hb]using e)) (ho'.av λb z => ?_);rcases z with z|z
    · exact .inl (.inl z)
    · exact .inl (.inr ⟨0,by rw [hA',z]⟩)
theorem ZiQ {x qual:Str} {st:Stmt} {f:Addr} {fd:FuncData} {N ps:List Str} {k:Nat} {φ:Env->Option Out} (F:FunX K x qual st f fd) (S:FnScope N ps (defScope st))
 (hbody:∀(cdv:Value)(A:Around)(outer:List PySem.Env)(s:Shared)(H:Hp)(E:XK),Room k (A.deeper (PyProof.Rows.envOfC qual (defScope st) s.heap.objs.size f cdv)) ->
   ∃t,PSs (XG CX0 P w K mg base N qual (defScope st) f cdv A outer s H E).nox (defBody st) t/\∃owN,VS ⟨cA,λ_=>none⟩ [] owN [] [] t φ):FnOk P w K mg base CX0 (k+1) f fd ps (spD cA ps.length (run N.length φ)):=by
 refine F.ok S (λvs H Q E h => ?_) λcdv A outer s H vs Q E hr h => ?_
 · obtain⟨av,ds,d,_,r,hl,_⟩:=h
   rw [<-r.length,hl]
 · obtain⟨av,ds,d,ha,r,hl,hm,q⟩:=h
   obtain⟨t,ht,owN,hv⟩:=hbody cdv A outer s H E hr;refine⟨t,ht,?_⟩;unfold run at hm;cases hφ:φ (ds.map some++List.replicate (N.length-ds.length) none)with
   |none=>rw [hφ]at hm;cases hm
   |some o=>
    rw [hφ]at hm;refine hv H av _ _ H _ (Zej ha r) o hφ _ ?_;cases o with
    |nx δ'=>cases hm;exact λA' σ' H' E'=>q .non H' E'.same rfl
    |rt d'=>cases hm;exact λv H' s' r'=>q v H' s' r'
    |bk δ'=>cases hm
    |ct δ'=>cases hm
end
abbrev MTab:=List (String×(Nat×(List D->Option D)))
structure MethOk(X:Cx)(cA:Kn)(k:Nat)(m:String)(c:String)(n:Nat)(mm:List D->Option D):Prop where
 ex:∃f fd ps,Cls X.K (cA.c c)/\Meth X.K (cA.c c) (Str.ofString m) f/\FnOk X.prog X.w X.K X.mg X.base CX0 k f fd ps (spD cA n mm)/\Binds X.K fd ps []
def MTOk(X:Cx)(cA:Kn)(k:Nat)(m:String):MTab->Prop
 | []=>True
 |(c,n,mm)::r=>MethOk X cA k m c n mm/\MTOk X cA k m r
theorem MTOk.get{X:Cx}{k:Nat}{m:String}:∀{tab:MTab}{c:String}{n:Nat}{mm:List D->Option D},MTOk X cA k m tab->tab.lookup c=some (n,mm)->MethOk X cA k m c n mm
 | [],_,_,_,_,h=>by simp at h
 |(c',n',mm')::r,c,n,mm,T,h=>by
  rw [List.lookup_cons]at h;cases hc:c == c' with
  |true=>
   rw [hc]at h;cases h;have:c=c':=eq_of_beq hc;subst this;exact T.1
  |false=>
   rw [hc]at h;exact MTOk.get T.2 h
def ZcO(cA:Kn)(m:String)(tab:MTab)(ta:TE)(t:TA):TE:=λσ H Q=>ta σ H λx H1=>∃a dx fs c n mm,x = .ref a/\H1 a=some (.ins (cA.c c) dx fs)/\fs.lookup (Str.ofString m)=none/\tab.lookup c=some (n,mm)/\t σ H1 λvs H2=>spD cA n mm (x::vs) H2 Q E0
theorem X7 {X:Cx} {k:Nat} {m:String} {tab:MTab} {o e:Expr} {es:List Expr} {ta:TE} {t:TA} {pos apos:Pos} {pl:Sem Bool} (T:MTOk X cA k m tab) (hr:Room k X.A) (he:PE X o ta) (ha:PA X (e::es) t)
 (hst:starEach (e::es) X.env=(false,eval e X.env)::starEach es X.env:=by rfl) (hpl:(backTo pos (starEach es X.env)).any (·.1)=false:=by rfl)
 (ht:eval (.Call (.Attribute o (Str.ofString m) apos) (e::es) [] pos) X.env=(do
   let ov <-eval o X.env
   standAt apos.atName
   let(f,first) <-holding [ov] (getMethod ov (Str.ofString m) pl)
   callWith pos f first (backTo pos (starEach (e::es) X.env)) (backToKw pos (keywordEach [] X.env))):=by rfl) :
 PE X (.Call (.Attribute o (Str.ofString m) apos) (e::es) [] pos) (ZcO cA m tab ta t):=by
 intro pins s σ H Q I h;refine PySem.W.methodCall_KW (pl:=pl) (thn (he pins s σ H _ I h) λu s1 ⟨x,H1,I1,rx,a,dx,fs,c,n,mm,ex,ea,l,tl,q⟩ => ?_) ht;subst ex;obtain rfl:u=Value.ref a:=rx;obtain⟨f,fd,ps,hc,hm,F,hb⟩:=(T.get tl).ex;refine Zam I1 ea hc hm l ?_;refine PySem.W.callWith_K (first:=[.ref a]) (h₀:=X.base) I.ok.mod.kin hm.kp (thn (ha pos pins s1 σ H1 _ I1 q) λus s2 ⟨vs,H2,I2,r,q2⟩=>⟨I2.kIn,?_⟩) hst hpl
 exact Qv (us:=.ref a::us) (vs:=.ref a::vs) (dvs:=[]) (ds:=[]) F hr hb .nil ZR I2 (.cons rfl r) (by rw [List.append_nil];exact q2)
theorem JQ {X:Cx} {k:Nat} {m:String} {tab:MTab} {o:Expr} {ta:TE} {pos apos:Pos} {pl:Sem Bool} (T:MTOk X cA k m tab) (hr:Room k X.A) (he:PE X o ta)
 (ht:eval (.Call (.Attribute o (Str.ofString m) apos) [] [] pos) X.env=(do
   let ov <-eval o X.env
   standAt apos.atName
   let(f,first) <-holding [ov] (getMethod ov (Str.ofString m) pl)
   callWith pos f first (backTo pos (starEach [] X.env)) (backToKw pos (keywordEach [] X.env))):=by rfl) :
 PE X (.Call (.Attribute o (Str.ofString m) apos) [] [] pos) (ZcO cA m tab ta tNil):=by
 intro pins s σ H Q I h;refine PySem.W.methodCall_KW (pl:=pl) (thn (he pins s σ H _ I h) λu s1 ⟨x,H1,I1,rx,a,dx,fs,c,n,mm,ex,ea,l,tl,q⟩ => ?_) ht;subst ex;obtain rfl:u=Value.ref a:=rx;obtain⟨f,fd,ps,hc,hm,F,hb⟩:=(T.get tl).ex;refine Zam I1 ea hc hm l ?_;exact PySem.W.callWith_K0 (first:=[.ref a]) I1.kIn hm.kp (Qv (us:=[.ref a]) (vs:=[.ref a]) (dvs:=[]) (ds:=[]) F hr hb .nil ZR I1 (.cons rfl .nil) (by rw [List.append_nil];exact q))
def Zr(m:String)(tab:MTab)(a:Env->Option D)(α:Env->Option (List D))(δ:Env):Option D:=match a δ with
 |some (.obj c ks xs)=>if ks.contains m then none else(match tab.lookup c with
  |some (n,mm)=>match α δ with
   |some ds=>if(D.obj c ks xs::ds).length=n then mm (.obj c ks xs::ds)else none
   |none=>none
  |none=>none)
 |_=>none
theorem Xu{m:String}{tab:MTab}{ta:TE}{t:TA}{a:Env->Option D}{α:Env->Option (List D)}(ha:VE G ow ta .cl a)(h:VA G ow t .cl α):VE G ow (ZcO G.1 m tab ta t) .cl (Zr m tab a α):=λH0 av A σ H δ E d e Q k=>by
 unfold Zr at e;cases hx:a δ with
 |none=>rw [hx]at e;cases e
 |some x=>
  rw [hx]at e;cases x<;>first|(cases e;done)|skip
  rename_i c ks xs;dsimp only at e;cases hf:ks.contains m with
  |true=>rw [hf,if_pos rfl]at e;cases e
  |false=>
   rw [hf,if_neg Bool.false_ne_true]at e;cases htb:tab.lookup c with
   |none=>rw [htb]at e;cases e
   |some p=>
    obtain⟨n,mm⟩:=p;rw [htb]at e;dsimp only at e;cases he:α δ with
    |none=>rw [he]at e;cases e
    |some ds=>
     rw [he]at e;dsimp only at e
     by_cases hz:(D.obj c ks xs::ds).length=n
     · rw [if_pos hz]at e
       refine ha H0 av A σ H δ E _ hx _ λv H1 s1 r1 => ?_
       obtain⟨p,dx,vs,rfl,np,rd,zl,l⟩:=r1;refine⟨p,dx,_,c,n,mm,rfl,rd,Za2 hf,htb,h H0 av A σ H1 δ (E.mono s1) ds he _ λws H2 s2 r2 => ?_⟩;have E2:=(E.mono s1).mono s2;refine⟨AV av A,.obj c ks xs::ds,d,E2.avl,.cons ?_ r2.cl,hz,e,λv H' s r=>k v H' ((s1.trans s2).trans s) r.t⟩;unfold Rep;exact⟨p,dx,vs,rfl,np,s2 _ _ rd,zl,l.same s2⟩
     · rw [if_neg hz]at e;cases e
def isD:D->D->Option D
 | .bl a,.bl b=>some (.bl (a == b))
 |_,_=>none
end
end DL
namespace DL
open PySem PySem.Spec L2
def Xc:Nat->List D->List D
 |_,[]=>[]
 |k,x::xs => .tup [.int (k:Nat),x]::Xc (k+1) xs
theorem QN:∀(k:Nat)(xs:List D),(Xc k xs).length=xs.length
 |_,[]=>rfl
 |k,x::xs=>by rw [Xc,List.length_cons,List.length_cons,QN]
theorem Zaz:∀(k:Nat)(xs:List D)(i:Nat),(Xc k xs)[i]? = (xs[i]?).map λx => .tup [.int ((k+i:Nat):Int),x]
 |_,[],i=>by simp [Xc]
 |k,x::xs,0=>by simp [Xc]
 |k,x::xs,i+1=>by
  rw [Xc,List.getElem?_cons_succ,List.getElem?_cons_succ,Zaz (k+1) xs i];have:k+1+i=k+(i+1):=by omega
  rw [this]
section
variable{cA:Kn}{G:Cn}{ow:List Nat}
def JR(k:Nat)(ε:Env->Option D)(δ:Env):Option (List D):=match ε δ with
 |some (.str cs)=>some (Xc k (cs.map λc => .str [c]))
 |_=>none
theorem ZbR{iv:Addr->Prop}{H0:Hp}{n0:Nat}{cs:List Nat}:V3 cA iv (Zis n0 cs) (Xc n0 (cs.map λc => .str [c])) H0:=λH s=>by
 refine⟨λi hi => ?_,λi x v H' hx y => ?_,λi hi => ?_⟩
 · have:i<cs.length:=by simpa [QN]using hi
   exact this
 · obtain⟨c,p,hc,hp,rfl,rfl⟩:=y
   rw [Zaz,List.getElem?_map,hc]at hx;cases hx;refine⟨YL hp,λav' h1 _ => ?_⟩;unfold Rep;exact⟨p,_,rfl,λz=>h1 p z hp,Yq,.cons rfl (.cons rfl .nil)⟩
 · have:cs.length<=i:=by simpa [QN]using hi
   exact this
theorem Zep {X:Cx} {elts:List Expr} {x1:Nat} {tpos:Pos} {a:Expr} {ta:TE} {p pos:Pos} (hg:Gl X "enumerate") (hm:X.mg "enumerate" = none) (ha:PE X a ta) (hs:starEach [a] X.env=[(false,eval a X.env)]:=by rfl) :
 PI X (.Tuple elts x1 tpos) (.Call (.Name "enumerate" p) [a] [] pos) (Zfl (YR ta tNil)):=ZfF hg hm (Zd ha Zi hs) hs
theorem Zeq{ta:TE}{q:Ql}{ε:Env->Option D}(h:VE G ow ta q ε):VI G ow (Zfl (YR ta tNil)) (JR 0 ε):=λH0 av A σ H δ E xs e R k=>by
 unfold JR at e;cases he:ε δ with
 |none=>rw [he]at e;cases e
 |some d=>
  rw [he]at e;cases d<;>first|(cases e;done)|skip
  cases e;refine h H0 av A σ H δ E _ he _ λv H1 s r => ?_
  have e1:v=S _:=r.any;subst e1;exact⟨_,rfl,k _ H1 s ZbR⟩
end
end DL
namespace DL
open PySem PySem.Spec L2
section
variable{cA:Kn}{P:Program}{w:World}{K:PySem.W.Frag}{mg:Str->Option Value}{base:Heap}
theorem Yv {x qual:Str} {st:Stmt} {f:Addr} {fd:FuncData} {N ps:List Str} {k:Nat} {φ:Env->Option Out} {body:List Stmt} {scope:Scope} {n:Nat} {m:List D->Option D} (F:FunX K x qual st f fd) (S:FnScope N ps (defScope st)) (hS:defScope st=scope) (hB:defBody st=body)
 (hbody:∀(cdv:Value)(A:Around)(outer:List PySem.Env)(s:Shared)(H:Hp)(E:XK),Room k (A.deeper (PyProof.Rows.envOfC qual scope s.heap.objs.size f cdv)) ->
   ∃t,PSs (XG CX0 P w K mg base N qual scope f cdv A outer s H E).nox body t/\∃owN,VS ⟨cA,λ_=>none⟩ [] owN [] [] t φ)  (hm:m=run N.length φ) (hn:ps.length=n):FnOk P w K mg base CX0 (k+1) f fd ps (spD cA n m):=by
 subst hS hB hm hn;exact ZiQ F S hbody
theorem U2 {x qual:Str} {st:Stmt} {f:Addr} {fd:FuncData} {N ps:List Str} {k:Nat} {φ:Env->Option Out} {body:List Stmt} {scope:Scope} {n:Nat} {m:List D->Option D} (F:FunX K x qual st f fd) (S:FnScope N ps (defScope st)) (hS:defScope st=scope) (hB:defBody st=body)
 (hbody:∀(cdv:Value)(A:Around)(outer:List PySem.Env)(s:Shared)(H:Hp)(E:XK)(a:Addr),Room k (A.deeper (PyProof.Rows.envOfC qual scope s.heap.objs.size f cdv)) ->
   ∃t,PSs (XG CX0 P w K mg base N qual scope f cdv A outer s H E).nox body t/\VS ⟨cA,λj=>if j=0 then some (.inl a)else none⟩ [0] [0] [] [] t φ)  (hm:m=runI N.length φ) (hn:ps.length=n):FnOk P w K mg base CX0 (k+1) f fd ps (spI cA n m):=by
 subst hS hB hm hn;exact Zko F S hbody
end
end DL
namespace DL
open PySem PySem.Spec L2 PyProof.Rows
def XZ:List D->Option (List Int)
 | []=>some []
 | .int b::r=>match XZ r with
  |some bs=>some (b::bs)
  |none=>none
 |_=>none
theorem JS:∀{xs:List D}{bs:List Int},XZ xs=some bs->xs=bs.map D.int
 | [],bs,h=>by cases h;rfl
 |x::xs,bs,h=>by
  cases x<;>first|(cases h;done)|skip
  rename_i b;unfold XZ at h;cases hr:XZ xs with
  |none=>rw [hr]at h;cases h
  |some cs=>
   rw [hr]at h;cases h;rw [List.map_cons,JS hr]
theorem Zbj(bs:List Int):XZ (bs.map D.int)=some bs:=by
 induction bs with
 |nil=>rfl
 |cons b bs ih=>rw [List.map_cons,XZ,ih]
theorem JT:∀(ns:List Int)(its:List Value),Vals (ns.map V.int) its->IntsAre its ns
 | [],its,h=>by cases h;exact .nil
 |n::ns,its,h=>by
  cases h with
  |cons r1 r2=>
   obtain⟨t,rfl⟩:=r1;exact .cons _ _ (JT ns _ r2)
def Zfm(K:PySem.W.Frag):List V->Hp->VK->Prop:=λxs H Q=>∃(p:Addr) (ns:List Int),xs=[.ref p]/\SqL K H p (ns.map V.int)/\Q (.int ns.sum) H
section
variable{X:Cx}{K:PySem.W.Frag}{cA:Kn}
theorem ZdI(hc:X.calm=true):YI X (.builtin "sum") (Zfm X.K):=by
 intro pins s σ H xs us Q I rs h;obtain⟨p,ns,rfl,hq,q⟩:=h;obtain⟨u,rfl,rx⟩:=Y2 rs;cases rx;obtain⟨its,rv,pl,hz⟩:=I.list hq;have hi:=JT ns its rv;obtain⟨ys,e⟩:=hi.allInts.items
 have hns:ns=ys.toList.map (·.1):=by
  rw [<-hi.numsOf,<-nums_intItems,<-e]
 have hl:=pl.isList;rw [e]at hl;refine sum_intListG (I.ok.hd hc) hl λh' tk t' hk => ?_
 have e2:preSum (numAt ys) ys.size=ns.sum:=by
  rw [preSum_eq,List.take_of_length_le (by simp),hns]
 exact⟨.int ns.sum,H,I.kept hk,⟨t',by rw [e2]⟩,q⟩
theorem ZgY(hc:X.calm=true:=by rfl)(hK:X.K=K:=by rfl):YI X (.builtin "sum") (Zfm K):=hK▸ZdI hc
def sumLD:List D->Option D
 | [.lst xs]=>match XZ xs with
  |some ns=>some (.int ns.sum)
  |none=>none
 |_=>none
theorem ZfK:V1 cA (Zfm cA.K) sumLD:=λi H ds vs d _ h e Q k=>by
 unfold sumLD at e
 split at e
 · rename_i xs
   cases hb:XZ xs with
   |none=>rw [hb]at e;cases e
   |some bs=>
    rw [hb]at e;cases e;obtain⟨v,t,rfl,a,ws,rfl,_,rd,l⟩:=il1 h;have ex:=JS hb;subst ex;have ev:=l.vals (by rw [List.all_map];exact List.all_eq_true.mpr λ_ _=>rfl);rw [List.map_map]at ev;subst ev;exact⟨a,bs,rfl,rd,k _ H (Same.refl H) rfl⟩
 · cases e
end
end DL
namespace L2
open PySem PySem.Spec PyProof.Rows
section
variable{X:Cx}{scope:Scope}{tn cn:List Str}{js:List Nat}{tg iter elt:Expr}{ifs:List Expr}{pos spos pos':Pos}{wi:TI}{g:TG}{tt:TT}{te:TE}
end
end L2
namespace L2
open PySem PySem.Spec PyProof.Rows Builtin Builtin.Str
section
variable{X:Cx}
end
end L2
namespace DL
open PySem PySem.Spec L2
variable{cA:Kn}
end DL
namespace PySem
open Builtin SmallTypes
open AutoSeq1 (wpAny_loadPart')
end PySem
namespace PySem
open Sem (wp)
end PySem
namespace PySem
open Sem (wp)
section
variable{P:Program}{w:World}{A:Around}{E:Value->Shared->Prop}{s:Shared}
end
end PySem
namespace L2
open PySem PySem.Spec PyProof.Rows
def Zit(K:PySem.W.Frag)(n0:Nat)(l:Addr):It:=
 ⟨λi H=>∃xs x,SqL K H l xs/\xs[i]? = some x,λi H v H'=>∃x p,(∀xs,SqL K H l xs->xs[i]? = some x)/\H p=none/\v = .ref p/\H'=upd H p (.tup [.int ((n0+i:Nat):Int),x]),λi H=>∃xs,SqL K H l xs/\xs.length<=i⟩
theorem ZdJ{prog:Program}{w:World}{A:Around}(hh:A.handled=none)(it l:Addr)(hne:l≠it)(its:Array Value)(n0:Nat) :
 Draws prog w A it [it,l] (n0+its.size) (λi v=>∃j,i=n0+j/\its[j]? = some v) (λi h=>∃j,i=n0+j/\h.IsListIter it l j/\h.IsList l its) where
 live:=λi h ⟨j,_,st,_⟩=>let⟨o,ho,_⟩:=st;⟨o,ho⟩
 frame:=λi h h' ⟨j,e,s1,s2⟩ hk=>⟨j,e,s1.at λo q=>hk it (by simp) o q,s2.at λo q=>hk l (by simp) o q⟩
 item:=λi s Q E hi st hQ=>by
  obtain⟨j,rfl,s1,s2⟩:=st;have hj:j<its.size:=by omega
  refine wpAny_nextOf_list_item s1 s2 (x:=its[j]) (by simp [hj]) λh' st' sb => ?_
  exact hQ _ h' s.toks ⟨j,rfl,by simp [hj]⟩ ⟨j+1,by omega,st',s2.extBut sb.extBut hne⟩ sb
 done:=λs Q E st hE=>by
  obtain⟨j,e,s1,s2⟩:=st
  exact wpAny_nextOf_list_end hh s1 s2 (by have : j = its.size := by omega
                                           subst this;simp) hE
theorem Zcz{prog:Program}{w:World}{A:Around}(hh:A.handled=none)(it l:Addr)(its:Array Value)(n j:Nat)(hj:its.size<=j) :
 Draws prog w A it [it,l] n (λ_ _=>False) (λi h=>i=n/\h.IsListIter it l j/\h.IsList l its) where
 live:=λi h ⟨_,st,_⟩=>let⟨o,ho,_⟩:=st;⟨o,ho⟩
 frame:=λi h h' ⟨e,s1,s2⟩ hk=>⟨e,s1.at λo q=>hk it (by simp) o q,s2.at λo q=>hk l (by simp) o q⟩
 item:=λi s Q E hi st hQ=>absurd st.1 (by omega)
 done:=λs Q E st hE=>wpAny_nextOf_list_end hh st.2.1 st.2.2 (by simp [hj]) hE
theorem ZcA{P:Program}{w:World}{K:PySem.W.Frag}{elts:List Expr}{x1:Nat}{tpos:Pos}(e it l:Addr)(hne:e≠it)(n0:Nat) :
 Turn P w K (.Tuple elts x1 tpos) (Zit K n0 l) [e,it] e (λi h=>(∃old,IsEnum h e it ((n0+i:Nat):Int) old)/\h.IsListIter it l i) where
 mem:=by simp
 obj:=λi h st b hb=>by
  obtain⟨⟨old,he⟩,o,ho,hc,hd⟩:=st;simp at hb;rcases hb with rfl|rfl
  · exact ⟨_, he, fun v z => by
     have z':Data.fields _=Data.cell v:=z;cases z'⟩
  · exact⟨o,ho,λv z=>by rw [hd]at z;cases z⟩
 keep:=λi h h' st k=>by
  obtain⟨⟨old,he⟩,s1⟩:=st;exact⟨⟨old,k e (by simp) _ he⟩,s1.at λo q=>k it (by simp) o q⟩
 item:=by
  intro X hP hw hK hc i pins s σ H E I hf st hg;subst hP hw hK;obtain⟨⟨old,he⟩,st⟩:=st;obtain⟨xs,x,hq,hx⟩:=hg;obtain⟨its,rv,p,hz⟩:=I.list hq;obtain⟨u,hu,ru⟩:=rv.get hx;have hi:i<its.length:=(List.getElem?_eq_some_iff.mp hu).1;obtain⟨e0,e1,e2,e3,e4,e5⟩:=hf e (by simp);obtain⟨f0,f1,f2,f3,f4,f5⟩:=hf it (by simp)
  have hLe:l≠e:=by
   rintro rfl
   obtain⟨o,ho,hcl,_⟩:=p.isList;have he':s.heap.get? l=some _:=he;rw [he']at ho;cases ho;exact absurd (show Value.type "enumerate" = Value.type "list" from hcl) (by decide)
  have hLi:l≠it:=by
   rintro rfl
   obtain⟨o,ho,hcl,_⟩:=p.isList;obtain⟨o',ho',hcl',_⟩:=id st;rw [ho]at ho';cases ho';rw [hcl]at hcl';exact absurd hcl' (by decide)
  have D:=ZdJ (prog:=X.prog) (w:=X.w) (A:=X.A.in1) (I.ok.hd hc) it l hLi its.toArray n0;refine wpAny_pyNext_enum_itemD D he ⟨i,rfl,st,p.isList⟩ (by simp;omega) hne (by simp [hne,Ne.symm hLe]) λy h' tk hP ho st' hT hsz hk => ?_
  obtain⟨j,ej,hy⟩:=hP;have ej':j=i:=by omega
  subst ej'
  have hyu:y=u:=by
   have:its[j]? = some y:=by simpa using hy
   rw [hu]at this;exact(Option.some.inj this).symm
  subst hyu;refine⟨_,rfl,wpAny_letOwnedTupleGo_enum ho λh2 he2 hs2 => ?_⟩;have hs2:Heap.SameBut e h' h2:=hs2;have hTl:e<s.heap.objs.size:=Heap.lt_size he;obtain⟨j',ej2,st'',_⟩:=st';have ej3:j'=j+1:=by omega
  subst ej3;have hT2:h2.get? s.heap.objs.size=some { cls := .type "tuple",data := .seq #[.int ((n0+j:Nat):Int) tk,y] }:=(hs2.2 _ (Nat.ne_of_gt hTl)).trans hT;have k2:∀b o,b≠e->b≠it->s.heap.get? b=some o->h2.get? b=some o:=λb o hb hb' q=>(hs2.2 b hb).trans (hk b o hb hb' q)
  have hTn:H s.heap.objs.size=none:=I.hok.fresh (Nat.le_refl _);have neT:∀b o,s.heap.get? b=some o->b≠s.heap.objs.size:=λb o q=>Nat.ne_of_lt (Heap.lt_size q)
  have I2:Inv X pins σ (upd H s.heap.objs.size (.tup [.int ((n0+j:Nat):Int),x])) { s with heap:=h2,toks:=tk+1 }:=by
   refine I.step (g':=s.gens) (d':=s.drawn) (ch:=[e,it]) (λb hb => ?_) (λb o _ _ hcb q _ => ?_) (λb o _ _ hcb q _ => ?_) (λb o hcb q n => ?_) (λb o hcb q => ?_) (λb xs q => ?_) (λb o v q => ?_) (λb ps q => ?_) (λm hm => ?_) (λb o q => ?_) I.bare
   · simp at hb
     rcases hb with rfl|rfl
     · exact⟨e3,e1,e4,e5⟩
     · exact⟨f3,f1,f4,f5⟩
   · simp at hcb
     exact k2 b o hcb.1 hcb.2 q
   · simp at hcb
     exact⟨o.slots,k2 b o hcb.1 hcb.2 q⟩
   · rw [Zv (neT b o q)]
     exact n
   · simp at hcb
     exact⟨o,k2 b o hcb.1 hcb.2 q⟩
   · rw [Zv (YD q hTn)]
     exact q
   · rw [Zv (YD q hTn)]
     exact q
   · exact⟨#[],by rw [Zv (YD q hTn),q];simp⟩
   · obtain⟨o,es,ep,q,r⟩:=hm
     exact⟨o,es,ep,k2 _ o (Ne.symm e1) (Ne.symm f1) q,r⟩
   · by_cases hb:b=s.heap.objs.size
     · subst hb
       rw [Yq]at q;cases q;refine⟨by show 2<=sizeLine;decide,[.int ((n0+j:Nat):Int) tk,y],.cons ⟨_,rfl⟩ (.cons ru .nil),?_⟩;exact⟨_,hT2,rfl,⟨_,rfl⟩,rfl⟩
     · rw [Zv hb]at q
       have nn:∀(b:Addr)(o:HO),H b=some o->b≠e/\b≠it:=λb o q=>⟨λz=>(by rw [z,e0]at q;cases q),λz=>(by rw [z,f0]at q;cases q)⟩
       refine(I.hok b o q).stay (λd v hd q' => ?_) (λd q'=>by rw [Zv (YD q' hTn)];exact q') λd xs q'=>by rw [Zv (YD q' hTn)];exact q'
       rcases hd with rfl|hd
       · exact k2 d v (nn d o q).1 (nn d o q).2 q'
       · exact k2 d v (nn d _ hd).1 (nn d _ hd).2 q'
  have he3:IsEnum h2 e it ((n0+(j+1):Nat):Int) y:=by
   have:((n0+(j+1):Nat):Int)=((n0+j:Nat):Int)+1:=by push_cast;omega
   rw [this];exact he2
  refine⟨.ref s.heap.objs.size,_,I2,rfl,⟨x,s.heap.objs.size,λys hy=>by rw [I.list_inj hy hq];exact hx,hTn,rfl,rfl⟩,⟨⟨_,he3⟩,?_⟩,λb hb => ?_⟩
  · obtain⟨o,ho',r⟩:=st''
    exact⟨o,(hs2.2 it (Ne.symm hne)).trans ho',r⟩
  · simp at hb
    rcases hb with rfl|rfl
    · rw [Zv (Nat.ne_of_lt hTl)];exact e0
    · obtain⟨o,ho',_⟩:=st
      rw [Zv (neT _ o ho')];exact f0
 done:=by
  intro X hP hw hK hc i pins s σ H E I hf st hg;subst hP hw hK;obtain⟨⟨old,he⟩,st⟩:=st;obtain⟨xs,hq,hx⟩:=hg;obtain⟨its,rv,p,hz⟩:=I.list hq;have hl:=rv.length;obtain⟨f0,f1,f2,f3,f4,f5⟩:=hf it (by simp);have D:=Zcz (prog:=X.prog) (w:=X.w) (A:=X.A.in1) (I.ok.hd hc) it l its.toArray (n0+i) i (by simp;omega);exact wpAny_pyNext_enum_endD D he ⟨rfl,st,p.isList⟩ λh' eb=>⟨rfl,I.turned (t':=s.toks) (λb o hb q=>eb b o hb q) f0 f1 f3 f4 f5⟩
 self:=λ_ _ _ _ _ st h=>by
  obtain⟨⟨old,he⟩,_⟩:=st;exact wpAny_pyIter_enum he h
end L2
namespace L2
open PySem PySem.Spec PyProof.Rows
section
variable{X:Cx}{elts:List Expr}{x1:Nat}{tpos:Pos}
end
end L2
namespace DL
open PySem PySem.Spec L2
section
variable{cA:Kn}{G:Cn}{ow:List Nat}
def ZcP(k:Nat)(ε:Env->Option D)(δ:Env):Option (List D):=match ε δ with
 |some (.lst xs)=>some (Xc k xs)
 |_=>none
theorem ZbS{iv:Addr->Prop}{H0:Hp}{a:Addr}{vs:List V}{xs:List D}{n0:Nat}(rd:SqL cA.K H0 a vs)(l:RepL cA iv H0 xs vs):V3 cA iv (Zit cA.K n0 a) (Xc n0 xs) H0:=λH s=>by
 have rd':SqL cA.K H a vs:=s.seq rd;refine⟨λi hi => ?_,λi x v H' hx y => ?_,λi hi=>⟨vs,rd',by rw [QN]at hi;rw [<-l.length];exact hi⟩⟩
 · rw [QN]at hi
   obtain⟨v,hv,_⟩:=l.get (List.getElem?_eq_getElem hi);exact⟨vs,v,rd',hv⟩
 · obtain⟨z,p,hy,hp,rfl,rfl⟩:=y
   rw [Zaz]at hx;cases hxi:xs[i]? with
   |none=>rw [hxi]at hx;cases hx
   |some d=>
    rw [hxi]at hx;cases hx;obtain⟨v',hv,r⟩:=l.get hxi;rw [hy vs rd']at hv;cases hv;refine⟨YL hp,λav' h1 h2 => ?_⟩;unfold Rep;exact⟨p,_,rfl,λz=>h1 p z hp,Yq,.cons rfl (.cons (((r.av h2).same s).same (YL hp)) .nil)⟩
end
end DL
namespace PySem
open Builtin SmallTypes
open AutoSeq1 (wpAny_loadPart')
end PySem
namespace PySem
section
variable{P:Program}{w:World}{A:Around}{E:Value->Shared->Prop}{s:Shared}
end
end PySem
namespace L2
open PySem PySem.Spec PyProof.Rows
section
variable{X:Cx}{elts:List Expr}{x1:Nat}{tpos:Pos}
end
end L2
namespace DL
open PySem PySem.Spec L2
section
variable{cA:Kn}{G:Cn}{ow:List Nat}
end
end DL
namespace DL
open PySem PySem.Spec L2 PyProof.Rows
def Wd(i:Int):Prop:=i.natAbs<2 ^ 8000
instance (i:Int):Decidable (Wd i):=by unfold Wd;infer_instance
def CMulW(i j:Int):Prop:=(Wd i/\Wd j)\/CMul i j
instance (i j:Int):Decidable (CMulW i j):=by unfold CMulW;infer_instance
def Zgl(_ j:Int):Prop:=j≠0/\Wd j
instance (i j:Int):Decidable (Zgl i j):=by unfold Zgl;infer_instance
instance (i j:Int):Decidable (Zj5 i j):=by unfold Zj5;infer_instance
theorem ZgZ{i:Int}(h:Wd i)(h0:i≠0):i.natAbs.log2<8000:=(Nat.log2_lt (by omega)).mpr h
theorem CMulW.ok{i j:Int}(h:CMulW i j):IntMulOk i j:=by
 rcases h with⟨h1,h2⟩|h
 · have bits : ∀ {a : Int}, Wd a -> Builtin.Int.intBits a <= 2 ^ 20 := fun {a} ha => by
    unfold Builtin.Int.intBits
    by_cases h0:a=0
    · subst h0;decide
    · have:=ZgZ ha h0
      have e:(2:Nat) ^ 20=1048576:=by decide
      rw [e]
      split<;>omega
   exact .of_bits (bits h1) (bits h2)
 · exact h.ok
section
variable{X:Cx}{cA:Kn}
end
end DL
namespace L2
open PySem PySem.Spec PySem.W PyProof.Rows
def bmV:List Value:=[.type "ValueError",.type "Exception",.type "BaseException",.type "object"]
section
variable{X:Cx}{E:XK}{C:Addr}{x:Str}{p cpos pos:Pos}{e:Expr}{es:List Expr}{t:TA}
end
def CX1(P:Program)(w:World):CXT:=λouter H s E ev s'=>∃(ea:Addr) (cls a0:Value) (B:Heap) (H':Hp),ev = .ref ea/\s'.os=s.os/\AllBare s'.gens/\Heap.FlyingW B outer ea cls a0 s'.heap /\
 (∀b o,s.heap.get? b=some o->H b=none->b∉frs outer->B.get? b=some o)/\HOk P w H' B/\Same H H'/\(∀b o,s.heap.get? b=some o->H b=none->H' b=none)/\(∀b o,s.heap.get? b=some o->b∈frs outer->∃sl,s'.heap.get? b=some { o with slots:=sl })/\E cls none H'
section
variable{P:Program}{w:World}{K:PySem.W.Frag}{mg:Str->Option Value}{base:Heap}{N:List Str}{qual:Str}{scope:Scope}{f:Addr}{cd:Value}{A:Around}{outer:List Env}{s:Shared}{H:Hp}{E:XK}
end
end L2
namespace L2
open PySem PySem.Spec PySem.W PyProof.Rows PySem.Calls PySem.Builtin PySem.Builtin.ObjectAttr PySem.Builtin.Getset_descriptor
def ZiR(e:Addr)(C:Value)(hp:Heap):Prop:=∃o:Obj,hp.get? e=some o/\o.cls=C
structure ExCls(K:PySem.W.Frag)(C:Addr):Prop where
 ex:excIn K C bmV "ValueError.__new__" = true
 ga:findIn K (.ref C) "__getattribute__" = some (some (.builtin "BaseException.__getattribute__"))
 mb:mroIn K C (.type "BaseException")=some true
 gt:findIn K (.ref C) "__getattr__" = some none
 ca:findIn K (.ref C) "__class__" = some (some (.builtin "object.__class__"))
 cg:specialIn K (.builtin "object.__class__") "__get__" = some (some (.builtin "getset_descriptor.__get__"))
 ct:takesIn K (.builtin "object.__class__")=some true
 mo:mroIn K C (.type "object")=some true
 cl:(clsIn K C).isSome=true
section
variable{P:Program}{w:World}{A:Around}{E:Value->Shared->Prop}{s:Shared}{K:PySem.W.Frag}{e C:Addr}
end
end L2
namespace L2
open PySem PySem.Spec PySem.W PyProof.Rows
theorem ObjOk.there{P:Program}{w:World}{H:Hp}{hp:Heap}{a:Addr}{o:HO}(x:ObjOk P w H hp a o):∃u,hp.get? a=some u:=by
 cases o with
 |lst xs=>obtain⟨_,_,_,_,e⟩:=x;exact⟨_,e⟩
 |tup xs=>obtain⟨_,_,_,ob,e,_⟩:=x;exact⟨_,e⟩
 |dK kvs=>obtain⟨_,_,_,_,o,_,_,e,_⟩:=x;exact⟨_,e⟩
 |dT kvs=>obtain⟨_,_,_,_,o,_,_,e,_⟩:=x;exact⟨_,e⟩
 |set S n=>obtain⟨o,_,_,_,e,_⟩:=x;exact⟨_,e⟩
 |ins C dx fs=>obtain⟨_,_,_,e,_⟩:=x;exact⟨_,e⟩
 |own y=>exact x
 |xd fs=>obtain⟨_,⟨_,_,_,e,_⟩,_⟩:=x;exact⟨_,e⟩
 |rng lo hi=>obtain⟨_,_,_,e⟩:=x;exact⟨_,e⟩
 |frz ob u=>obtain⟨e,_⟩:=x;exact⟨_,e⟩
 |tbl ps=>exact⟨_,x⟩
 |met f y=>exact⟨_,x⟩
 |ext φ=>exact x.2.1
section
variable{X:Cx}{pins:List (Addr×Obj)}{σ:St}{H H':Hp}{s s':Shared}{B hp:Heap}{ea:Addr}{C:Value}
end
section
variable{X:Cx}{E:XK}
end
end L2
namespace L2
open PySem PySem.Spec PySem.W PyProof.Rows
section
variable{X:Cx}{G:Addr}{g n:Str}{i:Nat}{body suite:List Stmt}{b₀:Stmt}{gp hpos pos:Pos}{tb:XK->TS}{ts:Addr->Addr->TS}
end
end L2
namespace DL
open PySem PySem.Spec L2
def spX(cA:Kn)(n:Nat)(m:List D->Option D)(x:List D->Option String):Sp:=λvs H Q E=>spD cA n m vs H Q E \/
 ∃(av:Addr->Prop) (ds:List D) (c:String),(∀a,av a->H a≠none)/\RepL cA av H ds vs/\ds.length=n/\x ds=some c/\∀H',Same H H'->E (.ref (cA.c c)) none H'
def VX(G:Cn)(ow:List Nat)(E:XK)(ts:TS)(χ:Env->Option String):Prop:=
 ∀H0 av A σ H δ,ER G ow H0 av A σ H δ->∀c,χ δ=some c->(∀H',Same H0 H'->E (.ref (G.1.c c)) none H')->∀De:Ends,ts De σ H
section
variable{cA:Kn}{G:Cn}{ow ow1 owB owC owN:List Nat}{E:XK}
end
section
variable{P:Program}{w:World}{K:PySem.W.Frag}{mg:Str->Option Value}{base:Heap}{cA:Kn}
end
end DL
namespace DL
open PySem PySem.Spec L2
def Zkp(K:PySem.W.Frag)(cA:Kn)(v:V)(tab:List (String×Bool)):Prop:=∀c b,tab.lookup c=some b->∃cv,(∀u,RelV v u->u=cv)/\kitOne K (.ref (cA.c c)) cv=some b
inductive IsiEs(K:PySem.W.Frag)(cA:Kn):List V->List (List (String×Bool))->Prop where
 |nil:IsiEs K cA [] []
 |cons {v:V} {t:List (String×Bool)} {vs:List V} {ts:List (List (String×Bool))}:Zkp K cA v t->IsiEs K cA vs ts->IsiEs K cA (v::vs) (t::ts)
section
variable{cA:Kn}{G:Cn}{ow owB owC:List Nat}
theorem ER.none{H0 H:Hp}{av:Addr->Prop}{A:Nat->Option Addr}{σ:L2.St}{δ:Env}{i:Nat}{x:Option V}(R:ER G ow H0 av A σ H δ)(hi:ow.contains i=false)(hn:G.2 i=Option.none):ER G ow H0 av A (σ.set i x) H (δ.set i Option.none):=
 ⟨R.same,R.avd,R.fr,R.inj,R.live,R.dom,R.dom',by rw [List.length_set,List.length_set];exact R.len,R.pin,(λj v' e=>by
   have q:j≠i:=λz=>by rw [z,hn]at e;cases e
   rw [List.getElem?_set_ne (Ne.symm q)];exact R.kept j v' e),λj d e=>by
   have hj:j≠i:=by
    intro z;subst z
    by_cases hl:j<δ.length
    · rw [List.getElem?_set_self hl]at e;cases e
    · rw [List.getElem?_eq_none (by rw [List.length_set];omega)]at e;cases e
   rw [List.getElem?_set_ne (Ne.symm hj)]at e;obtain⟨v,h1,h2⟩:=R.var j d e;exact⟨v,by rw [List.getElem?_set_ne (Ne.symm hj)];exact h1,h2⟩⟩
end
end DL
namespace L2
open PySem PySem.Spec PyProof.Rows
section
variable{X:Cx}
def Zgm(K:PySem.W.Frag):R2:=λx y H Q=>∃l b xs zs,x = .ref l/\y = .ref b/\SqL K H l xs/\SqL K H b zs/\xs.length+zs.length<=sizeLine/\∀p,H p=none->Q (.ref p) (upd H p (.lst (xs++zs)))
theorem ZfL:OpR X (binaryOp .Add) (Zgm X.K):=by
 intro pins s σ H x y v u Q I rx ry h;obtain⟨l,b,xs,zs,rfl,rfl,hH,hB,hz,q⟩:=h;cases rx;cases ry;obtain⟨its,r,pl,_⟩:=I.list hH;obtain⟨its2,r2,pl2,_⟩:=I.list hB;obtain⟨⟨c1,d1,da1,sl1⟩,n1,g1,e1,e2,e3⟩:=pl;obtain⟨⟨c2,d2,da2,sl2⟩,n2,g2,f1,f2,f3⟩:=pl2;dsimp only at e1 e2 e3 f1 f2 f3;subst e1 e2 e3 f1 f2 f3;have hl:=r.length;have hl2:=r2.length;refine concat_meets ⟨_,g1,rfl⟩ ⟨_,g2,rfl⟩ noFill_list_add seq_list_add PySem.F.slot_list_add PySem.F.entry_list_add (PySem.F.args_list_add_2 _ _) (list_addW l b its.toArray its2.toArray n1 n2 none none sl1 sl2 (by rw [List.size_toArray,List.size_toArray];omega)) ⟨g1,g2,?_⟩
 have ea:its.toArray++its2.toArray=(its++its2).toArray:=by simp
 rw [ea];exact⟨.ref _,_,I.lnew (t':=s.toks) (r.append r2) (by rw [List.length_append];omega),rfl,q _ I.fresh⟩
def Zfn(K:PySem.W.Frag):R2:=λx y H Q=>rI0 (λi j => .int (i+j)) x y H Q\/rAddS x y H Q\/Zgm K x y H Q
theorem ZfM:OpR X (binaryOp .Add) (Zfn X.K):=op_add.or (op_addS.or ZfL)
theorem Zg0{K:PySem.W.Frag}(hK:X.K=K:=by rfl):OpR X (binaryOp .Add) (Zfn K):=hK▸ZfM
end
end L2
namespace DL
open PySem PySem.Spec L2
section
variable{cA:Kn}{G:Cn}{ow owB owC:List Nat}
def JU:D->D->Option D
 | .lst a,.lst b=>if a.length+b.length<=sizeLine then some (.lst (a++b))else none
 |x,y=>addD x y
end
end DL
namespace L2
open PySem PySem.W
end L2
namespace DL
open L2
theorem VX.frz{G:Cn}{ow ow1:List Nat}{E:XK}{t:TS}{χ:Env->Option String}(i:Nat)(h:VX G ow1 E t χ)(hn:G.2 i=none)(h1:sub ow1 ow=true)(h2:ow1.contains i=false)(h3:sub ow (i::ow1)=true):VX G ow E t χ:=λH0 av A σ H δ R c e k De=>
 h H0 av _ σ H δ (R.freeze i (Zay h1 h2 h3) hn) c e k De
end DL
namespace L2
open PySem
end L2
namespace L2
open PySem
end L2
namespace L2
open PySem PySem.Spec PySem.W PyProof.Rows
section
variable{X:Cx}{e:Expr}{te:TE}{pos:Pos}
inductive PJ(X:Cx):List Expr->List TE->Prop where
 |nil:PJ X [] []
 |cons {e:Expr} {es:List Expr} {t:TE} {ts:List TE}:PE X e t->PJ X es ts->PJ X (e::es) (t::ts)
end
end L2
namespace DL
open PySem PySem.Spec L2
section
variable{G:Cn}{ow:List Nat}
inductive VJ(G:Cn)(ow:List Nat):List TE->List (Env->Option D)->Prop where
 |nil:VJ G ow [] []
 |cons {t:TE} {a:Env->Option D} {ts:List TE} {as:List (Env->Option D)}:VE G ow t .cl a->VJ G ow ts as->VJ G ow (t::ts) (a::as)
end
end DL
namespace L2
open PySem PySem.Spec PySem.W PyProof.Rows
section
variable{X:Cx}{E:XK}
end
end L2
namespace DL
open PySem PySem.Spec L2
abbrev XTab:=List (String×(Nat×(List D->Option D)×(List D->Option String)))
structure MethOkX(X:Cx)(cA:Kn)(k:Nat)(m:String)(c:String)(n:Nat)(mm:List D->Option D)(xm:List D->Option String):Prop where
 ex:∃f fd ps,Cls X.K (cA.c c)/\Meth X.K (cA.c c) (Str.ofString m) f/\FnOk X.prog X.w X.K X.mg X.base (CX1 X.prog X.w) k f fd ps (spX cA n mm xm)/\Binds X.K fd ps []
def MTOkX(X:Cx)(cA:Kn)(k:Nat)(m:String):XTab->Prop
 | []=>True
 |(c,n,mm,xm)::r=>MethOkX X cA k m c n mm xm/\MTOkX X cA k m r
theorem MTOkX.get{X:Cx}{cA:Kn}{k:Nat}{m:String}:∀{tab:XTab}{c:String}{n:Nat}{mm:List D->Option D}{xm:List D->Option String},MTOkX X cA k m tab->tab.lookup c=some (n,mm,xm)->MethOkX X cA k m c n mm xm
 | [],_,_,_,_,_,h=>by simp at h
 |(c',n',mm',xm')::r,c,n,mm,xm,T,h=>by
  rw [List.lookup_cons]at h;cases hc:c == c' with
  |true=>
   rw [hc]at h;cases h;have:c=c':=eq_of_beq hc;subst this;exact T.1
  |false=>
   rw [hc]at h;exact MTOkX.get T.2 h
section
variable{X:Cx}{cA:Kn}{k:Nat}{m:String}{tab:XTab}{o e:Expr}{es:List Expr}{ta:TE}{t:TA}{pos apos:Pos}{pl:Sem Bool}{E:XK}
end
section
variable{cA:Kn}{G:Cn}{ow ow1 owB owC owN:List Nat}{E:XK}
end
end DL
namespace L2
open PySem PySem.Spec PySem.W PyProof.Rows
theorem ZaL:∀(cs:List Nat)(its:List Value),its.length=cs.length->(∀(j:Nat)(v:Value),its[j]? = some v->∃(c:Nat) (u:Tok),cs[j]? = some c/\v=Value.str ⟨#[c]⟩ u)->Vals (cs.map λc=>S [c]) its
 | [],[],_,_ => .nil
 |c::cs,[],h,_=>by simp at h
 | [],v::its,h,_=>by simp at h
 |c::cs,v::its,h,k=>by
  refine .cons ?_ (ZaL cs its (by simpa using h) λj v hj=>by simpa using k (j+1) v (by simpa using hj));obtain⟨c',u,e1,e2⟩:=k 0 v rfl;cases e1;exact⟨u,e2⟩
def JV(K:PySem.W.Frag):List V->Hp->VK->Prop:=λxs H Q=>ZgU K xs H Q\/∃cs,xs=[S cs]/\cs.length<=sizeLine/\∀l,H l=none->Q (.ref l) (upd H l (.lst (cs.map λc=>S [c])))
theorem JW{X:Cx}{K:PySem.W.Frag}(hc:X.calm=true:=by rfl)(hK:X.K=K:=by rfl):YI X (.type "list") (JV K):=by
 subst hK;intro pins s σ H xs us Q I r h;rcases h with h|⟨cs,rfl,hz,q⟩
 · exact Zbx pins s σ H xs us Q I r h
 · obtain⟨u,rfl,rx⟩:=Y2 r
   obtain⟨t,rfl⟩:=rx;refine call_list_str (I.ok.hd hc) (tx cs) t (λh' tk acc' c' kp e hi => ?_) (by simpa using hz)
   have hv:Vals (cs.map λc=>S [c]) acc'.toList:=ZaL cs _ (by simpa using hi.1) λj v hj=>by
    obtain⟨c,u,e1,e2⟩:=hi.2 j v (by simpa using hj);exact⟨c,u,by simpa using e1,e2⟩
   exact⟨.ref s.heap.objs.size,_,I.laid (t':=tk) kp (Nat.le_refl _) (show ObjOk X.prog X.w _ h' _ (.lst _)from⟨by rw [List.length_map];exact hz,acc'.toList,c',hv,e⟩),rfl,q _ (I.hok.fresh (Nat.le_refl _))⟩
end L2
namespace DL
open PySem PySem.Spec L2
def V4:List D->Option D
 | [.str cs]=>if cs.length<=sizeLine then some (.lst (cs.map λc => .str [c]))else none
 |ds=>Zgk ds
section
variable{G:Cn}{ow:List Nat}
theorem ZaM{cA:Kn}{av:Addr->Prop}{H:Hp}:∀cs:List Nat,RepL cA av H (cs.map λc=>D.str [c]) (cs.map λc=>S [c])
 | [] => .nil
 |c::cs => .cons rfl (ZaM cs)
theorem Zcf{t:TA}{q:Ql}{α:Env->Option (List D)}(hq:q = .cl\/q = .tp)(h:VA G ow t q α):VF G ow (tCB (JV G.1.K) t) (eCB V4 α):=λH0 av A σ H δ E d e Q k=>by
 unfold eCB at e;cases he:α δ with
 |none=>rw [he]at e;cases e
 |some ds=>
  rw [he]at e;replace e:V4 ds=some d:=e;unfold V4 at e
  split at e
  · rename_i cs
    by_cases hz:cs.length<=sizeLine
    · rw [if_pos hz]at e
      cases e;refine h H0 av A σ H δ E _ he _ λvs H1 s1 r1 => ?_
      have il:VC G.1 (AV av A) H1 [.str cs] vs:=by
       rcases hq with rfl|rfl<;>exact r1.il
      obtain⟨v,t,rfl,hx⟩:=il1 il;cases(show v=_ from hx);exact .inr ⟨cs,rfl,hz,λp hp=>k p _ _ H1 s1 hp (ZaM cs) rfl⟩
    · rw [if_neg hz]at e;cases e
  · exact h H0 av A σ H δ E _ he _ fun vs H1 s1 r1 => by
     have il:VC G.1 (AV av A) H1 ds vs:=by
      rcases hq with rfl|rfl<;>exact r1.il
     refine .inl ?_;unfold Zgk at e
     split at e
     · rename_i xs
       cases e;obtain⟨v,t,rfl,a,ws,rfl,_,rd,l⟩:=il1 il;exact⟨a,ws,rfl,.inl rd,λp hp=>k p ws _ H1 s1 hp l rfl⟩
     · rename_i xs
       cases e;obtain⟨v,t,rfl,a,ws,rfl,_,rd,l⟩:=il1 il;exact⟨a,ws,rfl,.inr (SqT.of rd),λp hp=>k p ws _ H1 s1 hp l rfl⟩
     · cases e
end
end DL
namespace L2
open PySem PySem.Spec PySem.W PyProof.Rows
structure RoomE(k:Nat)(A:Around):Prop where
 dp:A.depth+3*k+5<recursionLimit
 un:A.units+16*k+200<cLine
structure FnOkE(P:Program)(w:World)(K:PySem.W.Frag)(mg:Str->Option Value)(base:Heap)(k:Nat)(f:Addr)(fd:FuncData)(ps:List Str)(sp:List V->Hp->VK->Prop):Prop where
 len:∀vs H Q,sp vs H Q->vs.length=ps.length
 run:∀(A:Around)(outer:List PySem.Env)(s:Shared)(H:Hp)(args:Args)(us:List Value)(vs:List V)(Q:VK),RoomE k A->Env0 P w K mg base A outer s H->BindsTo s fd args (ps.zip us)->Vals vs us->sp vs H Q ->
  codeAny (model P w) A (.call (.ref f) args) (CR CX0 outer P w H s Q E0) s
end L2
namespace DL
open PySem PySem.Spec L2
def Zg1(K:PySem.W.Frag)(cA:Kn)(i:Nat)(mk:Addr->Addr->TE)(tab:List (String×Bool)):Prop:=∀(c:String)(b:Bool)(ea:Addr)(σ:L2.St)(H:Hp)(Q:VK),ExCls K (cA.c c)->tab.lookup c=some b->σ[i]? = some (some (.ref ea))->H ea=some (.ext (ZiR ea (.ref (cA.c c))))->(∀H',Same H H'->Q (.bl b) H')->mk (cA.c c) ea σ H Q
inductive Items(K:PySem.W.Frag)(cA:Kn)(i:Nat):List (Addr->Addr->TE)->List (List (String×Bool))->Prop where
 |nil:Items K cA i [] []
 |cons {m:Addr->Addr->TE} {t:List (String×Bool)} {ms:List (Addr->Addr->TE)} {ts:List (List (String×Bool))}:Zg1 K cA i m t->Items K cA i ms ts->Items K cA i (m::ms) (t::ts)
section
variable{cA:Kn}{G:Cn}{ow owB owC:List Nat}
end
end DL
namespace L2
open PySem PySem.Spec PyProof.Rows
section
variable{X:Cx}{elts:List Expr}{x1:Nat}{tpos:Pos}
end
end L2
namespace DL
open PySem PySem.Spec L2
def XC:List D->List D->List D
 |x::xs,y::ys => .tup [x,y]::XC xs ys
 |_,_=>[]
theorem JX:∀xs ys:List D,(XC xs ys).length=min xs.length ys.length
 | [],_=>by simp [XC]
 |_::_,[]=>by simp [XC]
 |x::xs,y::ys=>by rw [XC,List.length_cons,List.length_cons,List.length_cons,JX xs ys];omega
theorem Zcg:∀(xs ys:List D)(i:Nat)(x y:D),xs[i]? = some x->ys[i]? = some y->(XC xs ys)[i]? = some (.tup [x,y])
 | [],_,i,x,y,h,_=>by simp at h
 |_::_,[],i,x,y,_,h=>by simp at h
 |x0::xs,y0::ys,0,x,y,h1,h2=>by simp at h1 h2;rw [h1,h2];rfl
 |x0::xs,y0::ys,i+1,x,y,h1,h2=>by
  rw [XC,List.getElem?_cons_succ];exact Zcg xs ys i x y (by simpa using h1) (by simpa using h2)
section
variable{cA:Kn}{G:Cn}{ow:List Nat}
end
end DL
namespace DL
open PySem PySem.Spec L2
def mat(rows:List (List D)):D := .lst (rows.map D.lst)
structure Mx(H:Hp)(a:Addr)(bs:List Addr)(rows:List (List D)):Prop where
 top:H a=some (.lst (bs.map V.ref))
 len:bs.length=rows.length
 nd:bs.Nodup
 na:a∉bs
 row:∀(k:Nat)(b:Addr)(r:List D),bs[k]? = some b->rows[k]? = some r->H b=some (.lst (r.map val))
 sc:∀r∈rows,r.all Yg=true
section
variable{H H':Hp}{a:Addr}{bs:List Addr}{rows:List (List D)}
theorem Mx.mem(M:Mx H a bs rows){b:Addr}(h:b∈bs):∃r∈rows,H b=some (.lst (r.map val)):=by
 obtain⟨k,hk,e⟩:=List.mem_iff_getElem.mp h;have hk2:k<rows.length:=by rw [<-M.len];exact hk
 exact⟨rows[k],List.getElem_mem hk2,M.row k b _ (by rw [List.getElem?_eq_getElem hk,e]) (List.getElem?_eq_getElem hk2)⟩
theorem Mx.there(M:Mx H a bs rows){x:Addr}(h:x∈a::bs):∃vs,H x=some (.lst vs):=by
 rcases List.mem_cons.mp h with rfl|h
 · exact⟨_,M.top⟩
 · obtain⟨r,_,e⟩:=M.mem h
   exact⟨_,e⟩
theorem Mx.mono(M:Mx H a bs rows)(k:Same H H'):Mx H' a bs rows:=⟨k _ _ M.top,M.len,M.nd,M.na,λn b r h1 h2=>k _ _ (M.row n b r h1 h2),M.sc⟩
theorem Mx.rep{cA:Kn}{av:Addr->Prop}(M:Mx H a bs rows)(hn:∀x∈a::bs,¬av x):Rep cA av H (mat rows) (.ref a):=by
 have go:∀(bs:List Addr)(rows:List (List D)),bs.length=rows.length->(∀x∈bs,¬av x)->(∀(k:Nat)(b:Addr)(r:List D),bs[k]? = some b->rows[k]? = some r->H b=some (.lst (r.map val)))->(∀r∈rows,r.all Yg=true)->RepL cA av H (rows.map D.lst) (bs.map V.ref):=by
  intro bs
  induction bs with
  |nil=>
   intro rows hl _ _ _;cases rows with
   |nil=>exact .nil
   |cons _ _=>simp at hl
  |cons b bs ih=>
   intro rows hl hn hr hs;cases rows with
   |nil=>simp at hl
   |cons r rows=>
    refine .cons ?_ (ih rows (by simpa using hl) (λx hx=>hn x (List.mem_cons_of_mem _ hx)) (λk b r h1 h2=>hr (k+1) b r (by simpa using h1) (by simpa using h2)) λr hr=>hs r (List.mem_cons_of_mem _ hr));unfold Rep;exact⟨b,r.map val,rfl,λz=>(hn b List.mem_cons_self z).elim,SqL.of (hr 0 b r rfl rfl),.of_vals (hs r List.mem_cons_self)⟩
 unfold mat Rep;exact⟨a,bs.map V.ref,rfl,λz=>(hn a List.mem_cons_self z).elim,SqL.of M.top,go bs rows M.len (λx hx=>hn x (List.mem_cons_of_mem _ hx)) M.row M.sc⟩
end
open Classical in
noncomputable def ovl(H0 H:Hp)(F:List Addr):Hp:=λx=>if x∈F then H x else H0 x
theorem QO{H0 H:Hp}{F:List Addr}{x:Addr}(h:x∈F):ovl H0 H F x=H x:=if_pos h
theorem U3{H0 H:Hp}{F:List Addr}{x:Addr}(h:x∉F):ovl H0 H F x=H0 x:=if_neg h
abbrev Cn.keep(G:Cn)(i:Nat)(v:V):Cn:=⟨G.1,λj=>if j=i then some (.inr v)else G.2 j⟩
abbrev avF(av:Addr->Prop)(F:List Addr):Addr->Prop:=λx=>av x\/x∈F
def PinOk(G:Cn)(i:Nat)(σ:L2.St):Prop:=∀z,G.2 i=some z->∃v,z = .inr v/\σ[i]? = some (some v)
theorem PinOk.none{G:Cn}{i:Nat}{σ:L2.St}(h:G.2 i=Option.none):PinOk G i σ:=λz e=>by rw [h]at e;cases e
theorem PinOk.set{G:Cn}{i k:Nat}{σ:L2.St}{x:Option V}(h:PinOk G i σ)(hk:k≠i):PinOk G i (σ.set k x):=λz e=>by
 obtain⟨v,h1,h2⟩:=h z e;exact⟨v,h1,by rw [List.getElem?_set_ne hk];exact h2⟩
structure MR(G:Cn)(ow:List Nat)(i:Nat)(H0:Hp)(av:Addr->Prop)(A:Nat->Option Addr)(σ:L2.St)(H:Hp)(δ:Env):Prop where
 ni:i∉ow
 nn:PinOk G i σ
 avd:∀x,av x->H0 x≠none
 ex:∃a bs rows,δ[i]? = some (some (mat rows))/\Mx H a bs rows/\(∀x∈a::bs,H0 x=none)/\ER (G.keep i (.ref a)) ow (ovl H0 H (a::bs)) (avF av (a::bs)) A σ H (δ.set i none)
section
variable{cA:Kn}{G:Cn}{ow owN owB owC ow1:List Nat}{i:Nat}{H0 H H':Hp}{av:Addr->Prop}{A:Nat->Option Addr}{σ:L2.St}{δ:Env}
theorem Zc9{j:Nat}{v:V}(h:j≠i):(G.keep i v).2 j=G.2 j:=if_neg h
theorem Zer{a:Addr}{bs:List Addr}{rows:List (List D)}(M:Mx H a bs rows)(k:Same H H'):ovl H0 H' (a::bs)=ovl H0 H (a::bs):=by
 funext x
 by_cases h:x∈a::bs
 · rw [QO h,QO h]
   obtain⟨vs,q⟩:=M.there h;rw [q,k _ _ q]
 · rw [U3 h,U3 h]
theorem MR.set{k:Nat}{d:D}(R:MR G ow i H0 av A σ H δ)(hs:Yg d=true)(hk:k≠i)(hw:∀j,j∈owN ↔ j∈ow/\j≠k)(hn:G.2 k=none):MR G owN i H0 av (λj=>if j=k then none else A j) (σ.set k (some (val d))) H (δ.set k (some d)):=by
 obtain⟨a,bs,rows,hd,M,h0,E⟩:=R.ex;refine⟨λz=>R.ni ((hw i).mp z).1,R.nn.set hk,R.avd,a,bs,rows,by rw [List.getElem?_set_ne hk];exact hd,M,h0,?_⟩;rw [List.set_comm _ _ hk];exact E.set (.of_val hs) hw (by rw [Zc9 hk];exact hn)
theorem MR.turn {a:Addr} {bs:List Addr} {rows rows':List (List D)} (ni:i∉ow) (nn:PinOk G i σ) (havd:∀x,av x->H0 x≠none) (hd:δ[i]? = some (some (mat rows))) (M:Mx H a bs rows) (h0:∀x∈a::bs,H0 x=none) (E:ER (G.keep i (.ref a)) ow (ovl H0 H (a::bs)) (avF av (a::bs)) A σ H (δ.set i none))
 (M':Mx H' a bs rows') (hk:∀x,x∉a::bs->H' x=H x):MR G ow i H0 av A σ H' (δ.set i (some (mat rows'))):=by
 have hil:i<δ.length:=(List.getElem?_eq_some_iff.mp hd).1
 have nF:∀j x,A j=some x->x∉a::bs:=λj x e z=>by
  have:=E.fr j x e;rw [QO z]at this;obtain⟨vs,q⟩:=M.there z;rw [q]at this;cases this
 refine⟨ni,nn,havd,a,bs,rows',List.getElem?_set_self hil,M',h0,?_⟩;have e1:(δ.set i (some (mat rows'))).set i none=δ.set i none:=List.set_set ..;rw [e1];refine⟨λb o e => ?_,λx z => ?_,λj x e => ?_,E.inj,λj x e => ?_,E.dom,E.dom',E.len,E.pin,E.kept,λj d e => ?_⟩
 · by_cases h:b∈a::bs
   · rw [QO h]at e;exact e
   · rw [U3 h]at e
     rw [hk b h];exact E.same b o (by rw [U3 h];exact e)
 · by_cases h:x∈a::bs
   · rw [QO h]
     obtain⟨vs,q⟩:=M'.there h;rw [q];exact λz=>by cases z
   · rw [U3 h]
     exact havd x (z.resolve_right h)
 · have:=E.fr j x e
   rw [U3 (nF j x e)]at this ⊢;exact this
 · rw [hk x (nF j x e)]
   exact E.live j x e
 · have ex : ∀ b o, ¬ AV (avF av (a :: bs)) A b -> H b = some o -> H' b = some o := fun b o n e => by
    rw [hk b λz=>n (.inl (.inr z))];exact e
   obtain⟨v,h1,h2,h3⟩:=E.var j d e;refine⟨v,h1,λz=>(h2 z).ext ex,λb z => ?_⟩;obtain⟨r1,r2⟩:=h3 b z;refine⟨r1,?_⟩;cases d with
   |lst xs=>obtain⟨vs,q1,q2⟩:=r2;exact⟨vs,by rw [hk b (nF j b z)];exact q1,q2.ext ex⟩
   |obj c ks xs=>obtain⟨dx,vs,q1,q0,q2⟩:=r2;exact⟨dx,vs,by rw [hk b (nF j b z)];exact q1,q0,q2.ext ex⟩
   |dct ks xs=>obtain⟨vs,q1,q0,q2⟩:=r2;exact⟨vs,by rw [hk b (nF j b z)];exact q1,q0,q2.ext ex⟩
   |dtt ks xs=>obtain⟨vs,q1,q0,q2⟩:=r2;exact⟨vs,by rw [hk b (nF j b z)];exact q1,q0,q2.ext ex⟩
   |_=>exact r2
end
end DL
namespace DL
open PySem PySem.Spec L2
section
variable{cA:Kn}{G:Cn}{ow owN owB owC ow1:List Nat}{i:Nat}
end
end DL
namespace DL
open PySem PySem.Spec L2
section
variable{H:Hp}{a b:Addr}{bs:List Addr}{rows:List (List D)}{j:Nat}{r r':List D}
theorem Mx.at(M:Mx H a bs rows)(hr:rows[j]? = some r):∃b,bs[j]? = some b/\H b=some (.lst (r.map val)):=by
 have hjl:j<bs.length:=by rw [M.len];exact(List.getElem?_eq_some_iff.mp hr).1
 exact⟨bs[j],List.getElem?_eq_getElem hjl,M.row j _ r (List.getElem?_eq_getElem hjl) hr⟩
end
section
variable{cA:Kn}{G:Cn}{ow owN owB owC ow1:List Nat}{i:Nat}
end
end DL
namespace DL
open PySem PySem.Spec L2
def VFM(G:Cn)(ow:List Nat)(te:TE)(ε:Env->Option D):Prop:=
 ∀H0 av A σ H δ,ER G ow H0 av A σ H δ->∀d,ε δ=some d->∀Q:VK,(∀a bs rows H',Same H H'->(∀x∈a::bs,H x=none)->Mx H' a bs rows->d=mat rows->Q (.ref a) H')->te σ H Q
section
variable{cA:Kn}{G:Cn}{ow owN owB owC ow1:List Nat}{i:Nat}
theorem VFM.cl{te:TE}{ε:Env->Option D}(h:VFM G ow te ε):VE G ow te .cl ε:=λH0 av A σ H δ E d e Q k=>
 h H0 av A σ H δ E d e Q λa bs rows H' s hf M hd=>by
  subst hd;exact k _ H' s (M.rep λx hx z=>E.avl x z (hf x hx)).t
end
section
variable{P:Program}{w:World}{K:PySem.W.Frag}{mg:Str->Option Value}{base:Heap}{cA:Kn}
end
end DL
namespace DL
open PySem PySem.Spec L2
section
variable{cA:Kn}{G:Cn}{ow:List Nat}
structure RowsAt(H0 H:Hp)(bs:List Addr)(rows:List (List D)):Prop where
 len:bs.length=rows.length
 nd:bs.Nodup
 row:∀(k:Nat)(b:Addr)(r:List D),bs[k]? = some b->rows[k]? = some r->H b=some (.lst (r.map val))
 fr:∀b∈bs,H0 b=none
 sc:∀r∈rows,r.all Yg=true
theorem RowsAt.same{H0 H H':Hp}{bs:List Addr}{rows:List (List D)}(R:RowsAt H0 H bs rows)(s:Same H H'):RowsAt H0 H' bs rows:=⟨R.len,R.nd,λk b r h1 h2=>s _ _ (R.row k b r h1 h2),R.fr,R.sc⟩
end
end DL
namespace DL
open PySem PySem.Spec L2
section
variable{cA:Kn}{G:Cn}{ow owN owB owC ow1:List Nat}{i:Nat}
open Classical in
end
section
variable{P:Program}{w:World}{K:PySem.W.Frag}{mg:Str->Option Value}{base:Heap}{cA:Kn}
end
end DL
namespace L2
open PySem PySem.Spec PySem.W PyProof.Rows
theorem ZiS {X:Cx} {K:PySem.W.Frag} {o:Expr} {to:TE} {name:Str} {apos cpos:Pos} {T id:String} {r:V->List V->Hp->VK->Prop} (pa:PlainAttrs T) (slot:Slot T name id) (hty:typeOf (.builtin id)=pure (.type "method_descriptor")) (hm:MtR X id r) (ho:PE X o to)
 (hbase:attributeBase o name X.env (eval o X.env)=eval o X.env:=by rfl) (hline:(apos.endLine == cpos.line)=true:=by rfl) (hK:X.K=K:=by rfl):PE X (.Call (.Attribute o name apos) [] [] cpos) (Zil K T r to):=hK▸ZgQ pa slot hty hm ho hbase hline
end L2
namespace DL
open PySem PySem.Spec L2
section
variable{cA:Kn}{G:Cn}{ow owN owB owC ow1:List Nat}{i:Nat}
theorem MR.own{H0 H:Hp}{av:Addr->Prop}{A:Nat->Option Addr}{σ:L2.St}{δ:Env}{k:Nat}{xs:List D}{p:Addr}(R:MR G ow i H0 av A σ H δ)(hs:xs.all Yg=true)(hp:H p=none)(hk:k≠i)(hw:∀j,j∈ow1 ↔ j∈ow\/j=k)(hn:G.2 k=none):MR G ow1 i H0 av (λj=>if j=k then some p else A j) (σ.set k (some (.ref p))) (upd H p (.lst (xs.map val))) (δ.set k (some (.lst xs))):=by
 obtain⟨a,bs,rows,hd,M,h0,E⟩:=R.ex;refine⟨λz=>((hw i).mp z).elim R.ni λz=>hk z.symm,R.nn.set hk,R.avd,a,bs,rows,by rw [List.getElem?_set_ne hk];exact hd,M.mono (YL hp),h0,?_⟩;rw [List.set_comm _ _ hk,Zer M (YL hp)];exact E.own hp (.of_vals hs) hw (by rw [Zc9 hk];exact hn)
end
end DL
namespace DL
open PySem PySem.Spec L2
section
variable{cA:Kn}{av:Addr->Prop}{H:Hp}
end
section
variable{G:Cn}{ow owN owB owC ow1:List Nat}{H0 H:Hp}{av:Addr->Prop}{A:Nat->Option Addr}{σ:L2.St}{δ:Env}
end
end DL
namespace L2
open PySem
end L2
namespace DL
open PySem PySem.Spec L2
section
variable{G:Cn}{ow owN owB owC ow1:List Nat}
end
section
variable{cA:Kn}{G:Cn}{ow owN owB owC ow1:List Nat}{i:Nat}
end
section
variable{P:Program}{w:World}{K:PySem.W.Frag}{mg:Str->Option Value}{base:Heap}{cA:Kn}
open Classical in
end
end DL
namespace L2
open PySem PySem.Spec PyProof.Rows
section
variable{X:Cx}
end
end L2
namespace DL
open PySem PySem.Spec L2
section
variable{cA:Kn}{G:Cn}{ow owN owB owC ow1:List Nat}{i:Nat}
mutual
def frz:D->Bool
 | .non=>true
 | .bl _=>true
 | .int _=>true
 | .str _=>true
 | .lst _=>false
 | .tup xs=>frzL xs
 | .obj _ _ xs=>frzL xs
 | .dct _ _=>false
 | .dtt _ _=>false
def frzL:List D->Bool
 | []=>true
 |x::xs=>frz x&&frzL xs
end
mutual
theorem Rep.frz{av av':Addr->Prop}{H:Hp}:∀{d:D}{v:V},frz d=true->(∀b,av' b->av b\/∃vs,H b=some (.lst vs))->Rep cA av H d v->Rep cA av' H d v
 | .non,_,_,_,h=>h
 | .bl _,_,_,_,h=>h
 | .int _,_,_,_,h=>h
 | .str _,_,_,_,h=>h
 | .lst xs,v,hf,k,h=>by cases hf
 | .tup xs,v,hf,k,h=>by
  unfold DL.frz at hf;unfold Rep at h ⊢;obtain⟨a,vs,e,n,r,l⟩:=h;exact⟨a,vs,e,λz=>(k a z).elim n (by rw [r];exact λ⟨_,z⟩=>by cases z),r,RepL.frz hf k l⟩
 | .obj c ks xs,v,hf,k,h=>by
  unfold DL.frz at hf;unfold Rep at h ⊢;obtain⟨a,dx,vs,e,n,r,z,l⟩:=h;exact⟨a,dx,vs,e,λz=>(k a z).elim n (by rw [r];exact λ⟨_,z⟩=>by cases z),r,z,RepL.frz hf k l⟩
 | .dct ks xs,v,hf,k,h=>by cases hf
 | .dtt ks xs,v,hf,k,h=>by cases hf
theorem RepL.frz{av av':Addr->Prop}{H:Hp}:∀{xs:List D}{vs:List V},frzL xs=true->(∀b,av' b->av b\/∃vs,H b=some (.lst vs))->RepL cA av H xs vs->RepL cA av' H xs vs
 | [],_,_,_,h=>h
 |x::xs,vs,hf,k,h=>by
  unfold DL.frzL at hf;rw [Bool.and_eq_true]at hf;unfold RepL at h ⊢;obtain⟨v,r,e,h1,h2⟩:=h;exact⟨v,r,e,Rep.frz hf.1 k h1,RepL.frz hf.2 k h2⟩
end
end
end DL
namespace PySem
open Sem (wp)
section
variable{prog:Program}{w:World}{A:Around}{E:Value->Shared->Prop}{s:Shared}
theorem ZbT {j t:Addr} {i:Nat} {xs:Array Value} {x:Value} {Q:Value->Shared->Prop} (hj:s.heap.IsTupleIter j t i) (ht:s.heap.IsTuple t xs) (hx:xs[i]? = some x)
 (hQ:∀h',h'.IsTupleIter j t (i+1)->Heap.SameBut j s.heap h'->Q x { s with heap:=h' }):wpAny (model prog w) A (Builtin.SmallTypes.nextOf (.ref j)) Q E s:=by
 obtain⟨oj,gj,cj,dj⟩:=id hj;obtain⟨ot,gt,_,nt,dt⟩:=ht;unfold Builtin.SmallTypes.nextOf;refine wpAny_bind (wpAny_callSpecial?_slot (name:=Str.ofString "__next__") hj.typeIs F.slot_tuple_iterator_next (wpAny_call_entry F.slot_tuple_iterator_next hj.typeIs F.entry_tuple_iterator_next ?_ (F.args_tuple_iterator_next_1 _)));show wpAny _ _ (field (.ref j) 0 >>= _) _ _ s;refine wpAny_bind (wpAny_field gj dj (x:=.ref t) rfl ?_)
 show wpAny _ _ (if(Value.ref t == Value.none)=true then _ else _) _ _ _;rw [if_neg (show ¬(Value.ref t == Value.none)=true from λz=>Bool.false_ne_true z)];show wpAny _ _ (field (.ref j) 1 >>= _) _ _ s;refine wpAny_bind (wpAny_field gj dj (x:=.int i 0) rfl ?_);show wpAny _ _ (seqItems? (.ref t) >>= _) _ _ _;refine wpAny_bind (wpAny_seqItems gt dt ?_);simp only [Int.toNat_natCast,hx];refine wpAny_bind (wpAny_setField gj dj (by simp) (wpAny_pure ⟨x,rfl,wpAny_pure (hQ _ ?_ (Heap.SameBut.update ..))⟩))
 refine⟨_,Heap.get?_update_self _ gj (Obj.isFreed_of_fields (Obj.data_mapFields dj _)),(Obj.cls_mapFields ..).trans cj,?_⟩;rw [Obj.data_mapFields dj];simp [rawInt]
theorem ZbU {j t:Addr} {i:Nat} {xs:Array Value} {Q:Value->Shared->Prop} (hh:A.handled=none) (hj:s.heap.IsTupleIter j t i) (ht:s.heap.IsTuple t xs) (hx:xs[i]? = none)
 (hE:∀h' e,Heap.ExtBut j s.heap h'->(∃o,h'.get? e=some o/\o.cls = .type "StopIteration")->E (.ref e) { s with heap:=h' }):wpAny (model prog w) A (Builtin.SmallTypes.nextOf (.ref j)) Q E s:=by
 obtain⟨oj,gj,cj,dj⟩:=id hj;obtain⟨ot,gt,_,nt,dt⟩:=ht;unfold Builtin.SmallTypes.nextOf;refine wpAny_bind (wpAny_callSpecial?_slot (name:=Str.ofString "__next__") hj.typeIs F.slot_tuple_iterator_next (wpAny_call_entry F.slot_tuple_iterator_next hj.typeIs F.entry_tuple_iterator_next ?_ (F.args_tuple_iterator_next_1 _)));show wpAny _ _ (field (.ref j) 0 >>= _) _ _ s;refine wpAny_bind (wpAny_field gj dj (x:=.ref t) rfl ?_)
 show wpAny _ _ (if(Value.ref t == Value.none)=true then _ else _) _ _ _;rw [if_neg (show ¬(Value.ref t == Value.none)=true from λz=>Bool.false_ne_true z)];show wpAny _ _ (field (.ref j) 1 >>= _) _ _ s;refine wpAny_bind (wpAny_field gj dj (x:=.int i 0) rfl ?_);show wpAny _ _ (seqItems? (.ref t) >>= _) _ _ _;refine wpAny_bind (wpAny_seqItems gt dt ?_);simp only [Int.toNat_natCast,hx];refine wpAny_bind (wpAny_rule (wpAny_bind (wpAny_setField gj dj (by simp) ?_)))
 show wpAny _ _ (newExc (.type "StopIteration") List.nil >>= _) _ _ _;refine wpAny_bind ?_;simp only [newExc,newTuple];refine wpAny_bind (wpAny_newObj_type (wpAny_bind (m:=firstArgMember _ _) (wpAny_of_eq (a:=Value.none) (by first|rfl|(simp only [firstArgMember];rfl)) (wpAny_newObj_type ?_ (by size_fits)))) (by size_fits));simp only [raiseNew];refine wpAny_bind (wpAny_handled ?_)
 first|rw [show A.in1.handled=none from hh]|rw [hh]
 exact wpAny_bind (wpAny_pure (wpAny_throw (hE _ _ (((Heap.SameBut.update ..).extBut.push _).push _) ⟨_,Heap.get?_push_size _ rfl,rfl⟩)))
end
def IsQI(k:Bool)(h:Heap)(a l:Addr)(i:Nat):Prop:=match k with
 |true=>h.IsTupleIter a l i
 |false=>h.IsListIter a l i
def IsQ(k:Bool)(h:Heap)(l:Addr)(xs:Array Value):Prop:=match k with
 |true=>h.IsTuple l xs
 |false=>h.IsList l xs
theorem IsQI.get{k:Bool}{h:Heap}{a l:Addr}{i:Nat}(x:IsQI k h a l i):∃o,h.get? a=some o/\o.data = .fields #[.ref l,.int i 0]:=by
 cases k with
 |true=>obtain⟨o,e,_,d⟩:=x;exact⟨o,e,d⟩
 |false=>obtain⟨o,e,_,d⟩:=x;exact⟨o,e,d⟩
theorem IsQI.at{k:Bool}{h h':Heap}{a l:Addr}{i:Nat}(x:IsQI k h a l i)(f:∀o,h.get? a=some o->h'.get? a=some o):IsQI k h' a l i:=by
 cases k with
 |true=>obtain⟨o,e,r⟩:=x;exact⟨o,f o e,r⟩
 |false=>obtain⟨o,e,r⟩:=x;exact⟨o,f o e,r⟩
theorem IsQI.ext{k:Bool}{h h':Heap}{a b l:Addr}{i:Nat}(x:IsQI k h a l i)(hs:Heap.ExtBut b h h')(n:a≠b):IsQI k h' a l i:=x.at λo e=>hs a o n e
theorem IsQ.at{k:Bool}{h h':Heap}{l:Addr}{xs:Array Value}(x:IsQ k h l xs)(f:∀o,h.get? l=some o->h'.get? l=some o):IsQ k h' l xs:=by
 cases k with
 |true=>obtain⟨o,e,r⟩:=x;exact⟨o,f o e,r⟩
 |false=>obtain⟨o,e,r⟩:=x;exact⟨o,f o e,r⟩
theorem IsQ.ext{k:Bool}{h h':Heap}{b l:Addr}{xs:Array Value}(x:IsQ k h l xs)(hs:Heap.ExtBut b h h')(n:l≠b):IsQ k h' l xs:=x.at λo e=>hs l o n e
theorem IsQ.lt{k:Bool}{h:Heap}{l:Addr}{xs:Array Value}(x:IsQ k h l xs):l<h.objs.size:=by
 cases k with
 |true=>obtain⟨o,e,_⟩:=x;exact Heap.lt_size e
 |false=>obtain⟨o,e,_⟩:=x;exact Heap.lt_size e
section
variable{prog:Program}{w:World}{A:Around}{E:Value->Shared->Prop}{s:Shared}
theorem Zan {k:Bool} {j t:Addr} {i:Nat} {xs:Array Value} {x:Value} {Q:Value->Shared->Prop} (hj:IsQI k s.heap j t i) (ht:IsQ k s.heap t xs) (hx:xs[i]? = some x)
 (hQ:∀h',IsQI k h' j t (i+1)->Heap.SameBut j s.heap h'->Q x { s with heap:=h' }):wpAny (model prog w) A (Builtin.SmallTypes.nextOf (.ref j)) Q E s:=by
 cases k with
 |true=>exact ZbT hj ht hx hQ
 |false=>exact wpAny_nextOf_list_item hj ht hx hQ
theorem Zbk {k:Bool} {j t:Addr} {i:Nat} {xs:Array Value} {Q:Value->Shared->Prop} (hh:A.handled=none) (hj:IsQI k s.heap j t i) (ht:IsQ k s.heap t xs) (hx:xs[i]? = none)
 (hE:∀h' e,Heap.ExtBut j s.heap h'->(∃o,h'.get? e=some o/\o.cls = .type "StopIteration")->E (.ref e) { s with heap:=h' }):wpAny (model prog w) A (Builtin.SmallTypes.nextOf (.ref j)) Q E s:=by
 cases k with
 |true=>exact ZbU hh hj ht hx hE
 |false=>exact wpAny_nextOf_list_end hh hj ht hx hE
theorem ZdK {p q:Bool} {z TI TO i1 i2 l1 l2:Addr} {k1 k2:Nat} {xs ys:Array Value} {x y a b:Value} {Q:Value->Shared->Prop} (D:ZipApart z TI TO i1 i2 l1 l2)
 (gz:IsZip s.heap z TI TO .none) (gI:IsPair s.heap TI (.ref i1) (.ref i2)) (gO:IsPair s.heap TO a b) (u1:IsQI p s.heap i1 l1 k1) (u2:IsQI q s.heap i2 l2 k2) (m1:IsQ p s.heap l1 xs) (m2:IsQ q s.heap l2 ys) (hx:xs[k1]? = some x) (hy:ys[k2]? = some y)
 (hQ:∀h',IsZip h' z TI TO (rawInt s.heap.objs.size)->IsPair h' TO x y->IsQI p h' i1 l1 (k1+1)->IsQI q h' i2 l2 (k2+1)->IsPair h' s.heap.objs.size x y->h'.objs.size=s.heap.objs.size+1->(∀c o,c≠z->c≠TO->c≠i1->c≠i2->s.heap.get? c=some o->h'.get? c=some o)->Q (.ref s.heap.objs.size) { s with heap:=h' }) :
 wpAny (model prog w) A (Builtin.«zip.__next__» ⟨[.ref z],[]⟩) (λfin s'=>∃v,fin = .done (.ret v)/\Q v s') E s:=by
 show wpAny _ _ (field (.ref z) 2 >>= λ_=>_) _ _ _;refine wpAny_bind (wpAny_field gz rfl (x:=.bool false) rfl ?_);show wpAny _ _ (field (.ref z) 3 >>= λ_=>_) _ _ _;refine wpAny_bind (wpAny_field gz rfl (x:=.ref TI) rfl (wpAny_bind (wpAny_seqItems gI rfl ?_)));show wpAny _ _ (Builtin.SmallTypes.ownedTupleIsFree (.ref z) >>= λ_=>_) _ _ _;unfold Builtin.SmallTypes.ownedTupleIsFree;refine wpAny_bind (wpAny_bind (wpAny_field gz rfl (x:=.none) rfl (wpAny_pure ?_)))
 simp only [if_true];refine wpAny_bind (wpAny_rule (wpAny_bind (wpAny_field gz rfl (x:=.ref TO) rfl (wpAny_bind (wpAny_setField_rec gz (by simp) λh₁ gz₁ s₁ => ?_)))));have gz₁:IsZip h₁ z TI TO .ellipsis:=gz₁;refine wpAny_bind ?_;simp only [List.zipIdx_cons,List.forIn_cons,List.zipIdx_nil,List.forIn_nil];refine wpAny_bind (wpAny_bind (wpAny_onRaise (wpAny_bind (m:=Builtin.SmallTypes.nextOf (.ref i1)) (Zan (u1.ext s₁.extBut D.i1z) (m1.ext s₁.extBut D.l1z) hx λh₂ u1₂ s₂=>wpAny_pure ?_))))
 have gO₂:IsPair h₂ TO a b:=s₂.extBut _ _ D.TOi1 (s₁.extBut _ _ D.TOz gO);refine wpAny_bind (wpAny_seqItems gO₂ rfl (wpAny_bind (wpAny_updateSeq_pair gO₂ λh₃ gO₃ s₃ => ?_)));have gO₃:IsPair h₃ TO x b:=gO₃;refine wpAny_bind (wpAny_letGo (wpAny_pure ?_));refine wpAny_bind (wpAny_bind (wpAny_onRaise (wpAny_bind (m:=Builtin.SmallTypes.nextOf (.ref i2)) (Zan (((u2.ext s₁.extBut D.i2z).ext s₂.extBut D.i12.symm).ext s₃.extBut D.TOi2.symm) (((m2.ext s₁.extBut D.l2z).ext s₂.extBut D.l2i1).ext s₃.extBut D.l2TO) hy λh₄ u2₄ s₄=>wpAny_pure ?_))))
 have gO₄:IsPair h₄ TO x b:=s₄.extBut _ _ D.TOi2 gO₃;refine wpAny_bind (wpAny_seqItems gO₄ rfl (wpAny_bind (wpAny_updateSeq_pair gO₄ λh₅ gO₅ s₅ => ?_)));have gO₅:IsPair h₅ TO x y:=gO₅;refine wpAny_bind (wpAny_letGo (wpAny_pure (wpAny_pure (wpAny_bind (wpAny_seqItems gO₅ rfl (wpAny_bind (wpAny_newTuple ?_)))))));have ez:h₅.objs.size=s.heap.objs.size:=by rw [s₅.1,s₄.1,s₃.1,s₂.1,s₁.1]
 have gz₅:IsZip h₅ z TI TO .ellipsis:=s₅.extBut _ _ D.TOz.symm (s₄.extBut _ _ D.i2z.symm (s₃.extBut _ _ D.TOz.symm (s₂.extBut _ _ D.i1z.symm gz₁)));have kp:∀c o,c≠z->c≠TO->c≠i1->c≠i2->s.heap.get? c=some o->h₅.get? c=some o:=λc o c1 c2 c3 c4 e=>s₅.extBut _ _ c2 (s₄.extBut _ _ c4 (s₃.extBut _ _ c2 (s₂.extBut _ _ c3 (s₁.extBut _ _ c1 e))))
 have u1₅:IsQI p h₅ i1 l1 (k1+1):=((u1₂.ext s₃.extBut D.TOi1.symm).ext s₄.extBut D.i12).ext s₅.extBut D.TOi1.symm;have u2₅:IsQI q h₅ i2 l2 (k2+1):=u2₄.ext s₅.extBut D.TOi2.symm;have lz:z<h₅.objs.size:=Heap.lt_size gz₅;show wpAny _ _ (Builtin.SmallTypes.ownedTupleHandOut (.ref z) (.ref h₅.objs.size) >>= λ_=>_) _ _ _;unfold Builtin.SmallTypes.ownedTupleHandOut;have gz₆:IsZip (h₅.push { cls := .type "tuple",data := .seq #[x,y] }) z TI TO .ellipsis:=Heap.get?_push_of_some _ gz₅
 refine wpAny_bind (wpAny_bind (wpAny_setField_rec gz₆ (by simp) λh₇ gz₇ s₇ => ?_));have gz₇:IsZip h₇ z TI TO (rawInt h₅.objs.size):=gz₇;refine wpAny_setField_rec gz₇ (by simp) λh₈ gz₈ s₈ => ?_
 have gz₈:IsZip h₈ z TI TO (rawInt h₅.objs.size):=gz₈;have up:∀c o,c≠z->h₅.get? c=some o->h₈.get? c=some o:=λc o c1 e=>s₈.extBut _ _ c1 (s₇.extBut _ _ c1 (Heap.get?_push_of_some _ e))
 have gT:IsPair h₈ h₅.objs.size x y:=s₈.extBut _ _ (Nat.ne_of_gt lz) (s₇.extBut _ _ (Nat.ne_of_gt lz) (Heap.get?_push_size _ rfl));have e8:h₈.objs.size=h₅.objs.size+1:=by rw [s₈.1,s₇.1,Heap.size_push]
 rw [ez]at gz₈ gT e8;refine wpAny_pure ⟨_,rfl,?_⟩;rw [ez];exact hQ h₈ gz₈ (up _ _ D.TOz gO₅) (u1₅.at λo e=>up _ o D.i1z e) (u2₅.at λo e=>up _ o D.i2z e) gT e8 λc o c1 c2 c3 c4 e=>up c o c1 (kp c o c1 c2 c3 c4 e)
theorem Zes {p q:Bool} {z TI TO i1 i2 l1 l2:Addr} {k1 k2:Nat} {xs ys:Array Value} {a b:Value} {Q:Fin->Shared->Prop} (hh:A.handled=none) (D:ZipApart z TI TO i1 i2 l1 l2)
 (gz:IsZip s.heap z TI TO .none) (gI:IsPair s.heap TI (.ref i1) (.ref i2)) (gO:IsPair s.heap TO a b) (u1:IsQI p s.heap i1 l1 k1) (u2:IsQI q s.heap i2 l2 k2) (m1:IsQ p s.heap l1 xs) (m2:IsQ q s.heap l2 ys) (hend:xs[k1]? = none\/ys[k2]? = none)
 (hE:∀h' e,(∀c o,c≠z->c≠TO->c≠i1->c≠i2->s.heap.get? c=some o->h'.get? c=some o)->(∃o,h'.get? e=some o/\o.cls = .type "StopIteration")->E (.ref e) { s with heap:=h' }) :
 wpAny (model prog w) A (Builtin.«zip.__next__» ⟨[.ref z],[]⟩) Q E s:=by
 show wpAny _ _ (field (.ref z) 2 >>= λ_=>_) _ _ _;refine wpAny_bind (wpAny_field gz rfl (x:=.bool false) rfl ?_);show wpAny _ _ (field (.ref z) 3 >>= λ_=>_) _ _ _;refine wpAny_bind (wpAny_field gz rfl (x:=.ref TI) rfl (wpAny_bind (wpAny_seqItems gI rfl ?_)));show wpAny _ _ (Builtin.SmallTypes.ownedTupleIsFree (.ref z) >>= λ_=>_) _ _ _;unfold Builtin.SmallTypes.ownedTupleIsFree;refine wpAny_bind (wpAny_bind (wpAny_field gz rfl (x:=.none) rfl (wpAny_pure ?_)))
 simp only [if_true];refine wpAny_bind (wpAny_rule (wpAny_bind (wpAny_field gz rfl (x:=.ref TO) rfl (wpAny_bind (wpAny_setField_rec gz (by simp) λh₁ gz₁ s₁ => ?_)))));have gz₁:IsZip h₁ z TI TO .ellipsis:=gz₁;refine wpAny_bind ?_;simp only [List.zipIdx_cons,List.forIn_cons,List.zipIdx_nil,List.forIn_nil];cases hx:xs[k1]? with
 |none=>
  refine wpAny_bind (wpAny_bind (wpAny_onRaise (wpAny_bind (m:=Builtin.SmallTypes.nextOf (.ref i1)) (Zbk hh (u1.ext s₁.extBut D.i1z) (m1.ext s₁.extBut D.l1z) hx λh₂ e s₂ he => ?_))));obtain⟨oe,ge,ce⟩:=he;have gz₂:IsZip h₂ z TI TO .ellipsis:=s₂ _ _ D.i1z.symm gz₁;have nez:e≠z:=λv=>by rw [v,gz₂]at ge;cases ge;simp at ce
  exact wpAny_setField_rec gz₂ (by simp) λh₃ _ s₃=>hE h₃ e (λc o c1 _ c3 _ v=>s₃.extBut _ _ c1 (s₂ _ _ c3 (s₁.extBut _ _ c1 v))) ⟨oe,s₃.extBut _ _ nez ge,ce⟩
 |some x=>
  have hy:ys[k2]? = none:=hend.resolve_left (by rw [hx];exact λv=>by cases v);refine wpAny_bind (wpAny_bind (wpAny_onRaise (wpAny_bind (m:=Builtin.SmallTypes.nextOf (.ref i1)) (Zan (u1.ext s₁.extBut D.i1z) (m1.ext s₁.extBut D.l1z) hx λh₂ u1₂ s₂=>wpAny_pure ?_))));have gO₂:IsPair h₂ TO a b:=s₂.extBut _ _ D.TOi1 (s₁.extBut _ _ D.TOz gO);refine wpAny_bind (wpAny_seqItems gO₂ rfl (wpAny_bind (wpAny_updateSeq_pair gO₂ λh₃ gO₃ s₃=>wpAny_bind (wpAny_letGo (wpAny_pure ?_)))))
  refine wpAny_bind (wpAny_bind (wpAny_onRaise (wpAny_bind (m:=Builtin.SmallTypes.nextOf (.ref i2)) (Zbk hh (((u2.ext s₁.extBut D.i2z).ext s₂.extBut D.i12.symm).ext s₃.extBut D.TOi2.symm) (((m2.ext s₁.extBut D.l2z).ext s₂.extBut D.l2i1).ext s₃.extBut D.l2TO) hy λh₄ e s₄ he => ?_))));obtain⟨oe,ge,ce⟩:=he;have gz₄:IsZip h₄ z TI TO .ellipsis:=s₄ _ _ D.i2z.symm (s₃.extBut _ _ D.TOz.symm (s₂.extBut _ _ D.i1z.symm gz₁))
  have nez:e≠z:=λv=>by rw [v,gz₄]at ge;cases ge;simp at ce
  exact wpAny_setField_rec gz₄ (by simp) λh₅ _ s₅=>hE h₅ e (λc o c1 c2 c3 c4 v=>s₅.extBut _ _ c1 (s₄ _ _ c4 (s₃.extBut _ _ c2 (s₂.extBut _ _ c3 (s₁.extBut _ _ c1 v))))) ⟨oe,s₅.extBut _ _ nez ge,ce⟩
theorem Zbz {p q:Bool} {z TI TO i1 i2 l1 l2:Addr} {k1 k2:Nat} {xs ys:Array Value} {x y a b:Value} {Q:Option Value->Shared->Prop} (D:ZipApart z TI TO i1 i2 l1 l2)
 (gz:IsZip s.heap z TI TO .none) (gI:IsPair s.heap TI (.ref i1) (.ref i2)) (gO:IsPair s.heap TO a b) (u1:IsQI p s.heap i1 l1 k1) (u2:IsQI q s.heap i2 l2 k2) (m1:IsQ p s.heap l1 xs) (m2:IsQ q s.heap l2 ys) (hx:xs[k1]? = some x) (hy:ys[k2]? = some y)
 (hQ:∀h',IsZip h' z TI TO (rawInt s.heap.objs.size)->IsPair h' TO x y->IsQI p h' i1 l1 (k1+1)->IsQI q h' i2 l2 (k2+1)->IsPair h' s.heap.objs.size x y->h'.objs.size=s.heap.objs.size+1->(∀c o,c≠z->c≠TO->c≠i1->c≠i2->s.heap.get? c=some o->h'.get? c=some o)->Q (some (.ref s.heap.objs.size)) { s with heap:=h' }) :
 wpAny (model prog w) A (pyNext (.ref z)) Q E s:=by
 have tz:s.TypeIs (.ref z) "zip" := ⟨_,gz,rfl⟩
 unfold pyNext;exact wpAny_bind (wpAny_attempt (wpAny_callSpecial?_slot (name:=Str.ofString "__next__") tz F.slot_zip_next (wpAny_call_entry F.slot_zip_next tz F.entry_zip_next (ZdK D gz gI gO u1 u2 m1 m2 hx hy λh' a1 a2 a3 a4 a5 a6 a7=>wpAny_pure (hQ h' a1 a2 a3 a4 a5 a6 a7)) (F.args_zip_next_1 _))))
theorem ZbV {p q:Bool} {z TI TO i1 i2 l1 l2:Addr} {k1 k2:Nat} {xs ys:Array Value} {a b:Value} {Q:Option Value->Shared->Prop} (hh:A.handled=none) (D:ZipApart z TI TO i1 i2 l1 l2)
 (gz:IsZip s.heap z TI TO .none) (gI:IsPair s.heap TI (.ref i1) (.ref i2)) (gO:IsPair s.heap TO a b) (u1:IsQI p s.heap i1 l1 k1) (u2:IsQI q s.heap i2 l2 k2) (m1:IsQ p s.heap l1 xs) (m2:IsQ q s.heap l2 ys) (hend:xs[k1]? = none\/ys[k2]? = none)
 (hQ:∀h',(∀c o,c≠z->c≠TO->c≠i1->c≠i2->s.heap.get? c=some o->h'.get? c=some o)->Q none { s with heap:=h' }):wpAny (model prog w) A (pyNext (.ref z)) Q E s:=by
 have tz:s.TypeIs (.ref z) "zip" := ⟨_,gz,rfl⟩
 unfold pyNext;refine wpAny_bind (wpAny_attempt (wpAny_callSpecial?_slot (name:=Str.ofString "__next__") tz F.slot_zip_next (wpAny_call_entry F.slot_zip_next tz F.entry_zip_next (Zes hh D gz gI gO u1 u2 m1 m2 hend λh' e hk he => ?_) (F.args_zip_next_1 _))));obtain⟨o,go,co⟩:=he;exact wpAny_bind (wpAny_isInstance (T:="StopIteration") (b:=true) ⟨o,go,co⟩ isSubtype_stop (wpAny_pure (hQ _ hk)))
end
abbrev itO(k:Bool)(l:Addr):Obj:={ cls := .type (if k then "tuple_iterator" else "list_iterator"),data := .fields #[.ref l,.int 0 0] }
abbrev zq2(p q:Bool)(h:Heap)(l1 l2:Addr):Heap:=(h.push (itO p l1)).push (itO q l2)
abbrev zq3(p q:Bool)(h:Heap)(l1 l2:Addr):Heap:=(zq2 p q h l1 l2).push { cls := .type "tuple",data := .seq #[.ref h.objs.size,.ref (h.push (itO p l1)).objs.size] }
abbrev zq4(p q:Bool)(h:Heap)(l1 l2:Addr):Heap:=(zq3 p q h l1 l2).push { cls := .type "tuple",data := .seq #[.none,.none] }
abbrev zq5(p q:Bool)(h:Heap)(l1 l2:Addr):Heap:=(zq4 p q h l1 l2).push { cls := .type "zip",data := .fields #[.none,.bool false,.bool false,.ref (zq2 p q h l1 l2).objs.size,.ref (zq3 p q h l1 l2).objs.size] }
theorem ZcB(p q:Bool)(l1 l2:Addr)(xs ys:Array Value):Meets (Builtin.«zip.__new__» ⟨[.type "zip",.ref l1,.ref l2],[]⟩) (λ_ R s=>IsQ p s.heap l1 xs/\IsQ q s.heap l2 ys/\R (.ok (.ret (.ref (zq4 p q s.heap l1 l2).objs.size))) { s with heap:=zq5 p q s.heap l1 l2 }):=
 .of_wp λprog w A R s h=>by
  obtain⟨hp,g,d,tk,os⟩:=s;obtain⟨m1,m2,h⟩:=h;have hsub:=sub_zip;cases p<;>cases q
  · have e1:Heap.IsList (Shared.heap ⟨hp,g,d,tk,os⟩) l1 xs:=m1
    have e2:Heap.IsList (Shared.heap ⟨hp.push { cls := .type "list_iterator",data := .fields #[.ref l1,.int 0 0] },g,d,tk,os⟩) l2 ys:=Heap.IsList.push m2 _
    wp_walk using wpAny_pyIter_list e1,wpAny_pyIter_list e2
    exact⟨_,rfl,h⟩
  · have e1:Heap.IsList (Shared.heap ⟨hp,g,d,tk,os⟩) l1 xs:=m1
    have e2:Heap.IsTuple (Shared.heap ⟨hp.push { cls := .type "list_iterator",data := .fields #[.ref l1,.int 0 0] },g,d,tk,os⟩) l2 ys:=Heap.IsTuple.push m2 _
    wp_walk using wpAny_pyIter_list e1,wpAny_pyIter_tuple e2
    exact⟨_,rfl,h⟩
  · have e1:Heap.IsTuple (Shared.heap ⟨hp,g,d,tk,os⟩) l1 xs:=m1
    have e2:Heap.IsList (Shared.heap ⟨hp.push { cls := .type "tuple_iterator",data := .fields #[.ref l1,.int 0 0] },g,d,tk,os⟩) l2 ys:=Heap.IsList.push m2 _
    wp_walk using wpAny_pyIter_tuple e1,wpAny_pyIter_list e2
    exact⟨_,rfl,h⟩
  · have e1:Heap.IsTuple (Shared.heap ⟨hp,g,d,tk,os⟩) l1 xs:=m1
    have e2:Heap.IsTuple (Shared.heap ⟨hp.push { cls := .type "tuple_iterator",data := .fields #[.ref l1,.int 0 0] },g,d,tk,os⟩) l2 ys:=Heap.IsTuple.push m2 _
    wp_walk using wpAny_pyIter_tuple e1,wpAny_pyIter_tuple e2
    exact⟨_,rfl,h⟩
theorem ZeZ(k:Bool){h:Heap}{a l:Addr}(e:h.get? a=some (itO k l)):IsQI k h a l 0:=by
 cases k with
 |true=>exact⟨_,e,rfl,rfl⟩
 |false=>exact⟨_,e,rfl,rfl⟩
section
variable{prog:Program}{w:World}{A:Around}{E:Value->Shared->Prop}{s:Shared}
theorem ZdL {p q:Bool} {l1 l2:Addr} {xs ys:Array Value} {Q:Value->Shared->Prop} (m1:IsQ p s.heap l1 xs) (m2:IsQ q s.heap l2 ys)
 (h:∀h',IsZip h' (s.heap.objs.size+4) (s.heap.objs.size+2) (s.heap.objs.size+3) .none->IsPair h' (s.heap.objs.size+2) (.ref s.heap.objs.size) (.ref (s.heap.objs.size+1))->IsPair h' (s.heap.objs.size+3) .none .none->IsQI p h' s.heap.objs.size l1 0->IsQI q h' (s.heap.objs.size+1) l2 0->(∀c o,s.heap.get? c=some o->h'.get? c=some o)->Q (.ref (s.heap.objs.size+4)) { s with heap:=h' }) :
 wpAny (model prog w) A (call (.type "zip") [.ref l1,.ref l2]) Q E s:=by
 refine callType_new F.called_zip (by decide) (F.typeCall_zip_2 _ _) (F.newCall_zip_2 _ _) (λobj=>F.args_object_init_3 obj _ _) F.entry_zip_new (ZcB p q l1 l2 xs ys) ⟨m1,m2,?_⟩;have z1:(s.heap.push (itO p l1)).objs.size=s.heap.objs.size+1:=Heap.size_push ..;have z2:(zq2 p q s.heap l1 l2).objs.size=s.heap.objs.size+2:=by rw [Heap.size_push,z1]
 have z3:(zq3 p q s.heap l1 l2).objs.size=s.heap.objs.size+3:=by rw [Heap.size_push,z2]
 have z4:(zq4 p q s.heap l1 l2).objs.size=s.heap.objs.size+4:=by rw [Heap.size_push,z3]
 have up:=λ(h:Heap) (o o':Obj) (a:Addr) (e:h.get? a=some o')=>Heap.get?_push_of_some (h:=h) o e
 have g5:(zq5 p q s.heap l1 l2).get? (zq4 p q s.heap l1 l2).objs.size=some _:=Heap.get?_push_size _ rfl;have g4:(zq5 p q s.heap l1 l2).get? (zq3 p q s.heap l1 l2).objs.size=some _:=up _ _ _ _ (Heap.get?_push_size _ rfl);have g3:(zq5 p q s.heap l1 l2).get? (zq2 p q s.heap l1 l2).objs.size=some _:=up _ _ _ _ (up _ _ _ _ (Heap.get?_push_size _ rfl));have g2:(zq5 p q s.heap l1 l2).get? (s.heap.push (itO p l1)).objs.size=some (itO q l2):=up _ _ _ _ (up _ _ _ _ (up _ _ _ _ (Heap.get?_push_size _ (by cases q<;>rfl))))
 have g1:(zq5 p q s.heap l1 l2).get? s.heap.objs.size=some (itO p l1):=up _ _ _ _ (up _ _ _ _ (up _ _ _ _ (up _ _ _ _ (Heap.get?_push_size _ (by cases p<;>rfl)))));show _/\_;rw [z2,z3,z4]at g5;rw [z1,z2]at g3;rw [z3]at g4;rw [z1]at g2;rw [z4];exact⟨⟨_,g5,rfl⟩,h _ g5 g3 g4 (ZeZ p g1) (ZeZ q g2) λc o e=>up _ _ _ _ (up _ _ _ _ (up _ _ _ _ (up _ _ _ _ (up _ _ _ _ e))))⟩
end
end PySem
namespace L2
open PySem PySem.Spec PyProof.Rows
def SqQ(k:Bool)(K:PySem.W.Frag)(H:Hp)(a:Addr)(xs:List V):Prop:=match k with
 |true=>SqT K H a xs
 |false=>SqL K H a xs
theorem Inv.seqQ{X:Cx}{pins:List (Addr×Obj)}{σ:St}{H:Hp}{s:Shared}{k:Bool}{a:Addr}{xs:List V}(I:Inv X pins σ H s)(h:SqQ k X.K H a xs):∃its:List Value,Vals xs its/\IsQ k s.heap a its.toArray/\xs.length<=sizeLine:=by
 cases k with
 |true=>exact I.tuple h
 |false=>
  obtain⟨its,r,p,z⟩:=I.list h;exact⟨its,r,p.isList,z⟩
theorem Inv.seqQ_inj{X:Cx}{pins:List (Addr×Obj)}{σ:St}{H:Hp}{s:Shared}{k:Bool}{a:Addr}{xs ys:List V}(I:Inv X pins σ H s)(h:SqQ k X.K H a xs)(h':SqQ k X.K H a ys):xs=ys:=by
 cases k with
 |true=>exact I.tuple_inj h h'
 |false=>exact Inv.list_inj I h h'
def Ziu(kp kq:Bool)(K:PySem.W.Frag)(l1 l2:Addr):It:=
 ⟨λi H=>∃xs ys x y,SqQ kp K H l1 xs/\SqQ kq K H l2 ys/\xs[i]? = some x/\ys[i]? = some y,
  λi H v H'=>∃x y p,(∀xs,SqQ kp K H l1 xs->xs[i]? = some x)/\(∀ys,SqQ kq K H l2 ys->ys[i]? = some y)/\H p=none/\v = .ref p/\H'=upd H p (.tup [x,y]),
  λi H=>∃xs ys,SqQ kp K H l1 xs/\SqQ kq K H l2 ys/\(xs.length<=i\/ys.length<=i)⟩
theorem ZdM{p q:Bool}{P:Program}{w:World}{K:PySem.W.Frag}{elts:List Expr}{x1:Nat}{tpos:Pos}(n l1 l2:Nat)(hl1:l1<n)(hl2:l2<n) :
 Turn P w K (.Tuple elts x1 tpos) (Ziu p q K l1 l2) [n+4,n+2,n+3,n,n+1] (n+4) (λi h=>IsZip h (n+4) (n+2) (n+3) .none/\IsPair h (n+2) (.ref n) (.ref (n+1))/\(∃a b,IsPair h (n+3) a b)/\IsQI p h n l1 i/\IsQI q h (n+1) l2 i) where
 mem:=by simp
 obj:=λi h st b hb=>by
  obtain⟨hz,hTI,⟨a,b',hTO⟩,h1,h2⟩:=st;obtain⟨o1,ho1,hd1⟩:=h1.get;obtain⟨o2,ho2,hd2⟩:=h2.get;simp at hb;rcases hb with rfl|rfl|rfl|rfl|rfl
  · exact ⟨_, hz, fun v z => by
     have z':Data.fields _=Data.cell v:=z;cases z'⟩
  · exact ⟨_, hTI, fun v z => by
     have z':Data.seq _ _=Data.cell v:=z;cases z'⟩
  · exact ⟨_, hTO, fun v z => by
     have z':Data.seq _ _=Data.cell v:=z;cases z'⟩
  · exact⟨o1,ho1,λv z=>by rw [hd1]at z;cases z⟩
  · exact⟨o2,ho2,λv z=>by rw [hd2]at z;cases z⟩
 keep:=λi h h' st k=>by
  obtain⟨hz,hTI,⟨a,b',hTO⟩,h1,h2⟩:=st;exact⟨k _ (by simp) _ hz,k _ (by simp) _ hTI,⟨a,b',k _ (by simp) _ hTO⟩,h1.at λo q=>k n (by simp) o q,h2.at λo q=>k (n+1) (by simp) o q⟩
 item:=by
  intro X hP hw hK hc i pins s σ H E I hf st hg;subst hP hw hK;obtain⟨hz,hTI,⟨a,b',hTO⟩,h1,h2⟩:=st;obtain⟨xs,ys,x,y,hq1,hq2,hx,hy⟩:=hg;obtain⟨its1,rv1,p1,_⟩:=I.seqQ hq1;obtain⟨its2,rv2,p2,_⟩:=I.seqQ hq2;obtain⟨u,hu,ru⟩:=rv1.get hx;obtain⟨v,hv,rv⟩:=rv2.get hy;have D:ZipApart (n+4) (n+2) (n+3) n (n+1) l1 l2:=zipApart_new hl1 hl2;refine Zbz D hz hTI hTO h1 h2 p1 p2 (x:=u) (y:=v) (by simpa using hu) (by simpa using hv) λh' a1 a2 a3 a4 a5 a6 hk => ?_
  refine⟨_,rfl,wpAny_letOwnedTupleGo_zip a1 λh2' hz2 hs2 => ?_⟩;have hs2:Heap.SameBut (n+4) h' h2':=hs2;have hzl:n+4<s.heap.objs.size:=Heap.lt_size hz;have hT2:h2'.get? s.heap.objs.size=some { cls := .type "tuple",data := .seq #[u,v] }:=(hs2.2 _ (Nat.ne_of_gt hzl)).trans a5;have k2:∀b o,b≠n+4->b≠n+3->b≠n->b≠n+1->s.heap.get? b=some o->h2'.get? b=some o:=λb o b1 b2 b3 b4 q=>(hs2.2 b b1).trans (hk b o b1 b2 b3 b4 q)
  have hTn:H s.heap.objs.size=none:=I.hok.fresh (Nat.le_refl _);have neT:∀b o,s.heap.get? b=some o->b≠s.heap.objs.size:=λb o q=>Nat.ne_of_lt (Heap.lt_size q)
  have hF:∀b,b=n+4\/b=n+3\/b=n\/b=n+1->Xm X pins H b:=λb hb=>hf b (by rcases hb with rfl|rfl|rfl|rfl<;>simp)
  have I2:Inv X pins σ (upd H s.heap.objs.size (.tup [x,y])) { s with heap:=h2' }:=by
   refine I.step (g':=s.gens) (d':=s.drawn) (t':=s.toks) (ch:=[n+4,n+3,n,n+1]) (λb hb => ?_) (λb o _ _ hcb q _ => ?_) (λb o _ _ hcb q _ => ?_) (λb o hcb q m => ?_) (λb o hcb q => ?_) (λb xs q => ?_) (λb o v q => ?_) (λb ps q => ?_) (λm hm => ?_) (λb o q => ?_) I.bare
   · obtain⟨e0,e1,e2,e3,e4,e5⟩:=hF b (by simpa using hb)
     exact⟨e3,e1,e4,e5⟩
   · simp at hcb
     exact k2 b o hcb.1 hcb.2.1 hcb.2.2.1 hcb.2.2.2 q
   · simp at hcb
     exact⟨o.slots,k2 b o hcb.1 hcb.2.1 hcb.2.2.1 hcb.2.2.2 q⟩
   · rw [Zv (neT b o q)]
     exact m
   · simp at hcb
     exact⟨o,k2 b o hcb.1 hcb.2.1 hcb.2.2.1 hcb.2.2.2 q⟩
   · rw [Zv (YD q hTn)]
     exact q
   · rw [Zv (YD q hTn)]
     exact q
   · exact⟨#[],by rw [Zv (YD q hTn),q];simp⟩
   · obtain⟨o,es,ep,q,r⟩:=hm
     exact⟨o,es,ep,k2 _ o (Ne.symm (hF _ (.inl rfl)).2.1) (Ne.symm (hF _ (.inr (.inl rfl))).2.1) (Ne.symm (hF _ (.inr (.inr (.inl rfl)))).2.1) (Ne.symm (hF _ (.inr (.inr (.inr rfl)))).2.1) q,r⟩
   · by_cases hb:b=s.heap.objs.size
     · subst hb
       rw [Yq]at q;cases q;refine⟨by show 2<=sizeLine;decide,[u,v],.cons ru (.cons rv .nil),?_⟩;exact⟨_,hT2,rfl,⟨_,rfl⟩,rfl⟩
     · rw [Zv hb]at q
       have nn:∀(b:Addr)(o:HO),H b=some o->b≠n+4/\b≠n+3/\b≠n/\b≠n+1:=λb o q=>by
        refine⟨λz => ?_,λz => ?_,λz => ?_,λz => ?_⟩
        · rw [z,(hF _ (.inl rfl)).1]at q;cases q
        · rw [z,(hF _ (.inr (.inl rfl))).1]at q;cases q
        · rw [z,(hF _ (.inr (.inr (.inl rfl)))).1]at q;cases q
        · rw [z,(hF _ (.inr (.inr (.inr rfl)))).1]at q;cases q
       refine(I.hok b o q).stay (λd v hd q' => ?_) (λd q'=>by rw [Zv (YD q' hTn)];exact q') λd xs q'=>by rw [Zv (YD q' hTn)];exact q'
       rcases hd with rfl|hd
       · exact k2 d v (nn d o q).1 (nn d o q).2.1 (nn d o q).2.2.1 (nn d o q).2.2.2 q'
       · exact k2 d v (nn d _ hd).1 (nn d _ hd).2.1 (nn d _ hd).2.2.1 (nn d _ hd).2.2.2 q'
  refine⟨.ref s.heap.objs.size,_,I2,rfl,⟨x,y,s.heap.objs.size,λzs hz=>by rw [I.seqQ_inj hz hq1];exact hx,λzs hz=>by rw [I.seqQ_inj hz hq2];exact hy,hTn,rfl,rfl⟩,⟨hz2,?_,⟨u,v,?_⟩,?_,?_⟩,λb hb => ?_⟩
  · exact hs2.extBut _ _ D.TIz (hk _ _ D.TIz D.TITO D.TIi1 D.TIi2 hTI)
  · exact hs2.extBut _ _ D.TOz a2
  · exact a3.ext hs2.extBut D.i1z
  · exact a4.ext hs2.extBut D.i2z
  · have hb0:H b=none:=(hf b hb).1
    have hbl:b<s.heap.objs.size:=by
     simp at hb;have hzl':n+4<s.heap.objs.size:=hzl;rcases hb with rfl|rfl|rfl|rfl|rfl
     · exact hzl'
     · exact Nat.lt_of_le_of_lt (Nat.add_le_add_left (by decide) n) hzl'
     · exact Nat.lt_of_le_of_lt (Nat.add_le_add_left (by decide) n) hzl'
     · exact Nat.lt_of_le_of_lt (Nat.le_add_right b 4) hzl'
     · exact Nat.lt_of_le_of_lt (Nat.add_le_add_left (by decide) n) hzl'
    rw [Zv (Nat.ne_of_lt hbl)];exact hb0
 done:=by
  intro X hP hw hK hc i pins s σ H E I hf st hg;subst hP hw hK;obtain⟨hz,hTI,⟨a,b',hTO⟩,h1,h2⟩:=st;obtain⟨xs,ys,hq1,hq2,hx⟩:=hg;obtain⟨its1,rv1,p1,_⟩:=I.seqQ hq1;obtain⟨its2,rv2,p2,_⟩:=I.seqQ hq2;have e1:=rv1.length;have e2:=rv2.length;have D:ZipApart (n+4) (n+2) (n+3) n (n+1) l1 l2:=zipApart_new hl1 hl2;have hF:∀b,b=n+4\/b=n+3\/b=n\/b=n+1->Xm X pins H b:=λb hb=>hf b (by rcases hb with rfl|rfl|rfl|rfl<;>simp)
  refine ZbV (I.ok.hd hc) D hz hTI hTO h1 h2 p1 p2 (by
   rcases hx with hx|hx
   · exact .inl (by simp;omega)
   · exact .inr (by simp;omega)) λh' k2=>⟨rfl,?_⟩
  have nn:∀(b:Addr)(o:HO),H b=some o->b≠n+4/\b≠n+3/\b≠n/\b≠n+1:=λb o q=>by
   refine⟨λz => ?_,λz => ?_,λz => ?_,λz => ?_⟩
   · rw [z,(hF _ (.inl rfl)).1]at q;cases q
   · rw [z,(hF _ (.inr (.inl rfl))).1]at q;cases q
   · rw [z,(hF _ (.inr (.inr (.inl rfl)))).1]at q;cases q
   · rw [z,(hF _ (.inr (.inr (.inr rfl)))).1]at q;cases q
  refine I.step (g':=s.gens) (d':=s.drawn) (t':=s.toks) (ch:=[n+4,n+3,n,n+1]) (λb hb => ?_) (λb o _ _ hcb q _ => ?_) (λb o _ _ hcb q _ => ?_) (λ_ _ _ _ m=>m) (λb o hcb q => ?_) (λ_ _ e=>e) (λ_ _ _ e=>e) (λb ps e=>⟨#[],by rw [e];simp⟩) (λm hm => ?_) (λb o q => ?_) I.bare
  · obtain⟨e0,e1,e2,e3,e4,e5⟩:=hF b (by simpa using hb)
    exact⟨e3,e1,e4,e5⟩
  · simp at hcb
    exact k2 b o hcb.1 hcb.2.1 hcb.2.2.1 hcb.2.2.2 q
  · simp at hcb
    exact⟨o.slots,k2 b o hcb.1 hcb.2.1 hcb.2.2.1 hcb.2.2.2 q⟩
  · simp at hcb
    exact⟨o,k2 b o hcb.1 hcb.2.1 hcb.2.2.1 hcb.2.2.2 q⟩
  · obtain⟨o,es,ep,q,r⟩:=hm
    exact⟨o,es,ep,k2 _ o (Ne.symm (hF _ (.inl rfl)).2.1) (Ne.symm (hF _ (.inr (.inl rfl))).2.1) (Ne.symm (hF _ (.inr (.inr (.inl rfl)))).2.1) (Ne.symm (hF _ (.inr (.inr (.inr rfl)))).2.1) q,r⟩
  · refine(I.hok b o q).stay (λd v hd q' => ?_) (λ_ q=>q) λ_ _ q=>q
    rcases hd with rfl|hd
    · exact k2 d v (nn d o q).1 (nn d o q).2.1 (nn d o q).2.2.1 (nn d o q).2.2.2 q'
    · exact k2 d v (nn d _ hd).1 (nn d _ hd).2.1 (nn d _ hd).2.2.1 (nn d _ hd).2.2.2 q'
 self:=λ_ _ _ _ _ st h=>wpAny_pyIter_zip st.1 h
section
variable{X:Cx}{elts:List Expr}{x1:Nat}{tpos:Pos}
def Zgn(K:PySem.W.Frag)(ta:TA):TI:=λσ H R=>ta σ H λvs H1=>∃p q l1 l2 xs ys,vs=[.ref l1,.ref l2]/\SqQ p K H1 l1 xs/\SqQ q K H1 l2 ys/\R (Ziu p q K l1 l2) H1
theorem ZfN {K:PySem.W.Frag} {a b:Expr} {ta tb:TE} {po pos:Pos} (hg:Gl X "zip") (hm:X.mg "zip" = none) (ha:PE X a ta) (hb:PE X b tb) (hs:starEach [a,b] X.env=(false,eval a X.env)::starEach [b] X.env:=by rfl) (hs2:starEach [b] X.env=[(false,eval b X.env)]:=by rfl) (hK:X.K=K:=by rfl) :
 PI X (.Tuple elts x1 tpos) (.Call (.Name "zip" po) [a,b] [] pos) (Zgn K (YR ta (YR tb tNil))):=by
 subst hK;intro pins s σ H R I h;refine Call_ (Uk I hg hm boot_zip (PyProof.Rows.callWith_type1 (thn ((Zd ha (Zd hb Zi hs2) hs) pos pins s σ H _ I h) λus s1 ⟨vs,H1,I1,r1,q1⟩ => ?_) (by rw [hs,hs2]) (by rw [hs2];rfl)));obtain⟨p,q0,l1,l2,xs,ys,e,hq1,hq2,q⟩:=q1;subst e;cases r1 with
 |cons r rr=>
  cases rr with
  |cons r' rr'=>
   cases rr';cases r;cases r';obtain⟨its1,rv1,p1,_⟩:=I1.seqQ hq1;obtain⟨its2,rv2,p2,_⟩:=I1.seqQ hq2;have lt1:l1<s1.heap.objs.size:=p1.lt;have lt2:l2<s1.heap.objs.size:=p2.lt;refine ZdL p1 p2 λh' hz hTI hTO h1 h2 k => ?_
   refine wpAny_pyIter_zip hz ?_;have I2:Inv X pins σ H1 { s1 with heap:=h' }:=I1.kept (t':=s1.toks) k;refine⟨s1.heap.objs.size+4,[s1.heap.objs.size+4,s1.heap.objs.size+2,s1.heap.objs.size+3,s1.heap.objs.size,s1.heap.objs.size+1],_,_,H1,rfl,I2,ZdM s1.heap.objs.size l1 l2 lt1 lt2,⟨hz,hTI,⟨_,_,hTO⟩,h1,h2⟩,λb hb => ?_,q⟩
   have hb':s1.heap.objs.size<=b:=by
    simp at hb;rcases hb with rfl|rfl|rfl|rfl|rfl
    · exact Nat.le_add_right _ _
    · exact Nat.le_add_right _ _
    · exact Nat.le_add_right _ _
    · exact Nat.le_refl _
    · exact Nat.le_add_right _ _
   exact I1.fpOk hb' (I1.hok.fresh hb')
def Ze0(K:PySem.W.Frag)(ta:TA):TI:=λσ H R=>ta σ H λvs H1=>∃l xs,vs=[.ref l]/\SqL K H1 l xs/\R (Zit K 0 l) H1
theorem Zet {K:PySem.W.Frag} {a:Expr} {ta:TE} {po pos:Pos} (hg:Gl X "enumerate") (hm:X.mg "enumerate" = none) (ha:PE X a ta) (hs:starEach [a] X.env=[(false,eval a X.env)]:=by rfl) (hK:X.K=K:=by rfl) :
 PI X (.Tuple elts x1 tpos) (.Call (.Name "enumerate" po) [a] [] pos) (Ze0 K (YR ta tNil)):=by
 subst hK;intro pins s σ H R I h;refine Call_ (Uk I hg hm boot_enumerate (PyProof.Rows.callWith_type1 (thn ((Zd ha Zi hs) pos pins s σ H _ I h) λus s1 ⟨vs,H1,I1,r1,q1⟩ => ?_) (by rw [hs];rfl) (by rfl)));obtain⟨l,xs,ev,hq,q⟩:=q1;subst ev;obtain⟨w1,rfl,rx⟩:=Y2 r1;cases rx;obtain⟨its,rv,pl,hz⟩:=I1.list hq;refine call_enumerate_list pl.isList λh' he st _ k => ?_
 refine wpAny_pyIter_enum he ?_;have I3:Inv X pins σ H1 { s1 with heap:=h' }:=I1.kept (t':=s1.toks) k;refine⟨s1.heap.objs.size+1,[s1.heap.objs.size+1,s1.heap.objs.size],_,_,H1,rfl,I3,ZcA (s1.heap.objs.size+1) s1.heap.objs.size l (Nat.succ_ne_self _) 0,⟨⟨_,he⟩,st⟩,λb hb => ?_,q⟩
 have hb':s1.heap.objs.size<=b:=by
  simp at hb;rcases hb with rfl|rfl
  · exact Nat.le_succ _
  · exact Nat.le_refl _
 exact I1.fpOk hb' (I1.hok.fresh hb')
end
end L2
namespace DL
open PySem PySem.Spec L2
section
variable{cA:Kn}{G:Cn}{ow:List Nat}
theorem Zch{k:Bool}{K:PySem.W.Frag}{H H':Hp}{a:Addr}{xs:List V}(e:Same H H')(h:SqQ k K H a xs):SqQ k K H' a xs:=by
 cases k with
 |false=>exact Same.seq e h
 |true=>
  rcases h with(h|⟨o,h⟩)|h
  · exact .inl (.inl (e _ _ h))
  · exact .inl (.inr ⟨o,e _ _ h⟩)
  · exact .inr h
theorem ZcC{p0 q0:Bool}{iv:Addr->Prop}{H0:Hp}{a b:Addr}{vs ws:List V}{xs ys:List D}(rd:SqQ p0 cA.K H0 a vs)(l:RepL cA iv H0 xs vs)(rd2:SqQ q0 cA.K H0 b ws)(l2:RepL cA iv H0 ys ws):V3 cA iv (Ziu p0 q0 cA.K a b) (XC xs ys) H0:=λH s=>by
 have rd':SqQ p0 cA.K H a vs:=Zch s rd;have rd2':SqQ q0 cA.K H b ws:=Zch s rd2;refine⟨λi hi => ?_,λi x v H' hx y => ?_,λi hi=>⟨vs,ws,rd',rd2',?_⟩⟩
 · rw [JX]at hi
   obtain⟨v,hv,_⟩:=l.get (List.getElem?_eq_getElem (show i<xs.length by omega));obtain⟨u,hu,_⟩:=l2.get (List.getElem?_eq_getElem (show i<ys.length by omega));exact⟨vs,ws,v,u,rd',rd2',hv,hu⟩
 · obtain⟨z1,z2,p,hz1,hz2,hp,rfl,rfl⟩:=y
   have hi:i<(XC xs ys).length:=(List.getElem?_eq_some_iff.mp hx).1;rw [JX]at hi;have e1:=List.getElem?_eq_getElem (show i<xs.length by omega);have e2:=List.getElem?_eq_getElem (show i<ys.length by omega);rw [Zcg xs ys i _ _ e1 e2]at hx;cases hx;obtain⟨v1,hv1,r1⟩:=l.get e1;obtain⟨v2,hv2,r2⟩:=l2.get e2;rw [hz1 vs rd']at hv1;rw [hz2 ws rd2']at hv2;cases hv1;cases hv2;refine⟨YL hp,λav' h1 h2 => ?_⟩
   unfold Rep;exact⟨p,_,rfl,λz=>h1 p z hp,Yq,.cons (((r1.av h2).same s).same (YL hp)) (.cons (((r2.av h2).same s).same (YL hp)) .nil)⟩
 · rw [JX]at hi
   rw [<-l.length,<-l2.length];omega
def QP:D->Option (List D)
 | .lst xs=>some xs
 | .tup xs=>some xs
 |_=>none
def QQ(ε1 ε2:Env->Option D)(δ:Env):Option (List D):=match ε1 δ,ε2 δ with
 |some x,some y=>match QP x,QP y with
  |some xs,some ys=>some (XC xs ys)
  |_,_=>none
 |_,_=>none
theorem Zbl{av:Addr->Prop}{A:Nat->Option Addr}{H:Hp}{d:D}{xs:List D}{v:V}(h:QP d=some xs)(r:Rep cA (AV av A) H d v):∃k a vs,v = .ref a/\SqQ k cA.K H a vs/\SqQ k cA.K (cut A H) a vs/\RepL cA (AV av A) H xs vs:=by
 cases d<;>first|(cases h;done)|skip
 · cases h
   obtain⟨a,vs,rfl,na,rd,l⟩:=r;exact⟨false,a,vs,rfl,rd,JC na rd λb o n e=>by rw [VD λ⟨i,z⟩=>n (.inr ⟨i,z⟩)];exact e,l⟩
 · cases h
   obtain⟨a,vs,rfl,na,rd,l⟩:=r;exact⟨true,a,vs,rfl,SqT.of rd,SqT.of (by rw [VD λ⟨i,z⟩=>na (.inr ⟨i,z⟩)];exact rd),l⟩
theorem ZfO{ta tb:TE}{ε1 ε2:Env->Option D}(h1:VE G ow ta .cl ε1)(h2:VE G ow tb .cl ε2):VI G ow (Zgn G.1.K (YR ta (YR tb tNil))) (QQ ε1 ε2):=λH0 av A σ H δ E xs e R k=>by
 unfold QQ at e;cases he1:ε1 δ with
 |none=>rw [he1]at e;cases e
 |some d1=>
  cases he2:ε2 δ with
  |none=>rw [he1,he2]at e;cases e
  |some d2=>
   rw [he1,he2]at e;dsimp only at e;cases hs1:QP d1 with
   |none=>rw [hs1]at e;cases e
   |some x1=>
    cases hs2:QP d2 with
    |none=>rw [hs1,hs2]at e;cases e
    |some x2=>
     rw [hs1,hs2]at e;cases e;refine h1 H0 av A σ H δ E _ he1 _ λv H1 s1 r1 => ?_
     refine h2 H0 av A σ H1 δ (E.mono s1) _ he2 _ λv2 H2 s2 r2 => ?_
     obtain⟨p,a,vs,rfl,rd,rdc,l⟩:=Zbl hs1 (RepT.r (r1.same s2));obtain⟨q,b,ws,rfl,rd2,rdc2,l2⟩:=Zbl hs2 (RepT.r r2);exact⟨p,q,a,b,vs,ws,rfl,rd,rd2,k _ H2 (s1.trans s2) (ZcC rdc l.cut rdc2 l2.cut)⟩
theorem Zeu{ta:TE}{ε:Env->Option D}(h:VE G ow ta .cl ε):VI G ow (Ze0 G.1.K (YR ta tNil)) (ZcP 0 ε):=λH0 av A σ H δ E xs e R k=>by
 unfold ZcP at e;cases he:ε δ with
 |none=>rw [he]at e;cases e
 |some d=>
  rw [he]at e;cases d<;>first|(cases e;done)|skip
  cases e;refine h H0 av A σ H δ E _ he _ λv H1 s r => ?_
  obtain⟨a,vs,rfl,na,rd,l⟩:=r;exact⟨a,vs,rfl,rd,k _ H1 s (ZbS (JC na rd λb o n e=>by rw [VD λ⟨i,z⟩=>n (.inr ⟨i,z⟩)];exact e) l.cut)⟩
end
end DL
namespace DL
open PySem PySem.Spec PyProof.Rows L2
def VH:List Int->Int
 | []=>0
 |n::ns=>ns.foldl min n
theorem Zaf:∀(ns:List Int)(n:Int),(ns.foldl min n=n\/ns.foldl min n∈ns)/\ns.foldl min n<=n/\∀a∈ns,ns.foldl min n<=a
 | [],n=>⟨.inl rfl,Int.le_refl _,λ_ z=>nomatch z⟩
 |m::ns,n=>by
  obtain⟨h1,h2,h3⟩:=Zaf ns (min n m);rw [List.foldl_cons];refine⟨?_,by omega,λa ha => ?_⟩
  · rcases h1 with h|h
    · by_cases hm:n<=m
      · exact .inl (by rw [h,Int.min_eq_left hm])
      · exact .inr (by rw [h,Int.min_eq_right (by omega)];exact List.mem_cons_self)
    · exact .inr (List.mem_cons_of_mem _ h)
  · rcases List.mem_cons.mp ha with rfl|ha
    · omega
    · exact h3 a ha
theorem ZdN{ns:List Int}(h:0<ns.length):VH ns∈ns/\∀a∈ns,VH ns<=a:=by
 cases ns with
 |nil=>cases h
 |cons n ns=>
  obtain⟨h1,h2,h3⟩:=Zaf ns n;refine⟨?_,λa ha => ?_⟩
  · rcases h1 with h|h
    · show ns.foldl min n∈_
      rw [h];exact List.mem_cons_self
    · exact List.mem_cons_of_mem _ h
  · rcases List.mem_cons.mp ha with rfl|ha
    · exact h2
    · exact h3 a ha
theorem ZaA{ns:List Int}{M:Int}(h1:M∈ns)(h2:∀a∈ns,M<=a):M=VH ns:=by
 obtain⟨h3,h4⟩:=ZdN (List.length_pos_of_mem h1);exact Int.le_antisymm (h2 _ h3) (h4 M h1)
def Zfo(K:PySem.W.Frag):List V->Hp->VK->Prop:=λxs H Q=>∃(p:Addr) (ns:List Int),xs=[.ref p]/\SqL K H p (ns.map V.int)/\0<ns.length/\Q (.int (VH ns)) H
section
variable{X:Cx}{K:PySem.W.Frag}{cA:Kn}
theorem ZdO(hc:X.calm=true):YI X (.builtin "min") (Zfo X.K):=by
 intro pins s σ H xs us Q I rs h;obtain⟨p,ns,rfl,hq,hne,q⟩:=h;obtain⟨u,rfl,rx⟩:=Y2 rs;cases rx;obtain⟨its,rv,pl,hz⟩:=I.list hq;have hi:=JT ns its rv;obtain⟨ys,e⟩:=hi.allInts.items
 have hns:ns=ys.toList.map (·.1):=by
  rw [<-hi.numsOf,<-nums_intItems,<-e]
 have hsz:0<ys.size:=by
  have h3:=hne;rw [hns,List.length_map,Array.length_toList]at h3;exact h3
 have hl:=pl.isList;rw [e]at hl;refine min_intList (I.ok.hd hc) hl hsz λv h' tk hv hk => ?_
 obtain⟨t,rfl⟩:=intItems_at hv;obtain⟨h1,h2⟩:=argBest_lt (numAt ys) (ys.size-1)
 have hM:=ZaA (ns:=ns) (M:=numAt ys (argBest (λi j=>decide (numAt ys i<numAt ys j)) (ys.size-1))) (by
  rw [hns,numAt_eq];exact getD_mem (by rw [List.length_map,Array.length_toList];omega)) (λa ha=>by
  rw [hns]at ha;obtain⟨j,hj,rfl⟩:=mem_getD ha;rw [List.length_map,Array.length_toList]at hj;rw [<-numAt_eq];exact h2 j (by omega))
 exact⟨.int (VH ns),H,I.kept hk,⟨t,by rw [hM]⟩,q⟩
def minLD:List D->Option D
 | [.lst xs]=>match XZ xs with
  |some ns=>if 0<ns.length then some (.int (VH ns))else none
  |none=>none
 |_=>none
theorem ZfP:V1 cA (Zfo cA.K) minLD:=λi H ds vs d _ h e Q k=>by
 unfold minLD at e
 split at e
 · rename_i xs
   cases hb:XZ xs with
   |none=>rw [hb]at e;cases e
   |some bs=>
    rw [hb]at e;dsimp only at e
    by_cases hz:0<bs.length
    · rw [if_pos hz]at e
      cases e;obtain⟨v,t,rfl,a,ws,rfl,_,rd,l⟩:=il1 h;have ex:=JS hb;subst ex;have ev:=l.vals (by rw [List.all_map];exact List.all_eq_true.mpr λ_ _=>rfl);rw [List.map_map]at ev;subst ev;exact⟨a,bs,rfl,rd,hz,k _ H (Same.refl H) rfl⟩
    · rw [if_neg hz]at e;cases e
 · cases e
variable{G:Cn}{ow:List Nat}
open Classical in
end
end DL
namespace DL
open PySem PySem.Spec L2
section
variable{cA:Kn}{av:Addr->Prop}{H:Hp}
end
section
variable{G:Cn}{ow owN owB owC ow1:List Nat}{H0 H:Hp}{av:Addr->Prop}{A:Nat->Option Addr}{σ:L2.St}{δ:Env}
end
end DL
namespace L2
open PySem PySem.Spec PyProof.Rows
section
variable{X:Cx}
end
end L2
namespace DL
open PySem PySem.Spec L2
section
variable{G:Cn}{ow owN owB owC ow1:List Nat}
open Classical in
end
end DL
namespace L2
open PySem PySem.Spec PyProof.Rows
section
variable{X:Cx}
end
end L2
namespace DL
open PySem PySem.Spec L2
section
variable{G:Cn}{ow owN owB owC ow1:List Nat}
end
end DL
namespace DL
open PySem PySem.Spec L2
section
variable{cA:Kn}{G:Cn}{ow owN owB owC:List Nat}
end
end DL
namespace DL
open PySem PySem.Spec L2
def eqP(x d:D):Bool:=PyData.eqv (toP d) (toP x)
section
variable{X:Cx}{cA:Kn}
open Classical in
end
end DL
namespace DL
open PySem PySem.Spec L2
section
variable{cA:Kn}{G:Cn}{ow owN owB owC ow1:List Nat}{i:Nat}{H0 H H':Hp}{av:Addr->Prop}{A:Nat->Option Addr}{σ:L2.St}{δ:Env}
open Classical in
end
end DL
namespace DL
open PySem PySem.Spec L2
section
variable{cA:Kn}{G:Cn}{ow owN owB owC ow1:List Nat}{i:Nat}{H0 H H':Hp}{av:Addr->Prop}{A A':Nat->Option Addr}{σ σ':L2.St}{δ δ1:Env}
end
end DL
namespace DL
open PySem PySem.Spec L2
section
variable{cA:Kn}{G:Cn}{ow owN owB owC ow1:List Nat}{i:Nat}
open Classical in
end
end DL
namespace DL
open PySem PySem.Spec L2
section
variable{G:Cn}{ow ow1:List Nat}
end
end DL
namespace L2
open PySem PySem.Spec PyProof.Rows
theorem QR{x:Str}{c:Addr}:∀(names:List (Str×NameKind))(n:Nat)(acc:List (Str×Addr)),(cellsFrom n names acc).lookup x=some c->(n<=c/\(x,NameKind.cell)∈names)\/acc.lookup x=some c
 | [],n,acc,h => .inr h
 |(y,k)::r,n,acc,h=>by
  unfold cellsFrom at h
  by_cases hk:(k == .cell)=true
  · rw [if_pos hk]at h
    have hk':k = .cell:=by simpa using hk
    subst hk';rcases QR r (n+1) _ h with⟨h1,h2⟩|h1
    · exact .inl ⟨by omega,List.mem_cons_of_mem _ h2⟩
    · rw [List.lookup_cons]at h1
      cases hx:x == y with
      |true=>
       rw [hx]at h1;have e:n=c:=Option.some.inj h1;have e2:x=y:=eq_of_beq hx;subst e2;exact .inl ⟨by omega,List.mem_cons_self⟩
      |false=>rw [hx]at h1;exact .inr h1
  · rw [if_neg hk]at h
    rcases QR r n acc h with⟨h1,h2⟩|h1
    · exact .inl ⟨h1,List.mem_cons_of_mem _ h2⟩
    · exact .inr h1
theorem Zad{x:Str}{c:Addr}:∀(names:List (Str×NameKind))(n:Nat)(acc:List (Str×Addr)),(x,NameKind.cell)∈names->(cellsFrom n names acc).lookup x=some c->n<=c
 |(y,k)::r,n,acc,hm,h=>by
  unfold cellsFrom at h
  by_cases hk:(k == .cell)=true
  · rw [if_pos hk]at h
    rcases List.mem_cons.mp hm with e|e
    · cases e
      rcases QR r (n+1) _ h with⟨h1,_⟩|h1
      · omega
      · rw [List.lookup_cons]at h1
        simp at h1;exact Nat.le_of_eq h1
    · have:=Zad r (n+1) _ e h
      omega
  · rw [if_neg hk]at h
    rcases List.mem_cons.mp hm with e|e
    · cases e
      exact absurd rfl hk
    · exact Zad r n acc e h
theorem cellsFrom_some{x:Str}:∀(names:List (Str×NameKind))(n:Nat)(acc:List (Str×Addr)),((x,NameKind.cell)∈names\/∃c,acc.lookup x=some c)->∃c,(cellsFrom n names acc).lookup x=some c
 | [],n,acc,h=>h.elim (λz=>nomatch z) id
 |(y,k)::r,n,acc,h=>by
  unfold cellsFrom
  by_cases hk:(k == .cell)=true
  · rw [if_pos hk]
    refine cellsFrom_some r (n+1) _ ?_;cases hx:x == y with
    |true=>exact .inr ⟨n,by rw [List.lookup_cons,hx]⟩
    |false=>
     rcases h with h|⟨c,h⟩
     · rcases List.mem_cons.mp h with e|e
       · cases e
         simp at hx
       · exact .inl e
     · exact .inr ⟨c,by rw [List.lookup_cons,hx];exact h⟩
  · rw [if_neg hk]
    refine cellsFrom_some r n acc ?_;rcases h with h|h
    · rcases List.mem_cons.mp h with e|e
      · cases e
        exact absurd rfl hk
      · exact .inl e
    · exact .inr h
theorem Zaa{x:Str}:∀(names:List (Str×NameKind))(n:Nat)(acc:List (Str×Addr)),(x,NameKind.cell)∉names->(cellsFrom n names acc).lookup x=acc.lookup x
 | [],_,_,_=>rfl
 |(y,k)::r,n,acc,h=>by
  unfold cellsFrom;have hr:(x,NameKind.cell)∉r:=λz=>h (List.mem_cons_of_mem _ z)
  by_cases hk:(k == .cell)=true
  · rw [if_pos hk,Zaa r (n+1) _ hr,List.lookup_cons]
    have hk':k = .cell:=by simpa using hk
    cases hx:x == y with
    |true=>
     have e2:x=y:=eq_of_beq hx;exact absurd (by rw [e2,hk'];exact List.mem_cons_self) h
    |false=>rfl
  · rw [if_neg hk]
    exact Zaa r n acc hr
theorem Zae{x y:Str}{c:Nat}:∀(names:List (Str×NameKind))(n:Nat)(acc:List (Str×Addr)),(∀(z:Str)(d:Nat),acc.lookup z=some d->d<n)->n<=c->(cellsFrom n names acc).lookup x=some c->(cellsFrom n names acc).lookup y=some c->x=y
 | [],n,acc,ha,hn,h1,h2=>by
  have:=ha x c h1;omega
 |(z,k)::r,n,acc,ha,hn,h1,h2=>by
  unfold cellsFrom at h1 h2
  by_cases hk:(k == .cell)=true
  · rw [if_pos hk]at h1 h2
    by_cases hc:c=n
    · subst hc
      have one:∀{w:Str},(cellsFrom (c+1) r ((z,c)::acc)).lookup w=some c->w=z:=λ{w} hw=>by
       rcases QR r (c+1) _ hw with⟨q,_⟩|q
       · omega
       · rw [List.lookup_cons]at q
         cases hx:w == z with
         |true=>exact eq_of_beq hx
         |false=>
          rw [hx]at q;have:=ha w c q;omega
      rw [one h1,one h2]
    · refine Zae r (n+1) _ (λw d hw => ?_) (by omega) h1 h2
      rw [List.lookup_cons]at hw;cases hx:w == z with
      |true=>rw [hx]at hw;have e:n=d:=Option.some.inj hw;exact Nat.lt_succ_of_le (Nat.le_of_eq e.symm)
      |false=>rw [hx]at hw;exact Nat.lt_succ_of_lt (ha w d hw)
  · rw [if_neg hk]at h1 h2
    exact Zae r n acc ha hn h1 h2
theorem Zab{lo:Nat}:∀(names:List (Str×NameKind))(h:Heap)(acc:List (Str×Addr)),(∀z d,acc.lookup z=some d->lo<=d->h.IsCell d none)->∀{x:Str}{c:Addr},(cellsFrom h.objs.size names acc).lookup x=some c->lo<=c->(pushCells h names).IsCell c none
 | [],h,acc,ha,x,c,h1,h2=>ha x c h1 h2
 |(z,k)::r,h,acc,ha,x,c,h1,h2=>by
  unfold cellsFrom at h1;unfold pushCells
  by_cases hk:(k == .cell)=true
  · rw [if_pos hk]at h1 ⊢
    have e:h.objs.size+1=(h.push { cls := .type "cell",data := .cell none }).objs.size:=(Heap.size_push ..).symm;rw [e]at h1;refine Zab r _ _ (λw d hw hd => ?_) h1 h2;rw [List.lookup_cons]at hw;cases hx:w == z with
    |true=>
     rw [hx]at hw;have q:h.objs.size=d:=Option.some.inj hw;rw [<-q];exact⟨_,Heap.get?_push_size _ rfl,rfl⟩
    |false=>
     rw [hx]at hw;exact(ha w d hw hd).keeps λb o e=>Heap.get?_push_of_some _ e
  · rw [if_neg hk]at h1 ⊢
    exact Zab r h acc ha h1 h2
theorem Zas {M:Model} {A:Around} {E:Value->Shared->Prop} {s:Shared} {scope:Scope} {globals:Addr} {closure:List (Str×Addr)} {qual:Str} {func:Option Addr} {code:Value} {outer:Env} {builtins:Addr} {Q:Env->Shared->Prop}
 (hQ:Q (newEnv scope s.heap.objs.size globals (cellsFrom (s.heap.objs.size+1) scope.names closure) qual func code (some outer) builtins) { s with heap:=pushCells (s.heap.push { cls := .type "dict",data := .dict #[] }) scope.names }) :
 wpAny M A (newFunctionEnv scope globals closure [] qual func code (some outer) builtins) Q E s:=by
 simp only [newFunctionEnv,Option.isSome_some,if_true];refine wpAny_bind (wpAny_alloc ?_);refine wpAny_bind (wpAny_layCells _ (λname kind cells=>by cases hkc:kind == NameKind.cell<;>simp [hkc]) _ _ _ _ ?_);rw [show({ s with heap:=s.heap.push { cls := .type "dict",data := .dict #[] } }:Shared).heap.objs.size=s.heap.objs.size+1 from Heap.size_push ..];simp only [List.forIn_nil];exact wpAny_bind (wpAny_pure (wpAny_pure hQ))
structure CompSd(X:Cx)(scope:Scope)(tn cn:List Str)(js:List Nat):Prop where
 kind:scope.kind = .function
 own:∀y∈scope.names,y.2 = .cell->scope.names.lookup y.1=some .cell
 names:∀y∈scope.names,y.2 = .local->scope.names.lookup y.1=some .local
 free:∀y∈scope.names,y.2 = .free->X.env.kindOf y.1=some .cell\/X.env.kindOf y.1=some .free
 cap:∀(k:Nat)(x:Str),cn[k]? = some x->∃j,js[k]? = some j/\X.N[j]? = some x/\(X.env.kindOf x=some .cell\/X.env.kindOf x=some .free)/\scope.names.lookup x=some .free
 len:cn.length=js.length
def ZbK(onames:List (Str×NameKind))(oN:List Str)(names:List (Str×NameKind))(cn:List Str)(js:List Nat):Bool:=
 names.all (λy => !(y.2 == .cell)||(names.lookup y.1 == some .cell))&&names.all (λy => !(y.2 == .local)||(names.lookup y.1 == some .local)) &&
 names.all (λy => !(y.2 == .free)||(onames.lookup y.1 == some .cell||onames.lookup y.1 == some .free)) &&
 ((cn.zip js).all λp=>oN[p.2]? == some p.1&&(onames.lookup p.1 == some .cell||onames.lookup p.1 == some .free)&&names.lookup p.1 == some .free)&&(cn.length == js.length)
def Ux(X:Cx)(scope:Scope)(C:Addr):List (Str×Addr):=cellsFrom (C+1) scope.names (Xo X.env.cells scope.names [])
def U4(X:Cx)(scope:Scope)(N':List Str)(C:Addr)(s₂:Shared)(H₂:Hp)(fp:List Addr)(xe:Value->Shared->Prop):Cx:=
 { X with N:=N',s₀:=s₂,H₀:=H₂,env:=compEnvC scope (Ux X scope C) C X.env,outer:=X.stack,ex:=fp,fn:=λx=>scope.names.lookup x == some .cell,pn:=[],xe:=xe }
section
variable{X:Cx}{pins:List (Addr×Obj)}{σ:St}{H₂:Hp}{s₂:Shared}{scope:Scope}{tn cn:List Str}{js:List Nat}
theorem CompSd.clos(S:CompSd X scope tn cn js)(ok:X.Ok):∀y∈scope.names,y.2 = .free->∃c,X.env.cells.lookup y.1=some c:=λy hy e=>ok.has y.1 (S.free y hy e)
theorem Uy{C:Addr}(S:CompSd X scope tn cn js)(ok:X.Ok){x:Str}{c:Addr}(h:(Ux X scope C).lookup x=some c):(C+1<=c/\(x,NameKind.cell)∈scope.names)\/X.env.cells.lookup x=some c:=by
 rcases QR _ _ _ h with q|q
 · exact .inl q
 · exact .inr (QA _ [] (S.clos ok) (λ_ z=>by cases z) q)
theorem Zai{env:Env}:∀{names:List (Str×NameKind)}{x:Str}{k:NameKind},(names.map λ(n,k)=>if(k == NameKind.free&&env.scope.kind == .function&&env.kindOf n == some .cell)then(n,NameKind.cell)else(n,k)).lookup x=some k ->
 (k = .cell\/k = .free)->(x,NameKind.free)∈names\/(x,NameKind.cell)∈names
 | [],_,_,h,_=>by simp at h
 |(n,k0)::r,x,k,h,hk=>by
  have ih := @Zai env r x k;have more:((x,NameKind.free)∈r\/(x,NameKind.cell)∈r)->(x,NameKind.free)∈(n,k0)::r\/(x,NameKind.cell)∈(n,k0)::r:=λz=>z.elim (λz => .inl (List.mem_cons_of_mem _ z)) λz => .inr (List.mem_cons_of_mem _ z)
  have h:List.lookup x ((if(k0 == NameKind.free&&env.scope.kind == .function&&env.kindOf n == some .cell)=true then(n,NameKind.cell)else(n,k0))::_)=_:=h
  by_cases hb:(k0 == NameKind.free&&env.scope.kind == .function&&env.kindOf n == some .cell)=true
  · rw [if_pos hb,List.lookup_cons]at h
    have e0:k0 = .free:=by
     simp only [Bool.and_eq_true]at hb;simpa using hb.1.1
    cases hx:x == n with
    |true=>
     have e:x=n:=eq_of_beq hx;subst e;subst e0;exact .inl List.mem_cons_self
    |false=>
     rw [hx]at h;exact more (ih h hk)
  · rw [if_neg hb,List.lookup_cons]at h
    cases hx:x == n with
    |true=>
     rw [hx]at h;have e:x=n:=eq_of_beq hx;have e0:k0=k:=Option.some.inj h;subst e;subst e0;rcases hk with hk|hk
     · subst hk;exact .inr List.mem_cons_self
     · subst hk;exact .inl List.mem_cons_self
    |false=>
     rw [hx]at h;exact more (ih h hk)
theorem Zev{C:Addr}{fp:List Addr}{xe:Value->Shared->Prop}(S:CompSd X scope tn cn js)(I:Inv X pins σ H₂ s₂)(hC:s₂.heap.objs.size<=C)(hf:∀b∈fp,Xm X pins H₂ b)(ho:∀b∈fp,∃o,s₂.heap.get? b=some o/\∀v,o.data ≠ .cell v) :
 (U4 X scope (tn++cn) C s₂ H₂ fp xe).Ok where
 mod:=I.ok.mod
 kind:=S.kind
 glob:=I.ok.glob
 blt:=I.ok.blt
 above:=hC
 inj:=λx y c h1 h2=>by
  have old:∀{x:Str}{c:Nat},X.env.cells.lookup x=some c->Nat.lt c C:=λ{x c} h=>by
   obtain⟨v,o,q,_⟩:=I.cell x c h;exact Nat.lt_of_lt_of_le (Heap.lt_size q) hC
  rcases Uy S I.ok h1 with⟨q1,_⟩|q1
  · exact Zae scope.names (C+1) _ (λz d hz=>Nat.lt_succ_of_lt (old (QA _ [] (S.clos I.ok) (λ_ z=>by cases z) hz))) q1 h1 h2
  · rcases Uy S I.ok h2 with⟨q2,_⟩|q2
    · exact absurd (Nat.lt_of_lt_of_le (Nat.lt_succ_of_lt (old q1)) q2) (Nat.lt_irrefl _)
    · exact I.ok.inj x y c q1 q2
 has:=λx hx=>by
  have hm:(x,NameKind.free)∈scope.names\/(x,NameKind.cell)∈scope.names:=by
   rcases hx with hx|hx
   · exact Zai (env:=X.env) (k:=.cell) hx (Or.inl (Eq.refl NameKind.cell))
   · exact Zai (env:=X.env) (k:=.free) hx (Or.inr (Eq.refl NameKind.free))
  refine cellsFrom_some _ _ _ ?_;rcases hm with hm|hm
  · exact .inr (Zav _ _ (.inl hm))
  · exact .inl hm
 cab:=λx c h1 h2=>by
  have e:scope.names.lookup x=some .cell:=by
   have q:(scope.names.lookup x == some .cell)=true:=h1;simpa using q
  exact Nat.le_trans hC (Nat.le_of_succ_le (Zad _ _ _ (PySem.mem_of_lookup e) h2))
 hd:=I.ok.hd
 frames:=I.ok.frames
 stk := .inl rfl
 exf:=λb hb=>by
  obtain⟨o,e,_⟩:=ho b hb;obtain⟨_,_,_,_,f4,_⟩:=hf b hb;have hbC:b<C:=Nat.lt_of_lt_of_le (Heap.lt_size e) hC;refine⟨Nat.ne_of_lt hbC,λx c h => ?_⟩;rcases Uy S I.ok h with⟨q,_⟩|q
  · exact Nat.ne_of_gt (Nat.lt_of_lt_of_le hbC (Nat.le_of_succ_le q))
  · exact f4 x c q
 bs:=I.bs
 bsz:=Nat.le_trans I.ok.bsz I.sz
 noex:=λb o e hb=>by
  obtain⟨_,_,_,f3,_,_⟩:=hf b hb;rcases f3 with z|z
  · exact I.ok.noex b o e z
  · exact absurd (Nat.lt_of_lt_of_le (Heap.lt_size (I.ok.bs b o e).1) z) (Nat.lt_irrefl _)
 exfs:=λb hb z=>by
  obtain⟨_,f1,f2,_,_,_⟩:=hf b hb;exact(List.mem_cons.mp (I.stkSub b z)).elim f1 f2
 funs:=I.stack
 frf:=I.stkFree
theorem ZaN {C:Addr} {fp:List Addr} {s:Shared} {H:Hp} {m:Str->Option Value} (S:CompSd X scope tn cn js) (I:Inv X pins σ H₂ s₂) (hf:∀b∈fp,Xm X pins H₂ b)
 (u:Un (frs X.stack) fp H₂ H s₂.heap s.heap) :
 ∀(i:Nat)(x:Str)(v:V),(tn++cn)[i]? = some x->(blk tn.length σ js)[i]? = some (some v)->∃z,RelV v z/\ZjZ (compEnvC scope (Ux X scope C) C X.env) s.heap m x z:=by
 intro i x v e1 e2;unfold blk at e2
 by_cases hi:i<tn.length
 · rw [List.getElem?_append_left (by simpa using hi),List.getElem?_replicate,if_pos hi]at e2
   cases e2
 · have hi':tn.length<=i:=by omega
   rw [List.getElem?_append_right hi']at e1;rw [List.getElem?_append_right (by simpa using hi'),List.length_replicate]at e2;obtain⟨j,hj,hN,hk,hm⟩:=S.cap _ _ e1;unfold QB at e2;rw [List.getElem?_map,hj]at e2;have e3:(σ[j]?).getD none=some v:=Option.some.inj e2
   have e4:σ[j]? = some (some v):=by
    cases q:σ[j]? with
    |none=>rw [q]at e3;cases e3
    |some z=>rw [q]at e3;exact congrArg some e3
   obtain⟨m0,_,hl⟩:=I.loc
   have hv:Vis X.env.scope x:=by
    rcases hk with hk|hk
    · exact .inr (.inl hk)
    · exact .inr (.inr hk)
   obtain⟨z,rz,l⟩:=hl j x v hN e4 hv;refine⟨z,rz,?_⟩
   obtain⟨c,hc,ob,ho,hd⟩:∃c,X.env.cells.lookup x=some c/\s₂.heap.IsCell c (some z):=by
    rcases l with⟨k,_⟩|⟨_,c,hc,q⟩
    · rcases hk with hk|hk
      · rw [hk]at k;cases k
      · rw [hk]at k;cases k
    · exact⟨c,hc,q⟩
   have hnc:(x,NameKind.cell)∉scope.names:=λz=>by
    have q:=S.own _ z rfl;have q:scope.names.lookup x=some .cell:=q;rw [hm]at q;cases q
   obtain⟨c',hc'⟩:=Zav (cells:=X.env.cells) (x:=x) scope.names [] (.inl (PySem.mem_of_lookup hm));have hcY:(Ux X scope C).lookup x=some c':=(Zaa _ _ _ hnc).trans hc'
   have ec:c'=c:=by
    have:=QA _ [] (S.clos I.ok) (λ_ z=>by cases z) hc';rw [hc]at this;exact(Option.some.inj this).symm
   subst ec;have nf:c'∉fp:=λhb=>(hf c' hb).2.2.2.2.1 x c' hc rfl
   obtain⟨sl,q⟩:=u.any ho (I.freeC x c' hc) nf;exact .inr ⟨Zao hm,c',hcY,⟨_,q,hd⟩⟩
theorem Zci(S:CompSd X scope tn cn js):(blk tn.length σ js).length=(tn++cn).length:=by
 unfold blk QB;rw [List.length_append,List.length_append,List.length_replicate,List.length_map,S.len]
theorem ZbW {C:Addr} {fp:List Addr} {xe:Value->Shared->Prop} {s:Shared} {H:Hp} {σ':St} {pins':List (Addr×Obj)} (S:CompSd X scope tn cn js) (I:Inv X pins σ H₂ s₂) (hf:∀b∈fp,Xm X pins H₂ b)
 (I':Inv (U4 X scope (tn++cn) C s₂ H₂ fp xe) pins' σ' H s):Inv (U4 X scope (tn++cn) C s₂ H₂ fp xe) pins' (blk tn.length σ js) H s:=by
 obtain⟨m,hn,_⟩:=id I'.loc;exact⟨I'.ok,I'.os,I'.bare,I'.base,⟨m,hn,λi x v e1 e2 _=>ZaN S I hf I'.base i x v e1 e2⟩,I'.cell,I'.free,I'.freeC,I'.pin,I'.hok,Zci S⟩
theorem ZbX {C D:Addr} {fp:List Addr} {xe:Value->Shared->Prop} {h:Heap} {tk:Nat} {ob:Obj} {m:Str->Option Value} (S:CompSd X scope tn cn js) (I:Inv X pins σ H₂ s₂) (hC:s₂.heap.objs.size<=C) (hD:s₂.heap.objs.size<=D) (hDC:D≠C)
 (hf:∀b∈fp,Xm X pins H₂ b) (ho:∀b∈fp,∃o,s₂.heap.get? b=some o/\∀v,o.data ≠ .cell v) (k:∀b o,s₂.heap.get? b=some o->h.get? b=some o) (hn:h.Ns C m) (hob:h.get? D=some ob) (hcell:∀v,ob.data ≠ .cell v) (hcs:∀x c,(Ux X scope C).lookup x=some c->C+1<=c->h.IsCell c none) :
 Inv (U4 X scope (tn++cn) C s₂ H₂ fp xe) [(D,ob)] (blk tn.length σ js) H₂ { s₂ with heap:=h,toks:=tk }:=by
 have ok:=Zev (xe:=xe) S I hC hf ho;have u:Un (frs X.stack) fp H₂ H₂ s₂.heap h:=Un.kept k;refine⟨ok,rfl,I.bare,u,⟨m,hn,λi x v e1 e2 _=>ZaN (s:={ s₂ with heap:=h,toks:=tk }) S I hf u i x v e1 e2⟩,λx c e => ?_,I.hok.fresh hC,λx c e => ?_,λp hp => ?_,I.hok.kept k,Zci S⟩
 · rcases Uy S I.ok e with⟨z,_⟩|z
   · exact⟨none,hcs x c e z⟩
   · obtain⟨v,o,q,d⟩:=I.cell x c z
     exact⟨v,o,k c o q,d⟩
 · rcases Uy S I.ok e with⟨z,_⟩|z
   · exact I.hok.fresh (Nat.le_trans hC (Nat.le_of_succ_le z))
   · exact I.freeC x c z
 · have e : p = (D, ob) := by
    have:p∈([]:List (Addr×Obj))++[(D,ob)]:=hp;simpa using this
   subst e;refine⟨hob,I.hok.fresh hD,hDC,λz => ?_,hcell⟩;have z:D∈frs X.stack:=z;rcases List.mem_cons.mp (I.stkSub D z)with e|e
   · exact absurd (Nat.lt_of_lt_of_le I.lt (by rw [<-e];exact hD)) (Nat.lt_irrefl _)
   · exact I.nofs hD e
theorem Zbm {C D:Addr} {fp:List Addr} {xe:Value->Shared->Prop} {s:Shared} {H:Hp} {σ':St} {ys:List V} {its:List Value} {n:Nat} {h':Heap} (S:CompSd X scope tn cn js) (I:Inv X pins σ H₂ s₂) (hC:s₂.heap.objs.size<=C) (hD:s₂.heap.objs.size<=D) (hDC:D≠C)
 (hf:∀b∈fp,Xm X pins H₂ b) (I':Inv (U4 X scope (tn++cn) C s₂ H₂ fp xe) [(D,{ cls := .type "list",data := .seq its.toArray n })] σ' H s) (hv:Vals ys its) (hz:ys.length<=sizeLine) (hs:Heap.SameBut C s.heap h') :
 Inv X pins σ (upd H D (.lst ys)) { s with heap:=h' }:=by
 have pd:=I'.pin (D,{ cls := .type "list",data := .seq its.toArray n }) (List.mem_append_right _ List.mem_cons_self);have pd1:s.heap.get? D=some { cls := .type "list",data := .seq its.toArray n }:=pd.1;have pd2:H D=none:=pd.2.1;have hD':h'.get? D=some { cls := .type "list",data := .seq its.toArray n }:=(hs.2 D hDC).trans pd1;have hCf:H C=none:=I'.free;have old:∀b o,s₂.heap.get? b=some o->b≠C/\b≠D:=λb o e=>⟨Nat.ne_of_lt (Nat.lt_of_lt_of_le (Heap.lt_size e) hC),Nat.ne_of_lt (Nat.lt_of_lt_of_le (Heap.lt_size e) hD)⟩
 have u:=I'.base;have u:Un (frs X.stack) fp H₂ H s₂.heap s.heap:=u;refine I.call' (s':={ s with heap:=h' }) (ch:=fp) (H':=upd H D (.lst ys)) I'.os ⟨λb o e n hb hx => ?_,λb o e n hb hx => ?_,λb o e n hx => ?_,λb o e hx => ?_,λb xs e => ?_,λb o xs e => ?_,λb ps e => ?_⟩ (λb o e => ?_) I'.bare (λb hb => ?_)
 · exact(hs.2 b (old b o e).1).trans (u.keep b o e n hb hx)
 · obtain⟨sl,q⟩:=u.slot b o e n hb hx
   exact⟨sl,(hs.2 b (old b o e).1).trans q⟩
 · rw [Zv (old b o e).2]
   exact u.free b o e n hx
 · obtain⟨o',q⟩:=u.there b o e hx
   exact⟨o',(hs.2 b (old b o e).1).trans q⟩
 · have q:=u.tups b xs e
   rw [Zv (YD q pd2)];exact q
 · have q:=u.frzs b o xs e
   rw [Zv (YD q pd2)];exact q
 · obtain⟨more,q⟩:=u.tbls b ps e
   exact⟨more,by rw [Zv (YD q pd2)];exact q⟩
 · by_cases hb:b=D
   · subst hb
     rw [Yq]at e;cases e;exact⟨hz,its,n,hv,hD'⟩
   · rw [Zv hb]at e
     refine(I'.hok b o e).stay (λc v hc q=>(hs.2 c ?_).trans q) (λc q=>by rw [Zv (YD q pd2)];exact q) λc xs q=>by rw [Zv (YD q pd2)];exact q
     rintro rfl
     rcases hc with rfl|hc
     · rw [hCf]at e;cases e
     · rw [hCf]at hc;cases hc
 · obtain⟨f0,f1,f2,f3,f4,f5⟩:=hf b hb
   exact⟨f3,f1,f4,f5⟩
end
section
variable{X:Cx}{tg iter elt:Expr}{ifs:List Expr}{scope:Scope}{pos:Pos}{wi:TI}{g:TG}{tt:TT}{te:TE}{tn cn:List Str}{js:List Nat}
abbrev X0(X:Cx)(scope:Scope)(N':List Str)(C:Addr)(s₂:Shared)(H₂:Hp)(fp:List Addr):Cx:=U4 X scope N' C s₂ H₂ fp λ_ _=>False
theorem ZaE {pins:List (Addr×Obj)} {σ:St} {H₂:Hp} {s₂:Shared} {it:Addr} {fp:List Addr} {tnx:Nat->Heap->Prop} {J:It} {E:Value->Shared->Prop} {RR:Value->Addr->Result->Shared->Prop} {W:Nat->Nat->List V->Hp->Prop} {m0:Nat}
 (hc:X.calm=true) (S:CompSd X scope tn cn js)
 (hg:∀C s₂ H₂ fp,PG (X0 X scope (tn++cn) C s₂ H₂ fp) tg g) (ht:∀C s₂ H₂ fp,PTs (X0 X scope (tn++cn) C s₂ H₂ fp) ifs tt) (he:∀C s₂ H₂ fp,PE (X0 X scope (tn++cn) C s₂ H₂ fp) elt te)
 (I2:Inv X pins σ H₂ s₂) (T:Turn X.prog X.w X.K tg J fp it tnx) (st2:tnx 0 s₂.heap) (f2:∀b∈fp,Xm X pins H₂ b) (w0:W 0 m0 [] H₂)
 (turn:∀i m ys H,W i m ys H->(J.stop i H/\∀C D s its n σ',s₂.heap.objs.size<=C->s₂.heap.objs.size<=D->D≠C->Vals ys its->ys.length<=sizeLine ->
   Inv (X0 X scope (tn++cn) C s₂ H₂ fp) [(D,{ cls := .type "list",data := .seq its.toArray n })] σ' H s->RR (.ref D) C (.ok .next) s) \/
   (J.go i H/\∀x H',J.yld i H x H'->g x (blk tn.length σ js) H' λσ2 H2=>tt σ2 H2 λb H3=>
     if b=true then te σ2 H3 λy H4=>ys.length<sizeLine/\∃m',m'<m/\W (i+1) m' (ys++[y]) H4 else ∃m',m'<m/\W (i+1) m' ys H3)) :
 wpAny (model X.prog X.w) X.A (newList []) (λacc s₃=>wpAny (model X.prog X.w) X.A (newFunctionEnv scope X.env.globals (Xo X.env.cells scope.names []) [] X.env.qual none .none (some X.env)) (λcenv s₄=>
  codeAny (model X.prog X.w) X.A (.compStart (.ListComp elt [⟨tg,iter,ifs,0⟩] scope pos) 0 (.ref it) acc { cenv with scope:=relabel scope X.env }) (RR acc cenv.locals) s₄) E s₃) E s₂:=by
 refine wpAny_newObj_type (Zas ?_);dsimp only;generalize hH2:s₂.heap.push { cls := .type "list",dict:=none,data := .seq ([]:List Value).toArray }=HH;have hCs:HH.objs.size=s₂.heap.objs.size+1:=by rw [<-hH2,Heap.size_push]
 have hDC:s₂.heap.objs.size≠HH.objs.size:=by rw [hCs];exact Nat.ne_of_lt (Nat.lt_succ_self _)
 have hC:s₂.heap.objs.size<=HH.objs.size:=by rw [hCs];exact Nat.le_succ _
 have hD:s₂.heap.objs.size<=s₂.heap.objs.size:=Nat.le_refl _;have hHe:HH.objs.size+1=(HH.push { cls := .type "dict",data := .dict #[] }).objs.size:=(Heap.size_push ..).symm
 have hcs:∀x c,(Ux X scope HH.objs.size).lookup x=some c->HH.objs.size+1<=c->(pushCells (HH.push { cls := .type "dict",data := .dict #[] }) scope.names).IsCell c none:=λx c hx hc=>by
  unfold Ux at hx;rw [hHe]at hx;refine Zab (lo:=HH.objs.size+1) _ _ _ (λz d hz hd => ?_) hx hc;obtain⟨v,o,q,_⟩:=I2.cell z d (QA _ [] (S.clos I2.ok) (λ_ z=>by cases z) hz);exact absurd (Nat.lt_of_lt_of_le (Nat.lt_of_lt_of_le (Heap.lt_size q) hC) (Nat.le_of_succ_le hd)) (Nat.lt_irrefl _)
 have hns₁:(pushCells (HH.push { cls := .type "dict",data := .dict #[] }) scope.names).Ns HH.objs.size (λ_=>none):=(Heap.Ns.new HH (.type "dict")).keeps (pushCells_keeps _ _);generalize hh1:pushCells (HH.push { cls := .type "dict",data := .dict #[] }) scope.names=h₁ at hcs hns₁ ⊢
 have old:∀b o,s₂.heap.get? b=some o->h₁.get? b=some o:=λb o e=>by
  rw [<-hh1];exact pushCells_keeps _ _ b o (Heap.get?_push_of_some _ (hH2▸Heap.get?_push_of_some _ e))
 have hacc:h₁.get? s₂.heap.objs.size=some { cls := .type "list",dict:=none,data := .seq ([]:List Value).toArray }:=by
  rw [<-hh1];exact pushCells_keeps _ _ _ _ (Heap.get?_push_of_some _ (hH2▸Heap.get?_push_size _ rfl))
 have hob:=T.obj _ _ st2
 have I3:Inv (X0 X scope (tn++cn) HH.objs.size s₂ H₂ fp) [(s₂.heap.objs.size,{ cls := .type "list",dict:=none,data := .seq ([]:List Value).toArray })] (blk tn.length σ js) H₂ { s₂ with heap:=h₁ }:=
  ZbX (tk:=s₂.toks) S I2 hC hD hDC f2 hob old hns₁ hacc (λv z=>by cases z) hcs
 have st3:tnx 0 h₁:=T.keep _ _ _ st2 λb hb o e=>old b o e
 generalize hX':X0 X scope (tn++cn) HH.objs.size s₂ H₂ fp=X' at I3;generalize hs3:({ s₂ with heap:=h₁ }:Shared)=s3 at I3 ⊢;have st3':tnx 0 s3.heap:=by rw [<-hs3];exact st3
 have stat:∀{pins':List (Addr×Obj)}{H':Hp},(∀b∈fp,H' b=none)->(∀p∈pins',p.1=s₂.heap.objs.size)->∀b∈fp,Xm X' pins' H' b:=λ{pins' H'} hn hp b hb=>by
  subst hX';obtain⟨o,e,_⟩:=hob b hb;obtain⟨f0,f1,f2',f3,f4,f5⟩:=f2 b hb;refine⟨hn b hb,Nat.ne_of_lt (Nat.lt_of_lt_of_le (Heap.lt_size e) hC),λz=>(List.mem_cons.mp (I2.stkSub b z)).elim f1 f2',.inl hb,λx c h => ?_,λp hpp => ?_⟩
  · rcases Uy S I2.ok h with⟨q,_⟩|q
    · exact Nat.ne_of_gt (Nat.lt_of_lt_of_le (Nat.lt_of_lt_of_le (Heap.lt_size e) hC) (Nat.le_of_succ_le q))
    · exact f4 x c q
  have:p∈pins':=by
   have q:p∈([]:List (Addr×Obj))++pins':=hpp;simpa using q
  rw [hp p this];exact Nat.ne_of_gt (Heap.lt_size e)
 have Qo:codeAny (model X.prog X.w) X.A (.compLoop (.ListComp elt [⟨tg,iter,ifs,0⟩] scope pos) 0 (.ref it) (.ref s₂.heap.objs.size) X'.env) (RR (.ref s₂.heap.objs.size) HH.objs.size) s3:=by
  refine Zby (λk s'=>∃i ys its n H',Inv X' [(s₂.heap.objs.size,{ cls := .type "list",data := .seq its n })] (blk tn.length σ js) H' s'/\Vals ys its.toList/\ys.length<=sizeLine/\tnx i s'.heap/\(∀b∈fp,H' b=none)/\W i k ys H') ?_ m0
   ⟨0,[],#[],0,H₂,I3,.nil,Nat.zero_le _,st3',λb hb=>(f2 b hb).1,w0⟩
  rintro k s4 ⟨i,ys,its,n,H4,I4,hv4,hz4,st4,fr4,w4⟩
  have eP:X'.prog=X.prog:=by rw [<-hX'];rfl
  have eW:X'.w=X.w:=by rw [<-hX'];rfl
  have eK:X'.K=X.K:=by rw [<-hX'];rfl
  have eA:X'.A=X.A:=by rw [<-hX'];rfl
  have eC:X'.calm=true:=by rw [<-hX'];exact hc
  have eE:X'.xe=λ_ _=>False:=by rw [<-hX'];rfl
  rcases turn i k ys H4 w4 with⟨stop,qn⟩|⟨go,step⟩
  · have z:=T.done X' eP eW eK eC i _ s4 (blk tn.length σ js) H4 (λ_ _=>False) I4 (stat fr4 (λp hp=>by simp at hp;rw [hp])) st4 stop
    rw [eA]at z;refine UN (thn z λr s5 ⟨hr,I5⟩ => ?_);subst hr;subst hX';exact qn _ _ s5 its.toList n _ hC hD hDC hv4 hz4 (by simpa using I5)
  · have z:=T.item X' eP eW eK eC i _ s4 (blk tn.length σ js) H4 (λ_ _=>False) I4 (stat fr4 (λp hp=>by simp at hp;rw [hp])) st4 go
    rw [eA]at z;refine UN (thn z λr s5 ⟨u,hr,h5⟩ => ?_);subst hr;refine UN (thn h5 λ_ s6 ⟨x,H6,I6,r6,y6,st6,fr6⟩ => ?_);have I6':=I6.pinned (stat fr6 (λp hp=>by simp at hp;rw [hp])) (T.obj _ _ st6);have hg':PG X' tg g:=by rw [<-hX'];exact hg _ _ _ _
    have ht':PTs X' ifs tt:=by rw [<-hX'];exact ht _ _ _ _
    have he':PE X' elt te:=by rw [<-hX'];exact he _ _ _ _
    have z7:=hg' _ s6 _ H6 x u _ I6' r6 (step x H6 y6);rw [eP,eW,eA,eE]at z7;refine UN (thn z7 λ_ s7 ⟨σ7,H7,I7,q7⟩ => ?_);have z8:=ht' _ s7 σ7 H7 _ I7 q7;rw [eP,eW,eA,eE]at z8;refine UN (thn z8 λok s8 ⟨H8,I8,q8⟩ => ?_)
    have key:∀{σ9:St}{H9:Hp}{s9:Shared}{its':Array Value}{n':Nat},Inv X' ([(s₂.heap.objs.size,{ cls := .type "list",data := .seq its' n' })]++Ve fp s6.heap) σ9 H9 s9 ->
     Inv X' [(s₂.heap.objs.size,{ cls := .type "list",data := .seq its' n' })] (blk tn.length σ js) H9 s9/\tnx (i+1) s9.heap/\∀b∈fp,H9 b=none:=λ{σ9 H9 s9 its' n'} I9=>by
     refine⟨?_,T.keep _ _ _ st6 λb hb o e=>(I9.pin (b,o) (List.mem_append_right _ (List.mem_append_right _ (Jr hb e)))).1,λb hb => ?_⟩
     · have I9':=I9.unpinned
       subst hX';exact ZbW S I2 f2 I9'
     · obtain⟨o,e,d⟩:=T.obj _ _ st6 b hb
       exact(I9.pin (b,o) (List.mem_append_right _ (List.mem_append_right _ (Jr hb e)))).2.1
    cases ok with
    |false=>
     rw [if_neg Bool.false_ne_true]at q8 ⊢;obtain⟨m',hm,w8⟩:=q8;obtain⟨I9,st9,fr9⟩:=key I8;exact⟨m',hm,i+1,ys,its,n,H8,I9,hv4,hz4,st9,fr9,w8⟩
    |true=>
     rw [if_pos rfl]at q8 ⊢;have z9:=he' _ s8 σ7 H8 _ I8 q8;rw [eP,eW,eA,eE]at z9;refine UN (thn z9 λv s9 ⟨y,H9,I9,r9,hl9,m',hm,w9⟩ => ?_);have pd:=I9.pin (s₂.heap.objs.size,{ cls := .type "list",data := .seq its n }) (List.mem_append_right _ (List.mem_append_left _ List.mem_cons_self));have hpl:s9.heap.PlainList s₂.heap.objs.size its:=⟨n,pd.1⟩
     have hlen:its.size=ys.length:=by rw [hv4.length];simp
     refine wpAny_list_append_plain (hsz:=by omega) hpl λh10 hl10 hs10 => ?_
     obtain⟨n10,e10⟩:=hl10;have I10:Inv X' (Ve fp s6.heap) σ7 H9 s9:=I9.pins_of λp hp=>I9.pin p (List.mem_append_right _ (List.mem_append_right _ hp))
     have nD:∀b∈fp,b≠s₂.heap.objs.size:=λb hb=>by
      obtain⟨o,e,_⟩:=hob b hb;exact Nat.ne_of_lt (Heap.lt_size e)
     have I11:Inv X' (Ve fp s6.heap) σ7 H9 { s9 with heap:=h10 }:=by
      refine I10.turned (t':=s9.toks) (it:=s₂.heap.objs.size) (λb o hb e=>(hs10.2 b hb).trans e) pd.2.1 pd.2.2.1 ?_ ?_ ?_
      · subst hX';exact .inr (Nat.le_refl _)
      · subst hX'
        intro x c h;rcases Uy S I2.ok h with⟨z,_⟩|z
        · exact Nat.ne_of_gt (Nat.lt_of_lt_of_le (Nat.lt_of_lt_of_le (Nat.lt_succ_self _) (Nat.le_of_eq hCs.symm)) (Nat.le_of_succ_le z))
        · obtain⟨v',o',q,_⟩:=I2.cell x c z
          exact Nat.ne_of_lt (Heap.lt_size q)
      · intro p hp
        have hp':p∈Ve fp s6.heap:=by
         subst hX';have q:p∈([]:List (Addr×Obj))++Ve fp s6.heap:=hp;simpa using q
        exact nD _ (Za9 hp').1
     have I12:Inv X' ([(s₂.heap.objs.size,{ cls := .type "list",data := .seq (its.push v) n10 })]++Ve fp s6.heap) σ7 H9 { s9 with heap:=h10 }:=I11.pins_of λp hp=>by
      rcases List.mem_append.mp hp with q|q
      · have e:p=(s₂.heap.objs.size,{ cls := .type "list",data := .seq (its.push v) n10 }):=by simpa using q
        subst e;exact⟨e10,pd.2.1,pd.2.2.1,pd.2.2.2.1,λv z=>by cases z⟩
      · exact I11.pin p (List.mem_append_right _ q)
     obtain⟨J1,J2,J3⟩:=key I12;refine⟨m',hm,i+1,ys++[y],its.push v,n10,H9,J1,?_,?_,J2,J3,w9⟩
     · have:(its.push v).toList=its.toList++[v]:=by simp
       rw [this];exact hv4.append (.cons r9 .nil)
     · rw [List.length_append,List.length_singleton]
       omega
 have eEnv:({ newEnv scope HH.objs.size X.env.globals (cellsFrom (HH.objs.size+1) scope.names (Xo X.env.cells scope.names [])) X.env.qual none .none (some X.env) builtinsNs with scope:=relabel scope X.env }:Env)=X'.env:=by rw [<-hX'];rfl
 have loop2:=Qo;rw [<-eEnv]at Qo loop2;exact codeAny_compStart_list Qo (T.self X.A 0 s3 _ _ st3' loop2)
theorem X8 (hc:X.calm=true) (S:CompSd X scope tn cn js) (hi:PI X tg iter wi)
 (hg:∀C s₂ H₂ fp,PG (X0 X scope (tn++cn) C s₂ H₂ fp) tg g) (ht:∀C s₂ H₂ fp,PTs (X0 X scope (tn++cn) C s₂ H₂ fp) ifs tt) (he:∀C s₂ H₂ fp,PE (X0 X scope (tn++cn) C s₂ H₂ fp) elt te)
 (hs:∀x,foldedSetIterable iter X.env x=pure x:=by intro _;rfl) :
 PE X (.ListComp elt [⟨tg,iter,ifs,0⟩] scope pos) (Zfi wi g tt te tn.length js):=by
 intro pins s σ H Q I h;rw [eval_ListComp];refine wpAny_comprehension_free (use:=none) (cl:=Xo X.env.cells scope.names []) rfl hs (Zal (S.clos I.ok)) S.kind S.names (thn (hi pins s σ H _ I h) λv s1 h1=>thn h1 λitv s2 h2 => ?_);obtain⟨it,fp,tnx,J,H2,e,I2,T,st2,f2,W,⟨m0,w0⟩,turn⟩:=h2;subst e;refine ZaE (RR:=λacc C=>compPost (model X.prog X.w) X.A X.xe none (EP X pins σ Q) acc C) (W:=W) (m0:=m0) hc S hg ht he I2 T st2 f2 w0 λi m ys H w => ?_
 rcases turn i m ys H w with⟨stop,qn⟩|r
 · refine .inl ⟨stop,λC D s its n σ' hC hD hDC hv hz I' => ?_⟩
   obtain⟨m',hn,_⟩:=id I'.loc;refine⟨m',hn,λh' hs' => ?_⟩;have pd:=I'.pin (D,{ cls := .type "list",data := .seq its.toArray n }) (List.mem_append_right _ List.mem_cons_self);exact⟨.ref D,_,Zbm S I2 hC hD hDC f2 I' hv hz hs',rfl,qn D pd.2.1⟩
 · exact .inr r
end
end L2
namespace L2
open PySem PySem.Spec PyProof.Rows
section
variable{X:Cx}{scope:Scope}{tn cn:List Str}{js:List Nat}{tg iter elt:Expr}{ifs:List Expr}{pos spos pos':Pos}{wi:TI}{g:TG}{tt:TT}{te:TE}
theorem QS {i:Nat} {x:Str} (hN:X.N.Nodup) (hi:X.N[i]? = some x) (hx:X.env.scope.names.lookup x=some .local) (hc:X.calm=true) (S:CompSd X scope tn cn js) (hI:PI X tg iter wi)
 (hg:∀C s₂ H₂ fp,PG (X0 X scope (tn++cn) C s₂ H₂ fp) tg g) (ht:∀C s₂ H₂ fp,PTs (X0 X scope (tn++cn) C s₂ H₂ fp) ifs tt) (he:∀C s₂ H₂ fp,PE (X0 X scope (tn++cn) C s₂ H₂ fp) elt te)
 (hsw:swapsWith (.ListComp elt [⟨tg,iter,ifs,0⟩] scope pos) (some (.Name x pos')) spos.line X.env=pure true:=by rfl)
 (hs:∀x,foldedSetIterable iter X.env x=pure x:=by intro _;rfl) :
 PS X (.Assign [.Name x pos'] (.ListComp elt [⟨tg,iter,ifs,0⟩] scope pos) spos) (Um (Zfi wi g tt te tn.length js) (Vd i)):=by
 intro pins s σ H D I h;rw [exec_Assign_Name_used _ _ _ _ hsw];refine wpAny_bind (wpAny_standAt (wpAny_bind ?_));show wpAny _ X.A (do let _ <-comprehension (.ListComp elt [⟨tg,iter,ifs,0⟩] scope pos) scope X.env _ (newList []) false (eval iter X.env) (some (assign (.Name x pos') X.env))) _ _ s
 refine wpAny_bind (wpAny_mono (wpAny_comprehension_free (use:=some (assign (.Name x pos') X.env)) (Q:=λ_ s'=>SP X pins D .next s') (cl:=Xo X.env.cells scope.names []) rfl hs (Zal (S.clos I.ok)) S.kind S.names
  (thn (hI pins s σ H _ I h) λv s1 h1=>thn h1 λitv s2 h2 => ?_)) (λ_ s' hq=>wpAny_pure (wpAny_pure hq)) λ_ _ e=>e)
 obtain⟨it,fp,tnx,J,H2,e,I2,T,st2,f2,W,⟨m0,w0⟩,turn⟩:=h2;subst e;refine ZaE (RR:=λacc C=>compPost (model X.prog X.w) X.A X.xe (some (assign (.Name x pos') X.env)) (λ_ s'=>SP X pins D .next s') acc C) (W:=W) (m0:=m0) hc S hg ht he I2 T st2 f2 w0 λi' m ys H w => ?_
 rcases turn i' m ys H w with⟨stop,qn⟩|r
 · refine .inl ⟨stop,λC D' s its n σ' hC hD hDC hv hz I' => ?_⟩
   obtain⟨m',hn,_⟩:=id I'.loc;have pd:=I'.pin (D',{ cls := .type "list",data := .seq its.toArray n }) (List.mem_append_right _ List.mem_cons_self);have hCf:H C=none:=I'.free;have I1:Inv X pins σ (upd H D' (.lst ys)) { s with heap:=s.heap }:=Zbm S I2 hC hD hDC f2 I' hv hz (Heap.SameBut.refl _ _);show wpAny _ X.A (assign (.Name x pos') X.env (.ref D')) _ _ _;have hlC:X.env.locals≠C:=λz=>absurd (z▸I2.lt) (Nat.not_lt.mpr hC)
   have hcC:∀y c,X.env.cells.lookup y=some c->c≠C:=λy c e z=>by
    obtain⟨v',o',q,_⟩:=I2.cell y c e;exact absurd (Heap.lt_size q) (Nat.not_lt.mpr (z▸hC))
   refine wpAny_assign_Name (Za8 I1 hN hi (.inl hx) (v:=.ref D') rfl (λs3 I3 ⟨a,hsb,ha⟩ => ?_) (.inr hx))
   have hCa:C≠a:=by
    rcases ha with rfl|ha
    · exact Ne.symm hlC
    · exact Ne.symm (hcC _ _ ha)
   refine⟨m',hn.sameBut hsb hCa,λh' hs' => ?_⟩;have hCn:upd H D' (.lst ys) C=none:=by rw [Zv (Ne.symm hDC)];exact hCf
   have I4:Inv X pins (σ.set i (some (.ref D'))) (upd H D' (.lst ys)) { s3 with heap:=h',toks:=s3.toks }:=I3.turned (it:=C) (λb o hb e=>(hs'.2 b hb).trans e) hCn (Ne.symm hlC) (.inr (Nat.le_trans (Nat.le_trans I2.ok.above (Nat.le_of_lt I2.lt)) hC)) (λy c e=>hcC y c e) λp hp z=>by
    have:=(I2.pin p hp).1;exact absurd (Heap.lt_size this) (Nat.not_lt.mpr (z▸hC))
   exact⟨_,_,I4,qn D' pd.2.1⟩
 · exact .inr r
theorem CompSd.mkG{on:List (Str×NameKind)}(hk:scope.kind = .function)(ho:∀y,on.lookup y=some .cell\/on.lookup y=some .free->X.env.kindOf y=some .cell\/X.env.kindOf y=some .free)(h:ZbK on X.N scope.names cn js=true):CompSd X scope tn cn js:=by
 unfold ZbK at h;simp only [Bool.and_eq_true,List.all_eq_true]at h;obtain⟨⟨⟨⟨h1,h2⟩,h3⟩,h4⟩,h5⟩:=h;have hlen:cn.length=js.length:=by simpa using h5
 refine⟨hk,λy hy e=>by simpa [e]using h1 y hy,λy hy e=>by simpa [e]using h2 y hy,λy hy e=>ho _ (by simpa [e]using h3 y hy),λk x e => ?_,hlen⟩;have hkj:k<js.length:=hlen▸(List.getElem?_eq_some_iff.mp e).1;have:=h4 (x,js[k]) (List.mem_of_getElem? (i:=k) (List.getElem?_zip_eq_some.mpr ⟨e,by simp [hkj]⟩));simp only [Bool.and_eq_true,Bool.or_eq_true,beq_iff_eq]at this
 exact⟨js[k],by simp [hkj],this.1.1,ho _ this.1.2,this.2⟩
theorem CompSd.mk1{osc:Scope}{oN:List Str}(hk:scope.kind = .function)(ho:X.env.scope=osc)(hN:X.N=oN)(h:ZbK osc.names oN scope.names cn js=true):CompSd X scope tn cn js:=CompSd.mkG (on:=osc.names) hk (λy e=>by unfold Env.kindOf;rw [ho];exact e) (hN▸h)
end
end L2
namespace L2
open PySem PySem.Spec
theorem fsm {N P:List Str} {sc:Scope} (a:sc.kind = .function:=by rfl) (b:sc.isCoroutine=false:=by rfl) (c:sc.isGenerator=false:=by rfl) (d:N.Nodup:=by decide +kernel) (e:N.take P.length=P:=by rfl)
 (f:∀x∈P,sc.names.lookup x=some .local\/sc.names.lookup x=some .cell:=by decide +kernel) (g:∀y∈sc.names,y.2 ≠ .free:=by decide +kernel):FnScope N P sc:=⟨a,b,c,d,e,f,g⟩
structure Df(K:PySem.W.Frag)(x q:Str)(st:Stmt)(a:Addr)(fd:FuncData)(ps:List Str):Prop where
 f:FunX K x q st a fd
 b:Binds K fd ps []
 k:keepIn K (.ref a)=true
structure Dg(K:PySem.W.Frag)(mg:Str->Option Value)(x:Str)(st:Stmt)(a:Addr)(fd:FuncData)(ps:List Str):Prop extends Df K x x st a fd ps where
 g:mg x=some (.ref a)
structure Fg(K:PySem.W.Frag)(x:Str)(st:Stmt)(f:Addr)(fd:FuncData):Prop where
 a:nsIn K mainGlobals x=some (some (.ref f))
 l:Fun K x x st f fd
variable{K:PySem.W.Frag}{h:Heap}{mg:Str->Option Value}{x q:Str}{st:Stmt}{f:Addr}{fd:FuncData}{ps:List Str}
theorem Fun.df (F:Fun K x q st f fd) (b:∀(kV doc pm:Value)(an:Option Addr)(cdv ct:Value)(us:List Value),us.length=ps.length->bindArgs (fnOf x q (defArgs st) (defBody st) (defScope st) .none kV doc pm an cdv ct) ⟨us,[]⟩=pure (ps.zip us):=by
 intro _ _ _ _ _ _ us hl;rcases us with _|⟨_,_|⟨_,_|⟨_,_|⟨_,_|⟨_,_|⟨_,_|⟨_,_⟩⟩⟩⟩⟩⟩⟩<;>first|(exfalso;simp at hl;done)|rfl):Df K x q st f fd ps:=⟨F.x,F.binds b,F.kp⟩
theorem Fg.dg(F:Fg K x st f fd)(X:K.In h)(G:h.Ns mainGlobals mg)(D:Df K x x st f fd ps):Dg K mg x st f fd ps:=⟨D,mg_of X G F.a⟩
theorem Fg.of {oc:Value} {od an:Option Addr} {osl:Array (Option Value)} {kV doc pm cdv ct:Value} (a:nsIn K mainGlobals x=some (some (.ref f))) (l:K.lookup f=some ⟨oc,od,.func (fnOf x x (defArgs st) (defBody st) (defScope st) .none kV doc pm an cdv ct),osl⟩)
 (c:codeIn K cdv x=true) (k:keepIn K (.ref f)=true):Fg K x st f (fnOf x x (defArgs st) (defBody st) (defScope st) .none kV doc pm an cdv ct):=⟨a,fun_mk l c k⟩
end L2
namespace PySem
abbrev Zg2(h:Heap)(z TI TO:Addr)(f0 f1:Value):Prop:=
 h.get? z=some { cls := .type "zip",dict:=none,data := .fields #[f0,f1,.bool false,.ref TI,.ref TO],slots := #[] }
section
variable{prog:Program}{w:World}{A:Around}{E:Value->Shared->Prop}{s:Shared}
structure ZipSt(h:Heap)(z TI TO i1 i2 l1 l2:Addr)(i:Nat):Prop where
 zip:∃f0 b,Zg2 h z TI TO f0 (.bool b)/\((f0 = .none/\b=false)\/∃T o,f0=rawInt (T:Nat)/\h.get? T=some o)
 TI:IsPair h TI (.ref i1) (.ref i2)
 TO:∃a b,IsPair h TO a b
 it1:h.IsListIter i1 l1 i
 it2:h.IsListIter i2 l2 i
end
end PySem
namespace L2
open PySem PySem.Spec PyProof.Rows
end L2
namespace L2
open PySem PySem.Spec PyProof.Rows
theorem vals_refs:∀ps:List Addr,Vals (ps.map V.ref) (ps.map Value.ref)
 | [] => .nil
 |p::ps => .cons rfl (vals_refs ps)
section
variable{X:Cx}
open Classical in
end
end L2
namespace DL
open PySem PySem.Spec L2
section
variable{cA:Kn}{G:Cn}{ow:List Nat}
end
end DL
namespace L2
open PySem PySem.Spec PyProof.Rows
end L2
namespace DL
open PySem PySem.Spec L2
end DL
namespace DL
open PySem PySem.Spec L2
section
variable{cA:Kn}{G:Cn}{ow owN owB owC:List Nat}{H0 H H':Hp}{av:Addr->Prop}{A:Nat->Option Addr}{σ:L2.St}{δ:Env}
end
end DL
namespace DL
open PySem PySem.Spec PyProof.Rows L2
section
variable{prog:Program}{w:World}{A:Around}{E:Value->Shared->Prop}{s:Shared}{l:Addr}{xs:Array (Int×Tok)}
theorem ZbY {Q:Value->Shared->Prop} (hl:s.heap.IsTuple l (intItems xs))
 (h:∀s₂:Shared,s₂={ s with heap:=s.heap.push { cls := .type "tuple_iterator",data := .fields #[.ref l,.int 0 0] } } ->
   (s₂.heap.IsTupleIter s.heap.objs.size l 0/\s₂.heap.IsTuple l (intItems xs))->(∀b∈[s.heap.objs.size,l],b<s₂.heap.objs.size)->l≠s.heap.objs.size->Q (.ref s.heap.objs.size) s₂) :
 wpAny (model prog w) A (pyIter (.ref l)) Q E s:=by
 have hlt:l<s.heap.objs.size:=by obtain⟨_,e,_⟩:=hl;exact Heap.lt_size e
 refine wpAny_pyIter_tuple hl (h _ rfl ⟨⟨_,Heap.get?_push_size _ rfl,rfl,rfl⟩,hl.push _⟩ (λb hb => ?_) (Nat.ne_of_lt hlt));show b<(s.heap.push _).objs.size;rw [Heap.size_push];rcases List.mem_cons.mp hb with rfl|hb
 · exact Nat.lt_succ_self _
 · rcases List.mem_cons.mp hb with rfl|hb
   · exact Nat.lt_succ_of_lt hlt
   · cases hb
theorem ZdP {h':Heap} (hk:∀b o,b∉[s.heap.objs.size]->(s.heap.push { cls := .type "tuple_iterator",data := .fields #[.ref l,.int 0 0] }).get? b=some o->h'.get? b=some o) :
 ∀b o,s.heap.get? b=some o->h'.get? b=some o:=λb o e=>by
 refine hk b o (λhm => ?_) (Heap.get?_push_of_some _ e);rcases List.mem_cons.mp hm with e1|hm
 · exact absurd (e1▸Heap.lt_size e) (Nat.lt_irrefl _)
 · cases hm
theorem ZcD {Q:Value->Shared->Prop} (hh:A.handled=none) (hl:s.heap.IsTuple l (intItems xs)) (hne:0<xs.size)
 (h:∀v h' tk,(intItems xs)[argBest (λi j=>decide (numAt xs i<numAt xs j)) (xs.size-1)]? = some v->(∀b o,s.heap.get? b=some o->h'.get? b=some o)->Q v { s with heap:=h',toks:=tk }) :
 wpAny (model prog w) A (call (.builtin "min") [.ref l]) Q E s:=by
 refine call_min_walk (ZbY hl λs₂ e st hfp hlI => ?_);subst e;refine⟨_,_,_,_,_,_,_,rfl,Walks.tuple (A:=A.in1) hh _ l hlI (intItems xs),st,hfp,by simpa [intItems]using hne,CmpOf.ints_lt (numAt xs) (λ_ _=>intItems_at),λv h' tk hP hk => ?_⟩;exact h v h' tk (by simpa [intItems]using hP) (ZdP hk)
end
def Zgo(K:PySem.W.Frag):List V->Hp->VK->Prop:=λxs H Q=>∃(p:Addr) (ns:List Int),xs=[.ref p]/\SqT K H p (ns.map V.int)/\0<ns.length/\Q (.int (VH ns)) H
def Zgp(K:PySem.W.Frag):List V->Hp->VK->Prop:=λxs H Q=>Zfo K xs H Q\/Zgo K xs H Q
section
variable{X:Cx}{K:PySem.W.Frag}{cA:Kn}
theorem ZdQ(hc:X.calm=true):YI X (.builtin "min") (Zgo X.K):=by
 intro pins s σ H xs us Q I rs h;obtain⟨p,ns,rfl,hq,hne,q⟩:=h;obtain⟨u,rfl,rx⟩:=Y2 rs;cases rx;obtain⟨its,rv,hl,hz⟩:=I.tuple hq;have hi:=JT ns its rv;obtain⟨ys,e⟩:=hi.allInts.items
 have hns:ns=ys.toList.map (·.1):=by
  rw [<-hi.numsOf,<-nums_intItems,<-e]
 have hsz:0<ys.size:=by
  have h3:=hne;rw [hns,List.length_map,Array.length_toList]at h3;exact h3
 rw [e]at hl;refine ZcD (I.ok.hd hc) hl hsz λv h' tk hv hk => ?_
 obtain⟨t,rfl⟩:=intItems_at hv;obtain⟨h1,h2⟩:=argBest_lt (numAt ys) (ys.size-1)
 have hM:=ZaA (ns:=ns) (M:=numAt ys (argBest (λi j=>decide (numAt ys i<numAt ys j)) (ys.size-1))) (by
  rw [hns,numAt_eq];exact getD_mem (by rw [List.length_map,Array.length_toList];omega)) (λa ha=>by
  rw [hns]at ha;obtain⟨j,hj,rfl⟩:=mem_getD ha;rw [List.length_map,Array.length_toList]at hj;rw [<-numAt_eq];exact h2 j (by omega))
 exact⟨.int (VH ns),H,I.kept hk,⟨t,by rw [hM]⟩,q⟩
theorem Zg3(hc:X.calm=true:=by rfl)(hK:X.K=K:=by rfl):YI X (.builtin "min") (Zgp K):=hK▸λpins s σ H xs us Q I rs h=>h.elim (ZdO hc pins s σ H xs us Q I rs) (ZdQ hc pins s σ H xs us Q I rs)
def minQD:List D->Option D
 | [.tup xs]=>match XZ xs with
  |some ns=>if 0<ns.length then some (.int (VH ns))else none
  |none=>none
 |ds=>minLD ds
theorem ZfQ:V1 cA (Zgp cA.K) minQD:=λi H ds vs d ha h e Q k=>by
 unfold minQD at e
 split at e
 · rename_i xs
   cases hb:XZ xs with
   |none=>rw [hb]at e;cases e
   |some bs=>
    rw [hb]at e;dsimp only at e
    by_cases hz:0<bs.length
    · rw [if_pos hz]at e
      cases e;obtain⟨v,t,rfl,a,ws,rfl,_,rd,l⟩:=il1 h;have ex:=JS hb;subst ex;have ev:=l.vals (by rw [List.all_map];exact List.all_eq_true.mpr λ_ _=>rfl);rw [List.map_map]at ev;subst ev;exact .inr ⟨a,bs,rfl,SqT.of rd,hz,k _ H (Same.refl H) rfl⟩
    · rw [if_neg hz]at e;cases e
 · exact .inl (ZfP i H _ vs d ha h e Q k)
end
end DL
namespace DL
open PySem PySem.Spec L2
section
variable{cA:Kn}{G:Cn}{ow:List Nat}
def NewL(H0 H:Hp)(vs:List V):Prop:=∀v∈vs,∃b ws,v = .ref b/\H b=some (.lst ws)/\H0 b=none
theorem NewL.same{H0 H H':Hp}{vs:List V}(h:NewL H0 H vs)(s:Same H H'):NewL H0 H' vs:=λv hv=>let⟨b,ws,e,r,f⟩:=h v hv;⟨b,ws,e,s _ _ r,f⟩
mutual
theorem Rep.kind{av:Addr->Prop}{H H':Hp}:∀{d:D}{v:V},frz d=true->(∀b o,H b=some o->(∀vs,o ≠ .lst vs)->H' b=some o)->Rep cA av H d v->Rep cA av H' d v
 | .non,_,_,_,h=>h
 | .bl _,_,_,_,h=>h
 | .int _,_,_,_,h=>h
 | .str _,_,_,_,h=>h
 | .lst xs,v,hf,k,h=>by cases hf
 | .tup xs,v,hf,k,h=>by
  unfold DL.frz at hf;unfold Rep at h ⊢;obtain⟨a,vs,e,n,r,l⟩:=h;exact⟨a,vs,e,n,k _ _ r (λ_ z=>by cases z),RepL.kind hf k l⟩
 | .obj c ks xs,v,hf,k,h=>by
  unfold DL.frz at hf;unfold Rep at h ⊢;obtain⟨a,dx,vs,e,n,r,z,l⟩:=h;exact⟨a,dx,vs,e,n,k _ _ r (λ_ z=>by cases z),z,RepL.kind hf k l⟩
 | .dct ks xs,v,hf,k,h=>by cases hf
 | .dtt ks xs,v,hf,k,h=>by cases hf
theorem RepL.kind{av:Addr->Prop}{H H':Hp}:∀{xs:List D}{vs:List V},frzL xs=true->(∀b o,H b=some o->(∀vs,o ≠ .lst vs)->H' b=some o)->RepL cA av H xs vs->RepL cA av H' xs vs
 | [],_,_,_,h=>h
 |x::xs,vs,hf,k,h=>by
  unfold DL.frzL at hf;rw [Bool.and_eq_true]at hf;unfold RepL at h ⊢;obtain⟨v,r,e,h1,h2⟩:=h;exact⟨v,r,e,Rep.kind hf.1 k h1,RepL.kind hf.2 k h2⟩
end
structure Turned(H0 H H':Hp)(S:Addr->Prop):Prop where
 else_:∀b,¬S b->H' b=H b
 lst:∀b,S b->∃ws,H' b=some (.lst ws)
 old:∀b,S b->∃ws,H b=some (.lst ws)
 new:∀b,S b->H0 b=none
theorem Turned.kind{H0 H H':Hp}{S:Addr->Prop}(T:Turned H0 H H' S):∀b o,H b=some o->(∀vs,o ≠ .lst vs)->H' b=some o:=λb o e n=>by
 have hs:¬S b:=λz=>by
  obtain⟨ws,w⟩:=T.old b z;rw [w]at e;cases e;exact n ws rfl
 rw [T.else_ b hs];exact e
theorem Turned.same{H0 H H':Hp}{S:Addr->Prop}(T:Turned H0 H H' S)(s:Same H0 H):Same H0 H':=λb o e=>by
 have hs:¬S b:=λz=>by rw [T.new b z]at e;cases e
 rw [T.else_ b hs];exact s b o e
end
end DL
namespace DL
open PySem PySem.Spec L2
section
variable{cA:Kn}{G:Cn}{owN owB owC:List Nat}
theorem Turned.more{H0 H H':Hp}{S S':Addr->Prop}(T:Turned H0 H H' S)(hs:∀b,S b->S' b)(h1:∀b,S' b->∃ws,H b=some (.lst ws))(h2:∀b,S' b->H0 b=none):Turned H0 H H' S':=
 ⟨λb hb=>T.else_ b λz=>hb (hs b z),λb hb=>by
   by_cases z:S b
   · exact T.lst b z
   · rw [T.else_ b z];exact h1 b hb,h1,h2⟩
end
end DL
namespace PySem
open Sem (wp)
open AutoSeq1 (wpAny_loadPart')
section
variable{prog:Program}{w:World}{A:Around}{E:Value->Shared->Prop}{s:Shared}
end
end PySem
namespace L2
open PySem PySem.Spec PyProof.Rows
section
variable{X:Cx}{elts:List Expr}{x1:Nat}{tpos:Pos}
end
end L2
namespace DL
open PySem PySem.Spec L2
section
variable{cA:Kn}{G:Cn}{ow:List Nat}
end
end DL
namespace DL
open PySem PySem.Spec L2
section
variable{cA:Kn}{G:Cn}{ow owB owC:List Nat}
def U5:D->D->Option D
 | .lst a,.lst b=>JU (.lst a) (.lst b)
 |_,_=>none
theorem Zg4{ta tb:TE}{a b:Env->Option D}(ha:VE G ow ta .cl a)(hb:VE G ow tb .cl b):VF G ow (tOp (Zfn G.1.K) ta tb) (eOp U5 a b):=λH0 av A σ H δ E d e Q k=>by
 obtain⟨x,y,ex,ey,ed⟩:=JD e;unfold U5 at ed
 split at ed
 · rename_i xs ys
   dsimp only [JU]at ed
   by_cases hz:xs.length+ys.length<=sizeLine
   · rw [if_pos hz]at ed
     cases ed;refine ha H0 av A σ H δ E _ ex _ λv H1 s1 r1=>hb H0 av A σ H1 δ (E.mono s1) _ ey _ λw H2 s2 r2 => ?_
     obtain⟨a1,vs1,rfl,na,rd,l1⟩:=r1;obtain⟨a2,vs2,rfl,nb,rd2,l2⟩:=r2;refine .inr (.inr ⟨a1,a2,vs1,vs2,rfl,rfl,s2.seq rd,rd2,by rw [<-l1.length,<-l2.length];exact hz,λp hp=>k p _ _ H2 (s1.trans s2) hp ((l1.same s2).append l2) rfl⟩)
   · rw [if_neg hz]at ed;cases ed
 · cases ed
end
end DL
namespace DL
open PySem PySem.Spec L2 PyProof.Rows
section
variable{X:Cx}{cA:Kn}
open Classical in
theorem Zew{pins:List (Addr×Obj)}{s:Shared}{σ:L2.St}{H:Hp}{x:V}{v:Value}{av av':Addr->Prop}{dx:D}{ys:List D}{vs:List V}{its:List Value}(hu:X.A.units+64<cLine)(hK:cA.K=X.K)(I:Inv X pins σ H s)(rx:RelV x v)(r:Vals vs its)(hx:Rep cA av H dx x)(hl:RepL cA av' H ys vs)(sx:SeqAt.shaped (toP dx)=true)(sy:∀d∈ys,SeqAt.shaped (toP d)=true)(dp:(toP dx).depth<=60) :
 ∃f:Value->Bool,(∀w,w∈its.toArray->SeqAt.EqAt X.A.in1 s w v (f w))/\its.toArray.any f=ys.any (eqP dx):=by
 obtain⟨bs,rb⟩:=Ut hK I dx x v (SeqAt.canLay_of_shaped sx) hx rx
 have key:∀(k:Nat)(w:Value),its[k]? = some w->∃d as,ys[k]? = some d/\Reads s.heap w (toP d) as:=λk w e=>by
  have hk:k<vs.length:=by
   have h1:=(List.getElem?_eq_some_iff.mp e).1;have h2:=r.length;omega
  obtain⟨w',e1',e2⟩:=r.get (List.getElem?_eq_getElem hk);have e1:=List.getElem?_eq_getElem hk;rw [e]at e1';cases e1';obtain⟨d,e3,e4⟩:=hl.getV e1;obtain⟨as,ra⟩:=Ut hK I d _ w (SeqAt.canLay_of_shaped (sy d (List.mem_of_getElem? e3))) e4 e2;exact⟨d,as,e3,ra⟩
 let f:Value->Bool:=λw=>decide (∃(k:Nat) (d:D),its[k]? = some w/\ys[k]? = some d/\eqP dx d=true)
 have hf:∀(k:Nat)(w:Value)(d:D),its[k]? = some w->ys[k]? = some d->f w=eqP dx d:=λk w d e1 e2=>by
  obtain⟨d0,as,g1,g2⟩:=key k w e1;rw [e2]at g1;cases g1
  by_cases hh:eqP dx d=true
  · rw [hh];exact decide_eq_true ⟨k,d,e1,e2,hh⟩
  · have : f w = false := decide_eq_false fun ⟨k', d', z1, z2, z3⟩ => by
     obtain⟨d1,as',g3,g4⟩:=key k' w z1;rw [z2]at g3;cases g3;have:=SeqAt.Reads.unique _ _ w _ _ (SeqAt.canLay_of_shaped (sy d (List.mem_of_getElem? e2))) g2 g4;unfold eqP at hh z3;rw [this]at hh;exact hh z3
    rw [this];simpa using hh
 refine⟨f,λw hw => ?_,?_⟩
 · obtain⟨k,hk,e⟩:=List.mem_iff_getElem.mp (show w∈its by simpa using hw)
   have e':its[k]? = some w:=by rw [List.getElem?_eq_getElem hk,e]
   obtain⟨d,as,g1,g2⟩:=key k w e';rw [hf k w d e' g1]
   exact SeqAt.eqAt_reads _ _ _ s w v as bs g2 rb (SeqAt.canLay_of_shaped (sy d (List.mem_of_getElem? g1))) (SeqAt.canLay_of_shaped sx) (by
    have h1:min (toP d).depth (toP dx).depth<=(toP dx).depth:=Nat.min_le_right _ _;have h2:X.A.in1.units<=X.A.units+1:=Nat.le_refl _;omega)
 · rw [show its.toArray.any f=its.any f by simp]
   rw [Bool.eq_iff_iff,List.any_eq_true,List.any_eq_true];constructor
   · rintro⟨w,hw,e⟩
     obtain⟨k,hk,ek⟩:=List.mem_iff_getElem.mp hw;have e':its[k]? = some w:=by rw [List.getElem?_eq_getElem hk,ek]
     obtain⟨d,as,g1,_⟩:=key k w e';exact⟨d,List.mem_of_getElem? g1,by rw [<-hf k w d e' g1];exact e⟩
   · rintro⟨d,hd,e⟩
     obtain⟨k,hk,ek⟩:=List.mem_iff_getElem.mp hd;have e':ys[k]? = some d:=by rw [List.getElem?_eq_getElem hk,ek]
     obtain⟨vv,e1,_⟩:=hl.get e';obtain⟨w,e2,_⟩:=r.get e1;exact⟨w,List.mem_of_getElem? e2,by rw [hf k w d e2 e'];exact e⟩
end
section
variable{prog:Program}{w:World}{A:Around}{E:Value->Shared->Prop}{s:Shared}{l:Addr}{xs:Array (Int×Tok)}
end
section
variable{X:Cx}{K:PySem.W.Frag}{cA:Kn}
end
end DL
namespace L2
open PySem PySem.Spec PyProof.Rows Builtin Builtin.Str
section
variable{X:Cx}
end
end L2
namespace DL
open PySem PySem.Spec L2
variable{cA:Kn}
end DL
namespace DL
open PySem PySem.Spec L2
section
variable{cA:Kn}{G:Cn}{ow owN owB owC:List Nat}
inductive NewD(H0 H:Hp):List D->List V->Prop
 |nil:NewD H0 H [] []
 |cons {xs ds:List D} {vs ws:List V} {b:Addr} (h:H b=some (.lst ws)) (h0:H0 b=none) (hl:ws.length=ds.length) (r:NewD H0 H xs vs):NewD H0 H (.lst ds::xs) (.ref b::vs)
theorem NewD.same{H0 H H':Hp}(s:Same H H'):∀{xs:List D}{vs:List V},NewD H0 H xs vs->NewD H0 H' xs vs
 |_,_,.nil => .nil
 |_,_,.cons h h0 hl r => .cons (s _ _ h) h0 hl (NewD.same s r)
structure Hd(H HE H':Hp)(p0 p1 b0:Addr)(r1:List V):Prop where
 same:Same H H'
 kind:∀b o,HE b=some o->(∀vs,o ≠ .lst vs)->H' b=some o
 l0:∃v ws,H' p0=some (.lst (v::ws))
 l1:∃v ws,H' b0=some (.lst (v::ws))
 lp:H' p1=some (.lst (.ref b0::r1))
theorem Hd.turn{H HE H':Hp}{p0 p1 b0 c:Addr}{r1:List V}(h:Hd H HE H' p0 p1 b0 r1)(hc:c=p0\/c=b0)(h0:H c=none)(hE:∃ws,HE c=some (.lst ws))(hp:c≠p1)(v:V)(ws:List V):Hd H HE (upd H' c (.lst (v::ws))) p0 p1 b0 r1:=by
 refine⟨λb o e => ?_,λb o e n => ?_,?_,?_,?_⟩
 · have:b≠c:=λz=>by rw [z,h0]at e;cases e
   rw [Zv this];exact h.same b o e
 · have : b ≠ c := fun z => by
    obtain⟨ws,w⟩:=hE;rw [z,w]at e;cases e;exact n ws rfl
   rw [Zv this];exact h.kind b o e n
 · by_cases e:p0=c
   · subst e;exact⟨v,ws,Yq⟩
   · rw [Zv e];exact h.l0
 · by_cases e:b0=c
   · subst e;exact⟨v,ws,Yq⟩
   · rw [Zv e];exact h.l1
 · rw [Zv (Ne.symm hp)];exact h.lp
end
end DL
namespace L2
open PySem PySem.Spec PyProof.Rows
section
variable{prog:Program}{w:World}{A:Around}{E:Value->Shared->Prop}{s:Shared}{d it:Addr}{es:Array DictEntry}{ep i:Nat}{o:Obj}
end
section
variable{X:Cx}{tg:Expr}
end
end L2
namespace DL
open PySem PySem.Spec L2
section
variable{G:Cn}{ow ow1 owB owC:List Nat}{i:Nat}{H0 H H':Hp}{av:Addr->Prop}{A A':Nat->Option Addr}{σ σ':L2.St}{δ δ':Env}{a:Addr}
end
end DL
namespace DL
open PySem PySem.Spec L2
section
variable{G:Cn}{ow owB owC ow1:List Nat}
end
end DL
namespace DL
open PySem PySem.Spec L2
def JY(K:PySem.W.Frag)(b:Bool):R2:=λx y H Q=>∃a c ws,x = .ref a/\y = .ref c/\SqL K H a ws/\SqL K H c ws/\(∀v∈ws,∃p,v=V.ref p)/\Q (.bl b) H
theorem vals_refs:∀{ws:List V}{us us':List Value},(∀v∈ws,∃p,v=V.ref p)->Vals ws us->Vals ws us'->us=us'
 | [],_,_,_,.nil,.nil=>rfl
 |w::ws,_,_,h,.cons r1 t1,.cons r2 t2=>by
  obtain⟨p,rfl⟩:=h w (List.mem_cons_self ..);cases r1;cases r2;rw [vals_refs (λv hv=>h v (List.mem_cons_of_mem _ hv)) t1 t2]
theorem Ze1(n:Nat):(List.range n).all (λ_=>true)=true:=List.all_eq_true.mpr λ_ _=>rfl
section
variable{X:Cx}
theorem ZfR{K:PySem.W.Frag}(hu:X.A.units+64<cLine)(hK:X.K=K:=by rfl):OpR X (compareOp .Eq) (JY K true):=by
 subst hK;intro pins s σ H x y v u Q I rx ry h;obtain⟨a,c,ws,rfl,rfl,ha,hc,hw,q⟩:=h;cases rx;cases ry;obtain⟨its,r1,⟨o1,n1,e1,c1,d1,s1⟩,_⟩:=I.list ha;obtain⟨its',r2,⟨o2,n2,e2,c2,d2,s2⟩,_⟩:=I.list hc;have e:=vals_refs hw r1 r2;subst e;have hl:s.heap.IsList a its.toArray:=⟨_,e1,c1,_,s1⟩
 have hl':s.heap.IsList c its.toArray:=⟨_,e2,c2,_,s2⟩
 have:=PySem.SeqAt.RcAt.lists (A:=X.A) (e:=λ_=>true) hl hl' rfl (by omega) λj _ _=>PySem.SeqAt.EqAt.same _
 rw [Ze1]at this;exact this X.prog X.w _ _ ⟨.bl true,H,I,rfl,q⟩
theorem ZfS{K:PySem.W.Frag}(hu:X.A.units+64<cLine)(hK:X.K=K:=by rfl):OpR X (compareOp .NotEq) (JY K false):=by
 subst hK;intro pins s σ H x y v u Q I rx ry h;obtain⟨a,c,ws,rfl,rfl,ha,hc,hw,q⟩:=h;cases rx;cases ry;obtain⟨its,r1,⟨o1,n1,e1,c1,d1,s1⟩,_⟩:=I.list ha;obtain⟨its',r2,⟨o2,n2,e2,c2,d2,s2⟩,_⟩:=I.list hc;have e:=vals_refs hw r1 r2;subst e;have hl:s.heap.IsList a its.toArray:=⟨_,e1,c1,_,s1⟩
 have hl':s.heap.IsList c its.toArray:=⟨_,e2,c2,_,s2⟩
 have:=PySem.SeqAt.RcNeAt.lists (A:=X.A) (e:=λ_=>true) hl hl' rfl (by omega) λj _ _=>PySem.SeqAt.EqAt.same _
 rw [Ze1]at this;exact this X.prog X.w _ _ ⟨.bl false,H,I,rfl,q⟩
end
def Zg5(G:Cn)(owN:List Nat)(H0:Hp)(av:Addr->Prop)(L:TS)(De:Ends):Out->Prop
 | .nx δ'=>∀A' σ' H',ER G owN H0 av A' σ' H' δ'->L De σ' H'
 | .rt d=>∀v H',Same H0 H'->Rep G.1 av H' d v->De.rt v H'
 |_=>False
def QT(G:Cn)(ow owN:List Nat)(L ts:TS)(φ:Env->Option Out):Prop:=
 ∀H0 av A σ H δ,ER G ow H0 av A σ H δ->∀o,φ δ=some o->∀De:Ends,Zg5 G owN H0 av L De o->ts De σ H
section
variable{cA:Kn}{G:Cn}{ow owN owB owC ow1:List Nat}{L t u:TS}{φ ψ:Env->Option Out}
theorem Ze2(h:VS G ow owN [] [] t φ):QT G ow owN L (Vc t L) φ:=λH0 av A σ H δ E o e De k=>by
 refine h H0 av A σ H δ E o e _ ?_;cases o<;>first|exact k|exact k.elim
theorem Vl(h1:VS G ow ow1 [] [] t φ)(h2:QT G ow1 owN L u ψ):QT G ow owN L (Vc t u) (Zf φ ψ):=λH0 av A σ H δ E o e De k=>by
 unfold Zf at e;cases he:φ δ with
 |none=>rw [he]at e;cases e
 |some o1=>
  rw [he]at e;refine h1 H0 av A σ H δ E o1 he _ ?_;cases o1 with
  |nx δ'=>exact λA' σ' H' E'=>h2 H0 av A' σ' H' δ' E' o e De k
  |rt d=>cases e;exact k
  |bk δ'=>cases e;exact k.elim
  |ct δ'=>cases e;exact k.elim
end
def spJ(cA:Kn)(C:String)(m:List D->Option D):Sp:=λvs H Q _=>∃(x:Addr) (mk:List Nat) (h:Addr) (ws:List V) (objs:List D) (av:Addr->Prop) (dx:Addr),vs=[.ref x,S mk,.ref h]/\H x=some (.ins (cA.c C) dx [])/\(∀a,av a->H a≠none)/\¬av x/\¬av h/\h≠x/\H h=some (.lst ws)/\RepL cA (λa=>av a\/a=x) H objs ws /\
 m [.obj C [] [],.str mk,.lst objs]=some (.obj C ["marks"] [.str mk]) /\
 ∀H' dx' p,(∀b o,b≠x->H b=some o->H' b=some o)->H' x=some (.ins (cA.c C) dx' [(Str.ofString "marks",S mk),(Str.ofString "rules",.ref p)])->H' p=some (.tup ws)->H p=none->Q .non H'
def tJ(K:PySem.W.Frag):TS:=Zik K (YZ 0) (tCB (ZcL K) (YR (YZ 2) tNil)) (Str.ofString "rules")
abbrev V5(x h:Addr):Nat->Option (Addr ⊕ V):=λj=>if j=0 then some (.inl x)else if j=2 then some (.inr (.ref h))else none
section
variable{cA:Kn}{P:Program}{w:World}{K:PySem.W.Frag}{mg:Str->Option Value}{base:Heap}
theorem ZiT {x qual:Str} {st:Stmt} {f:Addr} {fd:FuncData} {N ps:List Str} {k:Nat} {φ:Env->Option Out} {body:List Stmt} {scope:Scope} {m:List D->Option D} {C:String} {cls:List String} (F:FunX K x qual st f fd) (S':FnScope N ps (defScope st)) (hS:defScope st=scope) (hB:defBody st=body)
 (hbody:∀(cdv:Value)(A:Around)(outer:List PySem.Env)(s:Shared)(H:Hp)(E:XK)(a h:Addr),Room k (A.deeper (PyProof.Rows.envOfC qual scope s.heap.objs.size f cdv)) ->
   ∃t,PSs (XG CX0 P w K mg base N qual scope f cdv A outer s H E).nox body t/\QT ⟨cA,V5 a h⟩ [0] [0] (tJ K) t φ) (hm:m=runI N.length φ) (hn:ps.length=3) (hFl:Xs K cA cls "rules") (hC:cls.contains C=true):FnOk P w K mg base CX0 (k+1) f fd ps (spJ cA C m):=by
 subst hS hB hm;refine F.ok S' (λvs H Q E h => ?_) λcdv A outer s H vs Q E hr h => ?_
 · obtain⟨x,mk,h,ws,objs,av,dx,rfl,_⟩:=h
   exact hn.symm
 · obtain⟨x,mk,h,ws,objs,av,dx,rfl,hx,ha,nx,nh,hne,hh,l,hm,q⟩:=h
   obtain⟨t,ht,hv⟩:=hbody cdv A outer s H E x h hr;refine⟨t,ht,?_⟩;unfold runI at hm;cases hφ:φ (([.obj C [] [],.str mk,.lst objs]:List D).map some++List.replicate (N.length-([.obj C [] [],.str mk,.lst objs]:List D).length) none)with
   |none=>rw [hφ]at hm;cases hm
   |some o=>
    rw [hφ]at hm;cases o<;>first|(cases hm;done)|skip
    rename_i δ';have hm:Za 0 δ'=some (.obj C ["marks"] [.str mk]):=hm
    have hAV:∀b,AV av (λj=>if j=0 then some x else none) b ↔ av b\/b=x:=λb=>by
     constructor
     · rintro(z|⟨j,z⟩)
       · exact .inl z
       · by_cases e:j=0
         · simp [e]at z;exact .inr z.symm
         · simp [e]at z
     · rintro(z|z)
       · exact .inl z
       · exact .inr ⟨0,by simp [z]⟩
    have E0:ER ⟨cA,V5 x h⟩ [0] (λb=>if b=x then none else H b) av (λj=>if j=0 then some x else none) (L2.start N [.ref x,S mk,.ref h]) H (([.obj C [] [],.str mk,.lst objs]:List D).map some++List.replicate (N.length-([.obj C [] [],.str mk,.lst objs]:List D).length) none):=by
     refine⟨λb o e => ?_,λa z => ?_,λi a e => ?_,λi j a e1 e2 => ?_,λi a e => ?_,λi e => ?_,λi hi => ?_,?_,(λi a e=>by
      by_cases q:i=0
      · simp [V5,q]at e;simp [q,e]
      · by_cases q2:i=2
        · simp [V5,q2]at e
        · simp [V5,q,q2]at e),(λi v e=>by
      by_cases q:i=0
      · simp [V5,q]at e
      · by_cases q2:i=2
        · simp [V5,q2]at e;subst q2;subst e;rfl
        · simp [V5,q,q2]at e),λi d'' e => ?_⟩
     · by_cases q:b=x
       · simp [q]at e
       · simpa [q]using e
     · have:a≠x:=λq=>nx (q▸z)
       simp [this];exact ha a z
     · by_cases q:i=0
       · simp [q]at e;simp [e]
       · simp [q]at e
     · by_cases q:i=0
       · by_cases q2:j=0
         · rw [q,q2]
         · simp [q2]at e2
       · simp [q]at e1
     · by_cases q:i=0
       · simp [q]at e;subst e;rw [hx];exact λz=>by cases z
       · simp [q]at e
     · by_cases q:i=0
       · simp [q]
       · simp [q]at e
     · have:i=0:=by simpa using hi
       simp [this]
     · unfold L2.start
       rw [List.length_append,List.length_append,List.length_map,List.length_map,List.length_replicate,List.length_replicate];rfl
     · match i,e with
       |0,e=>
        have e':(.obj C [] []:D)=d'':=by simpa using e
        subst e'
        exact⟨.ref x,by simp [L2.start],λz=>by simp at z,λa z=>by
         simp at z;subst z;exact⟨rfl,dx,[],hx,rfl,.nil⟩⟩
       |1,e=>
        have e':(.str mk:D)=d'':=by simpa using e
        subst e';exact⟨S mk,by simp [L2.start],λ_=>rfl,λa z=>by simp at z⟩
       |2,e=>
        have e':(.lst objs:D)=d'':=by simpa using e
        subst e';refine⟨.ref h,by simp [L2.start],λ_ => ?_,λa z=>by simp at z⟩;unfold Rep;exact⟨h,ws,rfl,λz=>(by rcases(hAV h).mp z with z|z;exact(nh z).elim;exact(hne z).elim),SqL.of hh,l.av λb z => .inl ((hAV b).mp z)⟩
       |i+3,e=>
        have e2:(List.replicate (N.length-3) (none:Option D))[i]? = some (some d''):=by simpa using e
        rw [List.getElem?_replicate]at e2
        split at e2<;>cases e2
    refine hv _ av _ _ H _ E0 _ hφ _ λA' σ' H' E' => ?_
    have hA':A' 0=some x:=E'.pin 0 x (by simp);obtain⟨v,g1,_,g3⟩:=E'.var 0 _ (XV hm);obtain⟨rfl,dx',vs,q1,q0,q2⟩:=g3 x hA';have hk:σ'[2]? = some (some (.ref h)):=E'.kept 2 (.ref h) rfl;have hh':H' h=some (.lst ws):=E'.same h _ (by simp [hne,hh]);obtain⟨v1,r1,rfl,e1,z1⟩:=q2.uncons;cases z1.nil_of;cases(show v1=S mk from e1);obtain⟨c1,c2⟩:=hFl C (by simpa using hC)
    refine⟨.ref h,hk,h,ws,rfl,.inl ⟨SqL.of hh',λp hp=>⟨.ref x,g1,x,_,dx',(["marks"].map Str.ofString).zip [S mk],rfl,?_,c1,c2,?_,?_⟩⟩⟩
    · rw [Zv (λz=>by rw [z,hp]at q1;cases q1)];exact q1
    · exact show 1<1000 by decide
    · have hpx:p≠x:=λz=>by rw [z,q1]at hp;cases hp
      refine q _ dx' p (λb o hb e => ?_) ?_ ?_ ?_
      · rw [Zv hb]
        have:=E'.same b o (by simpa [hb]using e);rw [Zv (λz=>by rw [z,hp]at this;cases this)];exact this
      · rw [Yq,ZbJ (ks:=["marks"]) (vs:=[S mk]) rfl (by decide)];rfl
      · rw [Zv hpx,Yq]
      · cases hHp:H p with
        |none=>rfl
        |some o=>rw [E'.same p o (by simpa [hpx]using hHp)]at hp;cases hp
def ZcQ(cA:Kn)(C:String):Sp:=λvs H Q _=>∃(x dx:Addr) (mv:V) (p:Addr) (ws:List V),vs=[.ref x]/\H x=some (.ins (cA.c C) dx [(Str.ofString "marks",mv),(Str.ofString "rules",.ref p)])/\H p=some (.tup ws)/\∀l,H l=none->Q (.ref l) (upd H l (.lst ws))
theorem ZfT {x qual:Str} {st:Stmt} {f:Addr} {fd:FuncData} {N ps:List Str} {k:Nat} {body:List Stmt} {scope:Scope} {C:String} {cls:List String} (F:FunX K x qual st f fd) (S':FnScope N ps (defScope st)) (hS:defScope st=scope) (hB:defBody st=body)
 (hbody:∀(cdv:Value)(A:Around)(outer:List PySem.Env)(s:Shared)(H:Hp)(E:XK),Room k (A.deeper (PyProof.Rows.envOfC qual scope s.heap.objs.size f cdv)) ->
   PSs (XG CX0 P w K mg base N qual scope f cdv A outer s H E).nox body (Jo (tCB (JV K) (YR (Jw K (YZ 0) (Str.ofString "rules")) tNil)))) (hn:ps.length=1) (hFl:Xs K cA cls "rules") (hC:cls.contains C=true):FnOk P w K mg base CX0 (k+1) f fd ps (ZcQ cA C):=by
 subst hS hB;refine F.ok S' (λvs H Q E h => ?_) λcdv A outer s H vs Q E hr h=>⟨_,hbody cdv A outer s H E hr,?_⟩
 · obtain⟨x,dx,mv,p,ws,rfl,_⟩:=h
   exact hn.symm
 · obtain⟨x,dx,mv,p,ws,rfl,hx,hp,q⟩:=h
   obtain⟨c1,c2⟩:=hFl C (by simpa using hC);exact⟨.ref x,by simp [L2.start],x,_,dx,_,.ref p,rfl,hx,c1,c2,by rw [List.lookup_cons,JP,List.lookup_cons,JP];rfl,.inl ⟨p,ws,rfl,.inr (SqT.of hp),λl hl=>q l hl⟩⟩
end
def isObj:D->Bool
 | .obj _ _ _=>true
 |_=>false
theorem Zda{cA:Kn}{av:Addr->Prop}{H:Hp}:∀{objs:List D}{ws:List V},objs.all isObj=true->RepL cA av H objs ws->∀v∈ws,∃p,v=V.ref p
 | [],_,_,r,v,hv=>by rw [r.nil_of]at hv;cases hv
 |d::objs,_,h,r,v,hv=>by
  obtain⟨u,vs,rfl,h1,h2⟩:=r.uncons;rw [List.all_cons,Bool.and_eq_true]at h;rcases List.mem_cons.mp hv with rfl|hv
  · cases d<;>first|(cases h.1;done)|skip
    unfold Rep at h1;obtain⟨a,_,_,e,_⟩:=h1;exact⟨a,e⟩
  · exact Zda h.2 h2 v hv
def QU(ih id ik jf:Nat)(C:String)(mk:List Nat)(objs:List D)(δ:Env):Env:=(((δ.set ih none).set id (some (.obj C ["marks", "rules"] [.str mk,.tup objs]))).set ik (some (.lst objs))).set jf none
def U6(im ih id ik jf:Nat)(C:String)(m:List D->Option D)(φ:Env->Option Out)(ε:Env->Option D)(δ:Env):Option Out:=match Za im δ,Za ih δ with
 |some (.str mk),some (.lst objs)=>if objs.all isObj=true/\objs.length<1000/\id<δ.length/\ik<δ.length/\jf<δ.length then(match m [.obj C [] [],.str mk,.lst objs]with
  |some (.obj c [a] [.str s])=>if c=C/\a = "marks" /\ s=mk then(match φ (QU ih id ik jf C mk objs δ)with
   |some (.nx δ')=>(match ε δ' with
    |some (.bl b)=>some (.rt (.bl b))
    |_=>none)
   |some (.rt d)=>some (.rt d)
   |_=>none)else none
  |_=>none)else none
 |_,_=>none
abbrev Uz(id ik:Nat)(x q:Addr):Nat->Option (Addr ⊕ V):=λj=>if j=id then some (.inr (.ref x))else if j=ik then some (.inr (.ref q))else none
theorem Zcj{α:Type}{l:List (Option α)}{i j:Nat}{y:α}(h:(l.set i none)[j]? = some (some y)):j≠i/\l[j]? = some (some y):=by
 by_cases e:j=i
 · subst e
   by_cases hl:j<l.length
   · rw [List.getElem?_set_self hl]at h;cases h
   · rw [List.getElem?_eq_none (by simpa using hl)]at h;cases h
 · rw [List.getElem?_set_ne (Ne.symm e)]at h
   exact⟨e,h⟩
def Zfp(cA:Kn)(C:String)(E1:XK)(id:Nat):TE:=Zgd (cA.c C) (Str.ofString "rules_told") (ZcQ cA C) [] E1 (YZ id) tNil
def tLI(cA:Kn)(C:String)(E1:XK)(id ik:Nat)(te:TE):TS:=Jo (Zff te (tOp (JY cA.K true) (Zfp cA C E1 id) (YZ ik)))
section
variable{G:Cn}{ow owN owB owC:List Nat}
theorem Zdb {cA:Kn} {C:String} {E1:XK} {id:Nat} {σ:L2.St} {H:Hp} {x dx p:Addr} {mv:V} {ws:List V} {Q:VK} (hi:σ[id]? = some (some (.ref x))) (hx:H x=some (.ins (cA.c C) dx [(Str.ofString "marks",mv),(Str.ofString "rules",.ref p)])) (hp:H p=some (.tup ws))
 (q:∀l,H l=none->Q (.ref l) (upd H l (.lst ws))):Zfp cA C E1 id σ H Q:=
 ⟨.ref x,hi,x,dx,_,rfl,hx,Za2 (ks:=["marks", "rules"]) (vs:=[mv,.ref p]) (by decide),x,dx,mv,p,ws,rfl,hx,hp,q⟩
theorem Zex {C:String} {m:List D->Option D} {φ:Env->Option Out} {ε:Env->Option D} {E1 E2 E3:XK} {te:TE} {tr tr0:TS} {q1:Ql} (im ih id ik jf:Nat) (hd:[im,ih,id,ik,jf].Nodup) (how:ow=[ih])
 (hkit:kitOne G.1.K (.type "list") (.type "list")=some true)
 (hr:∀x q,QT ⟨G.1,Uz id ik x q⟩ [] owN (tLI G.1 C E3 id ik te) tr φ) (he:∀x q,VE ⟨G.1,Uz id ik x q⟩ owN te q1 ε) :
 VS G ow ow owB owC (Vc (Um (Zfh (G.1.c C) (spJ G.1 C m) [] E1 (YR (YZ im) (YR (YZ ih) tNil))) (Vd id)) (Vc (Um (tCB (JV G.1.K) (YR (YZ ih) tNil)) (Vd ik)) (Vc (UH (Zil G.1.K "list" rClear (YZ ih))) (Vc (Um (Zfp G.1 C E2 id) (Vd jf))
  (Vc (Zih (tOr (Zig (tB (tCB (JN G.1.K) (YR (YZ jf) (YR (tC (.ty "list")) tNil))))) (Ju (tOp (JY G.1.K false) (YZ jf) (YZ ik)))) tr0 tNext) (Vc (UH (tBM G.1.K "list" rAppend (YZ jf) (YR (YZ id) tNil))) tr))))))
  (U6 im ih id ik jf C m φ ε):=by
 subst how;intro H0 av A σ H δ E o e De k;simp only [List.nodup_cons,List.mem_cons,List.mem_nil_iff,or_false,not_or,not_false_eq_true,List.nodup_nil,and_true]at hd;obtain⟨⟨n1,n2,n3,n4⟩,⟨n5,n6,n7⟩,⟨n8,n9⟩,n10⟩:=hd;unfold U6 at e
 split at e<;>try (cases e;done)
 rename_i mk objs hm hh
 split at e<;>try (cases e;done)
 rename_i hc;obtain⟨c1,c2,c3,c4,c5⟩:=hc
 split at e<;>try (cases e;done)
 rename_i c a s hmm
 split at e<;>try (cases e;done)
 rename_i hcc;obtain⟨rfl,rfl,rfl⟩:=hcc
 have nA:∀j,j≠ih->A j=none:=λj hj=>by
  cases h:A j with
  |none=>rfl
  |some a=>exact absurd (List.mem_singleton.mp (E.dom j (by rw [h];exact λz=>by cases z))) hj
 obtain⟨vm,gm,rm,_⟩:=E.var im _ (XV hm);have rm':=rm (nA im n1);cases(show vm=S s from rm');obtain⟨vh,gh,_,rh⟩:=E.var ih _ (XV hh);cases hA:A ih with
 |none=>exact absurd hA (E.dom' ih (List.mem_singleton.mpr rfl))
 |some h=>
 obtain⟨rfl,ws,q1,q2⟩:=rh h hA
 have hAV:∀b,AV av A b ↔ av b\/b=h:=λb=>by
  constructor
  · rintro(z|⟨j,z⟩)
    · exact .inl z
    · by_cases ej:j=ih
      · subst ej;rw [hA]at z;cases z;exact .inr rfl
      · rw [nA j ej]at z;cases z
  · rintro(z|z)
    · exact .inl z
    · exact .inr ⟨ih,by rw [hA,z]⟩
 have h0:H0 h=none:=E.fr ih h hA;have nh:¬av h:=λz=>E.avd h z h0
 have rw':=Zda c1 q2;have ln:σ.length=δ.length:=E.len;have hwl:ws.length<1000:=by rw [<-q2.length];exact c2
 refine⟨S s,gm,.ref h,gh,λx dx hx hdx hne => ?_⟩;have s2:Same H (upd (upd H dx (.own x)) x (.ins (G.1.c c) dx [])):=(YL hdx).trans (YL (by rw [Zv (Ne.symm hne)];exact hx));have hxh:h≠x:=λz=>by rw [<-z,q1]at hx;cases hx
 refine⟨x,s,h,ws,objs,av,dx,rfl,Yq,λa z => ?_,λz=>E.avH x z hx,nh,hxh,s2 h _ q1,(q2.av λb z => ?_).same s2,hmm,λH' dx' p hk hx' hp' hfp=>⟨rfl,?_⟩⟩
 · have:=E.avH a z
   cases qq:H a with
   |none=>exact absurd qq this
   |some o=>rw [s2 a o qq];exact λz=>by cases z
 · rcases z with z|z
   · exact .inl ((hAV b).mpr (.inl z))
   · exact .inr (by rw [z];exact hx)
 have sH:Same H H':=λb o e=>hk b o (λz=>by rw [z,hx]at e;cases e) (s2 b o e)
 have hh':H' h=some (.lst ws):=sH h _ q1;refine⟨.ref h,(by rw [List.getElem?_set_ne (Ne.symm n5)];exact gh),.inl ⟨h,ws,rfl,.inl (SqL.of hh'),λq hq => ?_⟩⟩;have qh:h≠q:=λz=>by rw [<-z,hh']at hq;cases hq
 have qx:x≠q:=λz=>by rw [<-z,hx']at hq;cases hq
 have qp:p≠q:=λz=>by rw [<-z,hp']at hq;cases hq
 have hph:p≠h:=λz=>by rw [z,hh']at hp';cases hp'
 have h2h:upd H' q (.lst ws) h=some (.lst ws):=by rw [Zv qh];exact hh'
 refine⟨.ref h,(by rw [List.getElem?_set_ne (Ne.symm n6),List.getElem?_set_ne (Ne.symm n5)];exact gh),.inl ⟨rfl,ws,SqL.of h2h⟩,h,ws,rfl,rfl,h2h,?_⟩;have h3x:upd (upd H' q (.lst ws)) h (.lst []) x=some (.ins (G.1.c c) dx' [(Str.ofString "marks",S s),(Str.ofString "rules",.ref p)]):=by rw [Zv (Ne.symm hxh),Zv qx];exact hx'
 have h3p:upd (upd H' q (.lst ws)) h (.lst []) p=some (.tup ws):=by rw [Zv hph,Zv qp];exact hp'
 have h3q:upd (upd H' q (.lst ws)) h (.lst []) q=some (.lst ws):=by rw [Zv (Ne.symm qh),Yq]
 have gx:((σ.set id (some (V.ref x))).set ik (some (V.ref q)))[id]? = some (some (V.ref x)):=by rw [List.getElem?_set_ne (Ne.symm n8),List.getElem?_set_self (by rw [ln];exact c3)]
 refine Zdb gx h3x h3p λf hf => ?_
 have fx:x≠f:=λz=>by rw [<-z,h3x]at hf;cases hf
 have fp:p≠f:=λz=>by rw [<-z,h3p]at hf;cases hf
 have fq:q≠f:=λz=>by rw [<-z,h3q]at hf;cases hf
 have gj:(((σ.set id (some (V.ref x))).set ik (some (V.ref q))).set jf (some (V.ref f)))[jf]? = some (some (V.ref f)):=by rw [List.getElem?_set_self (by simp [ln,c5])]
 have gk:(((σ.set id (some (V.ref x))).set ik (some (V.ref q))).set jf (some (V.ref f)))[ik]? = some (some (V.ref q)):=by rw [List.getElem?_set_ne (Ne.symm n10),List.getElem?_set_self (by simp [ln,c4])]
 have gi:(((σ.set id (some (V.ref x))).set ik (some (V.ref q))).set jf (some (V.ref f)))[id]? = some (some (V.ref x)):=by rw [List.getElem?_set_ne (Ne.symm n9)];exact gx
 refine⟨.ref f,gj,.inl ⟨.ref f,.ty "list",.type "list",.type "list",true,rfl,λv z=>z,.lst Yq,hkit,true,rfl,?_⟩⟩;refine XU ⟨.ref f,gj,.ref q,gk,f,q,ws,rfl,rfl,SqL.of Yq,SqL.of (by rw [Zv fq];exact h3q),rw',false,rfl,?_⟩;refine XU ?_;refine⟨.ref f,gj,.inl ⟨rfl,ws,SqL.of Yq⟩,.ref x,gi,f,ws,.ref x,rfl,rfl,Yq,by rw [sizeLine_eq];omega,?_⟩;generalize hH5:upd (upd (upd (upd H' q (.lst ws)) h (.lst [])) f (.lst ws)) f (.lst (ws++[V.ref x]))=H5
 have ne5:∀b,b≠f->b≠h->b≠q->H5 b=H' b:=λb b1 b2 b3=>by rw [<-hH5,Zv b1,Zv b1,Zv b2,Zv b3]
 have k5:∀b o,b≠h->H' b=some o->H5 b=some o:=λb o bh eb=>by
  have bq:b≠q:=λz=>by rw [z,hq]at eb;cases eb
  have bf:b≠f:=λz=>by
   have:upd (upd H' q (.lst ws)) h (.lst []) b=some o:=by rw [Zv bh,Zv bq];exact eb
   rw [z,hf]at this;cases this
  rw [ne5 b bf bh bq];exact eb
 have k5H:∀b o,b≠h->H b=some o->H5 b=some o:=λb o bh eb=>k5 b o bh (sH b o eb)
 have x5:H5 x=some (.ins (G.1.c c) dx' [(Str.ofString "marks",S s),(Str.ofString "rules",.ref p)]):=k5 x _ (Ne.symm hxh) hx';have p5:H5 p=some (.tup ws):=k5 p _ hph hp';have q5:H5 q=some (.lst ws):=by rw [<-hH5,Zv fq,Zv fq];exact h3q
 have r5:RepL G.1 (AV av λ_=>none) H5 objs ws:=(q2.ext λb o n eb=>k5H b o (λz=>n ((hAV b).mpr (.inr z))) eb).av λb z=>by
  rcases z with z|⟨_,z⟩
  · exact .inl ((hAV b).mpr (.inl z))
  · cases z
 have s05:Same H0 H5:=λb o eb=>k5H b o (λz=>by rw [z,h0]at eb;cases eb) (E.same b o eb)
 have avx:∀b,H b=none->¬AV av (λ_=>none) b:=λb hb z=>by
  rcases z with z|⟨_,z⟩
  · exact E.avH b z hb
  · cases z
 have hxn:¬AV av (λ_=>none) x:=avx x hx;have hqn:¬AV av (λ_=>none) q:=avx q (sH.free hq);have hpn:¬AV av (λ_=>none) p:=avx p (s2.free hfp)
 have E5:ER ⟨G.1,Uz id ik x q⟩ [] H5 av (λ_=>none) (((σ.set id (some (V.ref x))).set ik (some (V.ref q))).set jf (some (V.ref f))) H5 (QU ih id ik jf c s objs δ):=by
  refine⟨Same.refl _,λa z => ?_,λi a z=>(by cases z),λi j a z=>(by cases z),λi a z=>(by cases z),λi z=>absurd rfl z,λi z=>(by cases z),(by simp [QU,ln]),λi a z => ?_,λi v z => ?_,λi d z => ?_⟩
  · have:=E.avH a z
    cases qq:H a with
    |none=>exact absurd qq this
    |some o=>rw [k5H a o (λw=>nh (w▸z)) qq];exact λz=>by cases z
  · dsimp only [Uz]at z
    split at z
    · cases z
    · split at z<;>cases z
  · dsimp only [Uz]at z
    split at z
    · rename_i ei;subst ei;cases z;exact gi
    · split at z
      · rename_i ei;subst ei;cases z;exact gk
      · cases z
  · obtain⟨z1,z⟩:=Zcj z
    rcases QH z with⟨rfl,rfl,_⟩|⟨z2,z⟩
    · refine⟨.ref q,gk,λ_ => ?_,λa z=>by cases z⟩
      unfold Rep;exact⟨q,ws,rfl,λz=>(hqn z).elim,SqL.of q5,r5⟩
    · rcases QH z with⟨rfl,rfl,_⟩|⟨z3,z⟩
      · refine⟨.ref x,gi,λ_ => ?_,λa z=>by cases z⟩
        unfold Rep;refine⟨x,dx',[S s,.ref p],rfl,hxn,x5,rfl,.cons rfl (.cons ?_ .nil)⟩;unfold Rep;exact⟨p,ws,rfl,hpn,p5,r5⟩
      · obtain⟨z4,z⟩:=Zcj z
        obtain⟨v,g1,g2,_⟩:=E.var i d z;refine⟨v,by rw [List.getElem?_set_ne (Ne.symm z1),List.getElem?_set_ne (Ne.symm z2),List.getElem?_set_ne (Ne.symm z3)];exact g1,λ_ => ?_,λa z=>by cases z⟩;refine((g2 (nA i z4)).ext λb o n eb=>k5H b o (λz=>n ((hAV b).mpr (.inr z))) eb).av λb z => ?_
        rcases z with z|⟨_,z⟩
        · exact .inl ((hAV b).mpr (.inl z))
        · cases z
 cases hφ:φ (QU ih id ik jf c s objs δ)with
 |none=>rw [hφ]at e;cases e
 |some o'=>
  rw [hφ]at e;refine hr x q H5 av _ _ H5 _ E5 o' hφ De ?_;cases o' with
  |bk δ'=>cases e
  |ct δ'=>cases e
  |rt d=>cases e;exact λv H6 s6 r=>k v H6 (s05.trans s6) r
  |nx δ'=>
   dsimp only at e;intro A6 σ6 H6 E6
   split at e<;>try (cases e;done)
   rename_i b hb;cases e;refine he x q H5 av A6 σ6 H6 δ' E6 (.bl b) hb _ λv H7 s7 r7 => ?_
   cases(show v = .bl b from r7.any);have E7:=E6.mono s7;refine⟨b,rfl,?_⟩;cases b with
   |false=>exact XU (k _ H7 (s05.trans E7.same) rfl)
   |true=>
    refine Vi (Zdb (E7.kept id (.ref x) (by dsimp only [Uz];rw [if_pos rfl])) (E7.same _ _ x5) (E7.same _ _ p5) λl hl => ?_);have lq:q≠l:=λz=>by rw [<-z,E7.same _ _ q5]at hl;cases hl
    exact⟨.ref q,E7.kept ik (.ref q) (by dsimp only [Uz];rw [if_neg (Ne.symm n8),if_pos rfl]),l,q,ws,rfl,rfl,SqL.of Yq,SqL.of (by rw [Zv lq];exact E7.same _ _ q5),rw',k _ _ (s05.trans (E7.same.trans (YL hl))) rfl⟩
end
def Zkd(cA:Kn):R2:=λx y H Q=>∃av av' dx ys p vs,y = .ref p/\SqL cA.K H p vs/\Rep cA av H dx x/\RepL cA av' H ys vs/\SeqAt.shaped (toP dx)=true/\(∀d∈ys,SeqAt.shaped (toP d)=true)/\(toP dx).depth<=60/\Q (.bl (ys.any (eqP dx))) H
theorem Zg6{X:Cx}{cA:Kn}(hu:X.A.units+64<cLine)(hK:cA.K=X.K:=by rfl):OpR X (compareOp .In) (Zkd cA):=by
 intro pins s σ H x y v u Q I rx ry h;obtain⟨av,av',dx,ys,p,vs,rfl,hq,hx,hl,sx,sy,dp,q⟩:=h;cases ry;rw [hK]at hq;obtain⟨its,r,pl,hz⟩:=I.list hq;obtain⟨f,h1,h2⟩:=Zew hu hK I rx r hx hl sx sy dp;refine SeqAt.in_listAt f (let⟨_,_,e1,e2,_,e4⟩:=pl;⟨_,e1,e2,_,e4⟩) h1 ⟨.bl _,H,I,rfl,?_⟩;rw [h2];exact q
def inL:D->D->Option D
 |x,.lst ys=>if SeqAt.shaped (toP x)&&ys.all (λd=>SeqAt.shaped (toP d))&&decide ((toP x).depth<=60)then some (.bl (ys.any (eqP x)))else none
 |_,_=>none
theorem Zg7{cA:Kn}:XW cA (Zkd cA) inL:=λt t' i H x y vx vy d _ hx hy e Q k=>by
 cases y<;>first|(cases e;done)|skip
 rename_i ys;dsimp only [inL]at e
 by_cases hz:(SeqAt.shaped (toP x)&&ys.all (λd=>SeqAt.shaped (toP d))&&decide ((toP x).depth<=60))=true
 · rw [if_pos hz]at e
   cases e;simp only [Bool.and_eq_true,List.all_eq_true,decide_eq_true_eq]at hz;obtain⟨a,vs,rfl,_,rd,l⟩:=hy;exact⟨_,_,x,ys,a,vs,rfl,rd,hx.av0,l,hz.1.1,hz.1.2,hz.2,k _ H (Same.refl H) rfl⟩
 · rw [if_neg hz]at e;cases e
end DL
namespace DL
open PySem PySem.Spec L2
theorem ZQ(i j:Int):eqD (.int i) (.int j)=some (.bl (decide (i=j))):=by
 show(if(Yg (.int i)&&Yg (.int j)&&Vf (V.int i) (V.int j))=true then some (D.bl (decide (V.int i=V.int j)))else _)=_;rw [if_pos (by rfl)];simp
theorem ZS(a b:List Nat):eqD (.str a) (.str b)=some (.bl (decide (a=b))):=by
 show(if(Yg (.str a)&&Yg (.str b)&&Vf (S a) (S b))=true then some (D.bl (decide (S a=S b)))else _)=_;rw [if_pos (by rfl)];simp only [ZiN]
theorem ZU(a b:Bool):eqD (.bl a) (.bl b)=some (.bl (decide (a=b))):=by
 show(if(Yg (.bl a)&&Yg (.bl b)&&Vf (V.bl a) (V.bl b))=true then some (D.bl (decide (V.bl a=V.bl b)))else _)=_;rw [if_pos (by rfl)];simp
theorem ZV:eqD .non .non=some (.bl true):=rfl
theorem ZW(i:Int):eqD .non (.int i)=some (.bl false):=by
 show(if(Yg .non&&Yg (.int i)&&Vf V.non (V.int i))=true then some (D.bl (decide (V.non=V.int i)))else _)=_;rw [if_pos (by rfl)];simp
theorem ZX(i:Int):eqD (.int i) .non=some (.bl false):=by
 show(if(Yg (.int i)&&Yg .non&&Vf (V.int i) V.non)=true then some (D.bl (decide (V.int i=V.non)))else _)=_;rw [if_pos (by rfl)];simp
theorem ZY(i j:Int):neD (.int i) (.int j)=some (.bl (!decide (i=j))):=by unfold neD;rw [ZQ]
theorem Z5(i j:List Nat):neD (.str i) (.str j)=some (.bl (!decide (i=j))):=by unfold neD;rw [ZS]
theorem ZZ:neD .non .non=some (.bl false):=by unfold neD;rw [ZV];rfl
theorem Z6(i:Int):neD .non (.int i)=some (.bl true):=by unfold neD;rw [ZW];rfl
theorem Z7(i:Int):neD (.int i) .non=some (.bl true):=by unfold neD;rw [ZX];rfl
theorem Ze3{α:Type}{xs:List α}{i:Int}(h0:0<=i)(h1:i<xs.length):∃x,atI xs i=some x/\xs[i.toNat]? = some x:=by
 have hj:i.toNat<xs.length:=by omega
 refine⟨xs[i.toNat],?_,by simp [hj]⟩;have:=Qz (xs:=xs) (j:=i.toNat) (v:=xs[i.toNat]) (by simp [hj])
 rwa [Int.toNat_of_nonneg h0]at this
theorem Zck{γ:D->Env->Option Env}{φ:Env->Option Out}(I:Nat->Env->Prop):∀(xs:List D)(k:Nat)(δ:Env),I k δ ->
 (∀(j:Nat)x δ,xs[j]? = some x->I (k+j) δ->∃δ1,γ x δ=some δ1/\∃δ2,φ δ1=some (.nx δ2)/\I (k+j+1) δ2)->∃δ',YO γ φ xs δ=some (.nx δ')/\I (k+xs.length) δ'
 | [],k,δ,h,_=>⟨δ,rfl,h⟩
 |x::xs,k,δ,h,step=>by
  obtain⟨δ1,h1,δ2,h2,h3⟩:=step 0 x δ rfl h
  obtain⟨δ',h4,h5⟩:=Zck I xs (k+1) δ2 h3 λj y δ hy hI=>by
   have:=step (j+1) y δ (by simpa using hy) (by rwa [show k+(j+1)=k+1+j by omega])
   rwa [show k+(j+1)+1=k+1+j+1 by omega]at this
  refine⟨δ',?_,by rwa [List.length_cons,show k+(xs.length+1)=k+1+xs.length by omega]⟩;unfold YO;rw [h1];dsimp only;rw [h2];exact h4
theorem XD{γ:D->Env->Option Env}{ε:Env->Option D}{δ0:Env}(f:D->D):∀(xs:List D),(∀x∈xs,∃δ1,γ x δ0=some δ1/\ε δ1=some (f x))->YX γ (λ_=>some true) ε δ0 xs=some (xs.map f)
 | [],_=>rfl
 |x::xs,h=>by
  obtain⟨δ1,h1,h2⟩:=h x List.mem_cons_self;have ih:=XD f xs λy hy=>h y (List.mem_cons_of_mem _ hy)
  unfold YX;rw [h1];dsimp only;rw [h2,ih];rfl
theorem Zaq{γ:D->Env->Option Env}{τ:Env->Option Bool}{ε:Env->Option D}{δ0:Env}(p:D->Bool)(f:D->D):∀(xs:List D),(∀x∈xs,∃δ1,γ x δ0=some δ1/\τ δ1=some (p x)/\(p x=true->ε δ1=some (f x)))->YX γ τ ε δ0 xs=some ((xs.filter p).map f)
 | [],_=>rfl
 |x::xs,h=>by
  obtain⟨δ1,h1,h2,h3⟩:=h x List.mem_cons_self;have ih:=Zaq p f xs λy hy=>h y (List.mem_cons_of_mem _ hy)
  unfold YX;rw [h1];dsimp only;rw [h2];cases hp:p x with
  |false=>rw [List.filter_cons_of_neg (by simp [hp])];exact ih
  |true=>
   rw [List.filter_cons_of_pos hp];dsimp only;rw [h3 hp,ih];rfl
theorem Zey{lo c:Int}{n i:Nat}{x:D}(h:(YA lo c n)[i]? = some x):i<n/\x = .int (lo+(i:Nat)*c):=by
 have hi:i<n:=by have:=(List.getElem?_eq_some_iff.mp h).1;simpa [YA]using this
 unfold YA at h;rw [List.getElem?_map,List.getElem?_range hi]at h;exact⟨hi,(Option.some.inj h).symm⟩
theorem Za3{lo c:Int}{n:Nat}{x:D}(h:x∈YA lo c n):∃i:Nat,i<n/\x = .int (lo+(i:Nat)*c):=by
 obtain⟨i,hi⟩:=List.getElem?_of_mem h;exact⟨i,Zey hi⟩
end DL
namespace DL
open PySem PySem.Spec L2
theorem Zbn{α:Type}(g:α->Nat):∀xs:List α,strs? (xs.map λx=>D.str [g x])=some (xs.map λx=>[g x])
 | []=>rfl
 |x::xs=>by rw [List.map_cons,strs?,Zbn g xs,List.map_cons]
theorem Zbo{α:Type}(g:α->Nat)(xs:List α)(h:xs.length<=sizeLine):joinD [] [.lst (xs.map λx=>D.str [g x])]=some (.str (xs.map g)):=by
 unfold joinD;dsimp only;rw [Zbn];dsimp only
 have e1:((xs.map λx=>[g x]).map List.length).sum=xs.length:=by
  clear h
  induction xs with
  |nil=>rfl
  |cons x xs ih=>
   rw [List.map_cons,List.map_cons,List.sum_cons,ih];simp;omega
 rw [if_pos (by rw [e1];simpa using h),Zbg]
 congr 2
 clear h e1
 induction xs with
 |nil=>rfl
 |cons x xs ih=>rw [List.map_cons,List.flatten_cons,ih];rfl
theorem Zez{α:Type}(r:List α)(c:α):cutL (r++[c]) none (some (-1))=r:=by
 unfold cutL YJ;have e:(-1+((r++[c]).length:Int)).toNat=r.length:=by rw [List.length_append,List.length_singleton];omega
 simp only [show(-1:Int)<0 by decide,if_true,e,List.drop_zero,Nat.sub_zero];exact List.take_left
end DL
namespace DL
open PySem PySem.Spec L2
theorem Zcl{i j:Int}(h:CMul i j):mulD (.int i) (.int j)=some (.int (i*j)):=if_pos h
theorem V6{i j:Int}(h:0<j):modD (.int i) (.int j)=some (.int (i % j)):=if_pos h
theorem JZ{i j:Int}(h:ZG i j):fdivD (.int i) (.int j)=some (.int (i / j)):=if_pos h
theorem QV{cs:List Nat}{i:Int}{c:Nat}(h:cs.length<=sizeLine)(hz:atI cs i=some c):ixD (.str cs) (.int i)=some (.str [c]):=by
 show(if cs.length<=sizeLine then(atI cs i).map λc=>D.str [c]else none)=_;rw [if_pos h,hz];rfl
theorem ZaO{i j:Int}(h1:0<=i)(h2:i<1000):CMul i j := .inl ⟨by omega,by omega⟩
end DL
namespace DL
open PySem PySem.Spec L2
theorem ZL{a b:Env->Option Out}{δ δ':Env}(h:a δ=some (.nx δ')):Zf a b δ=b δ':=by
 unfold Zf;rw [h]
theorem UA{a b:Env->Option Out}{δ:Env}{d:D}(h:a δ=some (.rt d)):Zf a b δ=some (.rt d):=by
 unfold Zf;rw [h]
theorem Yy{i:Nat}{e:Env->Option D}{δ:Env}{d:D}(h:e δ=some d):Zk i e δ=some (.nx (δ.set i (some d))):=by
 unfold Zk;rw [h]
theorem X1{e:Env->Option D}{δ:Env}{d:D}(h:e δ=some d):Zm e δ=some (.rt d):=by
 unfold Zm;rw [h]
theorem U7{t:Env->Option Bool}{a b:Env->Option Out}{δ:Env}(h:t δ=some true):sIf t a b δ=a δ:=by
 unfold sIf;rw [h]
theorem Xv{t:Env->Option Bool}{a b:Env->Option Out}{δ:Env}(h:t δ=some false):sIf t a b δ=b δ:=by
 unfold sIf;rw [h]
theorem YF{e:Env->Option D}{δ:Env}{b:Bool}(h:e δ=some (.bl b)):xB e δ=some b:=by
 unfold xB;rw [h];rfl
theorem QW{t:Env->Option Bool}{δ:Env}{b:Bool}(h:t δ=some b):Zz t δ=some (!b):=by
 unfold Zz;rw [h]
theorem Ze4{a b:Env->Option Bool}{δ:Env}{x:Bool}(h1:a δ=some false)(h2:b δ=some x):xOr a b δ=some x:=by
 unfold xOr;rw [h1];exact h2
theorem J0{a b:Env->Option Bool}{δ:Env}{x:Bool}(h1:a δ=some true)(h2:b δ=some x):ZD a b δ=some x:=by
 unfold ZD;rw [h1];exact h2
theorem ZbL{a b:Env->Option Bool}{δ:Env}(h1:a δ=some false):ZD a b δ=some false:=by
 unfold ZD;rw [h1]
theorem Xj{n:Nat}{m:List D->Option D}{α:Env->Option (List D)}{δ:Env}{ds:List D}(h:α δ=some ds)(hn:ds.length=n):Zn n m [] α δ=m ds:=by
 unfold Zn;rw [h];dsimp only;rw [List.append_nil,if_pos hn]
theorem Zt{a:Env->Option D}{b:Env->Option (List D)}{δ:Env}{x:D}{xs:List D}(h1:a δ=some x)(h2:b δ=some xs):Zb a b δ=some (x::xs):=by
 unfold Zb;rw [h1,h2]
theorem Ye{f:D->D->Option D}{a b:Env->Option D}{δ:Env}{x y:D}(h1:a δ=some x)(h2:b δ=some y):eOp f a b δ=f x y:=by
 unfold eOp;rw [h1,h2]
theorem Zg8{α:Env->Option (List D)}{δ:Env}{ds:List D}(h:α δ=some ds)(hl:ds.length<=1000):ZE α δ=(some (.tup ds):Option D):=by
 unfold ZE;rw [h];exact if_pos (Nat.le_trans hl (by decide))
theorem U8{α:Env->Option (List D)}{δ:Env}{ds:List D}(h:α δ=some ds)(hl:ds.length<=1000):ZA α δ=(some (.lst ds):Option D):=by
 unfold ZA;rw [h];exact if_pos (Nat.le_trans hl (by decide))
end DL
namespace DL
open PySem PySem.Spec L2
theorem QX{α:Env->Option (List D)}{δ:Env}{j:Int}(h:α δ=some [.int j])(h1 : -1000000<=j)(h2:j<=1000000):Y5 α δ=some (YA 0 1 j.toNat):=by
 unfold Y5;rw [h];dsimp only;rw [if_pos ⟨by omega,by omega⟩]
theorem Ze5{i:Nat}{ε:Env->Option D}{δ:Env}{xs:List D}{d:D}(h1:Za i δ=some (.lst xs))(h2:ε δ=some d)(hl:xs.length<=1000000):V2 i ε δ=some (.nx (δ.set i (some (.lst (xs++[d]))))):=by
 unfold V2;rw [h1];dsimp only;rw [h2];dsimp only;rw [if_pos (by rw [PySem.sizeLine_eq];omega)]
theorem ZbM{n j:Nat}{x:D}(h:(YA 0 1 n)[j]? = some x):j<n/\x = .int (j:Nat):=by
 have hj:j<n:=by have:=(List.getElem?_eq_some_iff.mp h).1;simpa [YA]using this
 refine⟨hj,?_⟩;unfold YA at h;rw [List.getElem?_map,List.getElem?_range hj]at h;have:=Option.some.inj h;rw [<-this];show D.int (0+(j:Int)*1)=_;rw [show(0+(j:Int)*1)=j by omega]
theorem Zdc(lo c:Int)(n:Nat):(YA lo c n).length=n:=by simp [YA]
theorem V7{ι:Env->Option (List D)}{γ:D->Env->Option Env}{φ:Env->Option Out}{δ:Env}{xs:List D}{o:Out}(h1:ι δ=some xs)(h2:YO γ φ xs δ=some o):Y8 ι γ φ δ=some o:=by
 unfold Y8;rw [h1];exact h2
theorem X9{ι:Env->Option (List D)}{γ:D->Env->Option Env}{τ:Env->Option Bool}{ε:Env->Option D}{n:Nat}{js:List Nat}{δ δ0:Env}{xs ys:List D}(h1:ι δ=some xs)(hb:XB n δ js=δ0)(h2:YX γ τ ε δ0 xs=some ys)(hl:ys.length<=1000000):Yo ι γ τ ε n js δ=some (.lst ys):=by
 unfold Yo;rw [h1];dsimp only;rw [hb,h2];dsimp only;rw [if_pos (by rw [PySem.sizeLine_eq];omega)]
theorem ZiU{f:List Nat->List D->Option D}{a:Env->Option D}{α:Env->Option (List D)}{δ:Env}{s:List Nat}{ds:List D}(h1:a δ=some (.str s))(h2:α δ=some ds):eBM f a α δ=f s ds:=by
 unfold eBM;rw [h1,h2]
theorem Y9{f:List D->Option D}{α:Env->Option (List D)}{δ:Env}{ds:List D}(h:α δ=some ds):eCB f α δ=f ds:=by
 unfold eCB;rw [h]
theorem Y6{n:Nat}{f:Env->Option Out}{vs:List D}{δ:Env}{d:D}(h1:(vs.map some++List.replicate (n-vs.length) none)=δ)(h2:f δ=some (.rt d)):DL.run n f vs=some d:=by
 unfold DL.run;rw [h1,h2]
theorem nil_of{δ:Env}:eNil δ=some []:=rfl
theorem Ze6{t:List (String×Bool)}{a:Env->Option D}{δ:Env}{d:D}{b:Bool}(h1:a δ=some d)(h2:ZO t d=some b):ZF t a δ=some (.bl b):=by
 unfold ZF;rw [h1];dsimp only;rw [h2]
end DL
namespace DL
open PySem PySem.Spec L2
theorem ZeA{x:D}(hs:Yg x=false)(h:SeqAt.shaped (toP x)=true):eqD x x=some (.bl true):=by
 unfold eqD;rw [if_neg (by simp [hs]),h,if_pos (by rfl)];rw [SeqAt.eqv_refl _ (SeqAt.canLay_of_shaped h)]
theorem ZeB{x:D}(hs:Yg x=false)(h:SeqAt.shaped (toP x)=true):neD x x=some (.bl false):=by
 unfold neD;rw [ZeA hs h];rfl
end DL
namespace DL
open PySem PySem.Spec L2
theorem ZfU{a b:List D}(h:a.length+b.length<=100000):JU (.lst a) (.lst b)=some (.lst (a++b)):=by
 show(if a.length+b.length<=PySem.sizeLine then some (D.lst (a++b))else none)=_;rw [if_pos (by rw [PySem.sizeLine_eq];omega)]
theorem VL{xs:List D}{a:Nat}{x:D}(h:xs[a]? = some x):ixD (.lst xs) (.int (a:Int))=some x:=Qz h
theorem ix_str{cs:List Nat}{a:Nat}{c:Nat}(h:cs[a]? = some c)(hl:cs.length<=100000):ixD (.str cs) (.int (a:Int))=some (.str [c]):=QV (by rw [PySem.sizeLine_eq];omega) (Qz h)
theorem Ze7{i:Int}(h:0<=i):∃a:Nat,i=(a:Int):=⟨i.toNat,(Int.toNat_of_nonneg h).symm⟩
theorem len_str{cs:List Nat}(h:cs.length<=100000):lenD [.str cs]=some (.int (cs.length:Int)):=if_pos (by rw [PySem.sizeLine_eq];omega)
theorem ZfV{xs:List D}:lenD [.lst xs]=some (.int (xs.length:Int)):=rfl
theorem Zbp{c:Nat}{ms:List Nat}(h:c∈ms):∃i:Nat,Y7 c ms=(i:Int)/\ms[i]? = some c/\i<ms.length:=by
 unfold Y7;cases e:ms.findIdx? (· == c)with
 |none=>
  have:=List.findIdx?_eq_none_iff.mp e c h;simp at this
 |some i=>
  obtain⟨h1,h2,_⟩:=List.findIdx?_eq_some_iff_getElem.mp e;refine⟨i,rfl,?_,h1⟩;rw [List.getElem?_eq_getElem h1]
  congr 1
  simpa using h2
end DL
namespace K04
open PySem PySem.Spec L2 DL
def cs_MARK_SIGNS:List Nat:=[97,98,99,100,101,102,103,104,105,106,107,108,109,110,111,112,113,114,115,116,117,118,119,120,121,122,48,49,50,51,52,53,54,55,56,57]
def V8:List String:=["Turn"]
def V9:List String:=["Turn"]
def Ua:List String:=["Sum"]
def X2:List String:=["Gap"]
def Ub:List String:=["Sum"]
def Xw:List String:=["Gap", "Turn"]
def fc_marks:List String:=["Rule", "Gap", "Never", "Sum", "Turn", "Alike", "All"]
def Xd:List String:=["Gap", "Alike"]
def U9:List String:=["All"]
def XO:List String:=["Never"]
def Uc:List String:=["Sum"]
def it_All:List (String×Bool):=[("NoneType",false),("bool",false),("int",false),("str",false),("list",false),("tuple",false),("Rule",false),("Gap",false),("Never",false),("Sum",false),("Turn",false),("Alike",false),("All",true)]
def J4:List (String×Bool):=[("NoneType",false),("bool",true),("int",false),("str",false),("list",false),("tuple",false),("Rule",false),("Gap",false),("Never",false),("Sum",false),("Turn",false),("Alike",false),("All",false)]
def J5:List (String×Bool):=[("NoneType",false),("bool",true),("int",true),("str",false),("list",false),("tuple",false),("Rule",false),("Gap",false),("Never",false),("Sum",false),("Turn",false),("Alike",false),("All",false)]
def Zdd:List (String×Bool):=[("NoneType",false),("bool",false),("int",false),("str",false),("list",true),("tuple",false),("Rule",false),("Gap",false),("Never",false),("Sum",false),("Turn",false),("Alike",false),("All",false)]
def UB:List (String×Bool):=[("NoneType",false),("bool",false),("int",false),("str",false),("list",false),("tuple",true),("Rule",false),("Gap",false),("Never",false),("Sum",false),("Turn",false),("Alike",false),("All",false)]
noncomputable def J6:DL.Env->Option Out:=
 (Zf (sIf (xOr (xB (eOp (Zu λi j=>decide (i<j)) (eCB lenD (Zb (Za 0) eNil)) (eC (.int 2)))) (xB (eOp (Zu λi j=>decide (j<i)) (eCB lenD (Zb (Za 0) eNil)) (eC (.int 4))))) (Zm (eC (.bl false))) sNext)
 (Zm (eCB (Xg λbs=>bs.all id) (Zb (Yo (Yz (Za 0)) (Z9 0) (λ_=>some true) (ZM (eOp (inD false) (Za 0) (eC (.str cs_MARK_SIGNS))) (eOp eqD (eBM countD (Za 1) (Zb (Za 0) eNil)) (eC (.int 1)))) 1 [0]) eNil))))
noncomputable def QY:List D->Option D:=run 1 J6
noncomputable def J7:DL.Env->Option Out:=
 (Zm (ZM (eOp eqD (eCB lenD (Zb (Za 1) eNil)) (eC (.int 1))) (eOp (inD false) (Za 1) (Za 0))))
noncomputable def VM:List D->Option D:=run 2 J7
noncomputable def J8:DL.Env->Option Out:=
 (Zf (sIf (xOr (xB (ZF J4 (Za 0))) (Zz (xB (ZF J5 (Za 0))))) (Zm (eC (.bl false))) sNext)
 (Zm (ZP (Zu λi j=>decide (i<=j)) (Zu λi j=>decide (i<=j)) (Za 1) (Za 0) (Za 2))))
noncomputable def X3:List D->Option D:=run 3 J8
noncomputable def J9:DL.Env->Option Out:=
 (sIf (Zz (xB (Za 0))) sNever sNext)
noncomputable def Y1:List D->Option D:=run 2 J9
noncomputable def Zhq:DL.Env->Option Out:=
 (Zf (sIf (Zz (xB (Zn 1 QY [] (Zb (Za 1) eNil)))) sNever sNext)
 (ZC 0 fc_marks "marks" (Za 1)))
noncomputable def Vm:List D->Option D:=runI 2 Zhq
noncomputable def Qa:DL.Env->Option Out:=
 (Zm (eC (.int 0)))
noncomputable def Xx:List D->Option D:=run 1 Qa
noncomputable def Ziv:DL.Env->Option Out:=
 (Zm (eC (.int 0)))
noncomputable def Ziw:List D->Option D:=run 3 Ziv
noncomputable def Qb:DL.Env->Option Out:=
 (Zf (sIf (xB (eOp eqD (Za 2) (Zq Xw "mark" (Za 0)))) (Zm (eIf (xB (eOp (Zu λi j=>decide (j<=i)) (Za 1) (Zq X2 "least" (Za 0)))) (eC (.int 0)) (eC .non))) sNext)
 (Zf (sIf (xB (Zy (Zq Xd "most" (Za 0)))) (Zm (eCB minD (Zb (eOp addD (Za 1) (eC (.int 1))) (Zb (Zq X2 "least" (Za 0)) eNil)))) sNext)
 (Zm (eIf (xB (eOp (Zu λi j=>decide (i<j)) (Za 1) (Zq Xd "most" (Za 0)))) (eOp addD (Za 1) (eC (.int 1))) (eC .non)))))
noncomputable def Ud:List D->Option D:=run 3 Qb
noncomputable def Zhr:DL.Env->Option Out:=
 (Zf (Zk 3 (eOp addD (eSl (Zq XO "word" (Za 0)) xNoP (xP (Za 1))) (Za 2)))
 (Zf (sIf (xB (eOp eqD (Za 3) (Zq XO "word" (Za 0)))) (Zm (eC .non)) sNext)
 (Zf (Zk 4 (eCB lenD (Zb (Za 3) eNil)))
 (Zf (Uw (Zz (xB (eBM endsD (Za 3) (Zb (eSl (Zq XO "word" (Za 0)) xNoP (xP (Za 4))) eNil)))) (Zk 4 (eOp subD (Za 4) (eC (.int 1)))))
 (Zm (Za 4))))))
noncomputable def UC:List D->Option D:=run 5 Zhr
noncomputable def Qc:DL.Env->Option Out:=
 (Zf (Zk 3 (eOp addD (Za 1) (eOp ixD (Zq Uc "worths" (Za 0)) (eBM indexD (Zq fc_marks "marks" (Za 0)) (Zb (Za 2) eNil)))))
 (Zm (eIf (xB (ZP (Zu λi j=>decide (i<=j)) (Zu λi j=>decide (i<=j)) (Zq Ub "low" (Za 0)) (Za 3) (Zq Ua "high" (Za 0)))) (Za 3) (eC .non))))
noncomputable def Ue:List D->Option D:=run 4 Qc
noncomputable def Qd:DL.Env->Option Out:=
 (Zf (sIf (ZD (xB (eOp eqD (Za 2) (Zq Xw "mark" (Za 0)))) (xB (eOp neD (Za 1) (Zq V8 "at" (Za 0))))) (Zm (eC .non)) sNext)
 (Zm (eOp modD (eOp addD (Za 1) (eC (.int 1))) (Zq V9 "every" (Za 0)))))
noncomputable def Uf:List D->Option D:=run 3 Qd
noncomputable def UD:DL.Env->Option Out:=
 (Zf (Zk 3 (eBM indexD (Zq fc_marks "marks" (Za 0)) (Zb (Za 2) eNil)))
 (Zf (Zk 4 (eIf (xB (eOp eqD (Za 3) (eOp ixD (Za 1) (eC (.int 0))))) (eOp addD (eOp ixD (Za 1) (eC (.int 1))) (eC (.int 1))) (eC (.int 1))))
 (Zm (eIf (xB (eOp (Zu λi j=>decide (i<=j)) (Za 4) (Zq Xd "most" (Za 0)))) (ZE (Zb (Za 3) (Zb (Za 4) eNil))) (eC .non)))))
noncomputable def Vn:List D->Option D:=run 5 UD
noncomputable def tab_behind0:MTab:=[("Rule",3,Ziw),("Gap",3,Ud),("Never",3,UC),("Sum",3,Ue),("Turn",3,Uf),("Alike",3,Vn)]
noncomputable def Zix:DL.Env->Option Out:=
 (Zf (sIf (Zz (xB (Zn 2 VM [] (Zb (Zq fc_marks "marks" (Za 0)) (Zb (Za 2) eNil))))) sNever sNext)
 (Zm (Zr "behind" tab_behind0 (Za 0) (Zb (Za 1) (Zb (Za 2) eNil)))))
noncomputable def VN:List D->Option D:=run 3 Zix
noncomputable def tab_step0:MTab:=[("Rule",3,VN),("Gap",3,VN),("Never",3,VN),("Sum",3,VN),("Turn",3,VN),("Alike",3,VN)]
noncomputable def Zhs:DL.Env->Option Out:=
 (Zf (Zk 3 (ZA eNil))
 (Zf (Y8 (QQ (Zq U9 "rules" (Za 0)) (Za 1)) (Xr 2 (YC 4 (YC 5 gsNil))) (Zf (Zk 6 (Zr "step" tab_step0 (Za 4) (Zb (Za 5) (Zb (Za 2) eNil))))
 (Zf (sIf (xB (Zy (Za 6))) (Zm (eC .non)) sNext)
 (V2 3 (Za 6)))))
 (Zm (eCB Vj (Zb (Za 3) eNil)))))
noncomputable def Ziy:List D->Option D:=run 7 Zhs
noncomputable def tab_behind:MTab:=[("Rule",3,Ziw),("Gap",3,Ud),("Never",3,UC),("Sum",3,Ue),("Turn",3,Uf),("Alike",3,Vn),("All",3,Ziy)]
noncomputable def Ziz:DL.Env->Option Out:=
 (Zf (sIf (Zz (xB (Zn 2 VM [] (Zb (Zq fc_marks "marks" (Za 0)) (Zb (Za 2) eNil))))) sNever sNext)
 (Zm (Zr "behind" tab_behind (Za 0) (Zb (Za 1) (Zb (Za 2) eNil)))))
noncomputable def Vo:List D->Option D:=run 3 Ziz
noncomputable def Zht:DL.Env->Option Out:=
 (Zm (Zq X2 "least" (Za 0)))
noncomputable def QZ:List D->Option D:=run 1 Zht
noncomputable def Zhu:DL.Env->Option Out:=
 (Zm (ZE (Zb (eC (.int 0)) (Zb (eC (.int 0)) eNil))))
noncomputable def Q0:List D->Option D:=run 1 Zhu
noncomputable def tab_begin0:MTab:=[("Rule",1,Xx),("Gap",1,QZ),("Never",1,Xx),("Sum",1,Xx),("Turn",1,Xx),("Alike",1,Q0)]
noncomputable def ZiA:DL.Env->Option Out:=
 (Zm (eCB Vj (Zb (Yo (Yz (Zq U9 "rules" (Za 0))) (Z9 0) (λ_=>some true) (Zr "begin" tab_begin0 (Za 0) eNil) 1 []) eNil)))
noncomputable def ZiB:List D->Option D:=run 1 ZiA
noncomputable def tab_begin:MTab:=[("Rule",1,Xx),("Gap",1,QZ),("Never",1,Xx),("Sum",1,Xx),("Turn",1,Xx),("Alike",1,Q0),("All",1,ZiB)]
noncomputable def tab_step:MTab:=[("Rule",3,Vo),("Gap",3,Vo),("Never",3,Vo),("Sum",3,Vo),("Turn",3,Vo),("Alike",3,Vo),("All",3,Vo)]
noncomputable def Zhv:DL.Env->Option Out:=
 (Zf (Zk 2 (Zr "begin" tab_begin (Za 0) eNil))
 (Zf (Y8 (JR 0 (Za 1)) (Xr 2 (YC 3 (YC 4 gsNil))) (Zf (Zk 2 (Zr "step" tab_step (Za 0) (Zb (Za 2) (Zb (Za 4) eNil))))
 (sIf (xB (Zy (Za 2))) (Zm (Za 3)) sNext)))
 (Zm (eC .non))))
noncomputable def XQ:List D->Option D:=run 5 Zhv
noncomputable def tab_broken_at:MTab:=[("Rule",2,XQ),("Gap",2,XQ),("Never",2,XQ),("Sum",2,XQ),("Turn",2,XQ),("Alike",2,XQ),("All",2,XQ)]
noncomputable def ZiC:DL.Env->Option Out:=
 (Zm (Zy (Zr "broken_at" tab_broken_at (Za 0) (Zb (Za 1) eNil))))
noncomputable def VP:List D->Option D:=run 2 ZiC
noncomputable def f_Q8:DL.Env->Option Out:=
 (Zf (ZJ 0 2 Vm [] (Zb (Za 1) eNil))
 (Zf (Zx (Zn 2 Y1 [] (Zb (Zn 2 VM [] (Zb (Za 1) (Zb (Za 2) eNil))) (Zb (eC (.str [97,32,71,97,112,39,115,32,109,97,114,107,32,105,115,32,111,110,101,32,111,102,32,116,104,101,32,109,97,114,107,115])) eNil))))
 (Zf (Zx (Zn 2 Y1 [] (Zb (Zn 3 X3 [] (Zb (Za 3) (Zb (eC (.int 0)) (Zb (eC (.int 8)) eNil)))) (Zb (eC (.str [97,32,71,97,112,39,115,32,108,101,97,115,116,32,105,115,32,102,114,111,109,32,48,32,116,111,32,56])) eNil))))
 (Zf (Zx (Zn 2 Y1 [] (Zb (eOr (Zy (Za 4)) (Zn 3 X3 [] (Zb (Za 4) (Zb (Za 3) (Zb (eC (.int 8)) eNil))))) (Zb (eC (.str [97,32,71,97,112,39,115,32,109,111,115,116,32,105,115,32,78,111,110,101,32,111,114,32,102,114,111,109,32,108,101,97,115,116,32,116,111,32,56])) eNil))))
 (Zf (ZC 0 Xw "mark" (Za 2))
 (Zf (ZC 0 X2 "least" (Za 3))
 (ZC 0 Xd "most" (Za 4))))))))
noncomputable def Qe:List D->Option D:=runI 5 f_Q8
noncomputable def Zhw:DL.Env->Option Out:=
 (Zf (ZJ 0 2 Vm [] (Zb (Za 1) eNil))
 (Zf (Zx (Zn 2 Y1 [] (Zb (ZP (Zu λi j=>decide (i<=j)) (Zu λi j=>decide (i<=j)) (eC (.int 1)) (eCB lenD (Zb (Za 2) eNil)) (eC (.int 6))) (Zb (eC (.str [97,32,78,101,118,101,114,39,115,32,119,111,114,100,32,104,97,115,32,49,32,116,111,32,54,32,115,105,103,110,115])) eNil))))
 (Zf (Zx (Zn 2 Y1 [] (Zb (eCB (Xg λbs=>bs.all id) (Zb (Yo (Yz (Za 2)) (Z9 0) (λ_=>some true) (Zn 2 VM [] (Zb (Za 1) (Zb (Za 0) eNil))) 1 [1]) eNil)) (Zb (eC (.str [97,32,78,101,118,101,114,39,115,32,119,111,114,100,32,105,115,32,111,102,32,109,97,114,107,115])) eNil))))
 (ZC 0 XO "word" (Za 2)))))
noncomputable def Zhx:List D->Option D:=runI 3 Zhw
noncomputable def Zhy:DL.Env->Option Out:=
 (Zf (ZJ 0 2 Vm [] (Zb (Za 1) eNil))
 (Zf (Zx (Zn 2 Y1 [] (Zb (eOp eqD (eCB lenD (Zb (Za 2) eNil)) (eCB lenD (Zb (Za 1) eNil))) (Zb (eC (.str [97,32,83,117,109,32,104,97,115,32,97,115,32,109,97,110,121,32,119,111,114,116,104,115,32,97,115,32,116,104,101,114,101,32,97,114,101,32,109,97,114,107,115])) eNil))))
 (Zf (Zx (Zn 2 Y1 [] (Zb (eCB (Xg λbs=>bs.all id) (Zb (Yo (Yz (Za 2)) (Z9 0) (λ_=>some true) (Zn 3 X3 [] (Zb (Za 0) (Zb (eUn ZI (eC (.int 3))) (Zb (eC (.int 3)) eNil)))) 1 []) eNil)) (Zb (eC (.str [97,32,83,117,109,39,115,32,119,111,114,116,104,115,32,97,114,101,32,102,114,111,109,32,45,51,32,116,111,32,51])) eNil))))
 (Zf (Zx (Zn 2 Y1 [] (Zb (Zn 3 X3 [] (Zb (Za 3) (Zb (eUn ZI (eC (.int 8))) (Zb (eC (.int 0)) eNil)))) (Zb (eC (.str [97,32,83,117,109,39,115,32,108,111,119,32,105,115,32,102,114,111,109,32,45,56,32,116,111,32,48])) eNil))))
 (Zf (Zx (Zn 2 Y1 [] (Zb (Zn 3 X3 [] (Zb (Za 4) (Zb (eC (.int 0)) (Zb (eC (.int 8)) eNil)))) (Zb (eC (.str [97,32,83,117,109,39,115,32,104,105,103,104,32,105,115,32,102,114,111,109,32,48,32,116,111,32,56])) eNil))))
 (Zf (ZC 0 Uc "worths" (eCB Vj (Zb (Za 2) eNil)))
 (Zf (ZC 0 Ub "low" (Za 3))
 (ZC 0 Ua "high" (Za 4)))))))))
noncomputable def Zhz:List D->Option D:=runI 5 Zhy
noncomputable def ZhA:DL.Env->Option Out:=
 (Zf (ZJ 0 2 Vm [] (Zb (Za 1) eNil))
 (Zf (Zx (Zn 2 Y1 [] (Zb (Zn 2 VM [] (Zb (Za 1) (Zb (Za 2) eNil))) (Zb (eC (.str [97,32,84,117,114,110,39,115,32,109,97,114,107,32,105,115,32,111,110,101,32,111,102,32,116,104,101,32,109,97,114,107,115])) eNil))))
 (Zf (Zx (Zn 2 Y1 [] (Zb (Zn 3 X3 [] (Zb (Za 3) (Zb (eC (.int 1)) (Zb (eC (.int 6)) eNil)))) (Zb (eC (.str [97,32,84,117,114,110,39,115,32,101,118,101,114,121,32,105,115,32,102,114,111,109,32,49,32,116,111,32,54])) eNil))))
 (Zf (Zx (Zn 2 Y1 [] (Zb (Zn 3 X3 [] (Zb (Za 4) (Zb (eC (.int 0)) (Zb (eOp subD (Za 3) (eC (.int 1))) eNil)))) (Zb (eC (.str [97,32,84,117,114,110,39,115,32,97,116,32,105,115,32,102,114,111,109,32,48,32,116,111,32,111,110,101,32,98,101,108,111,119,32,101,118,101,114,121])) eNil))))
 (Zf (ZC 0 Xw "mark" (Za 2))
 (Zf (ZC 0 V9 "every" (Za 3))
 (ZC 0 V8 "at" (Za 4))))))))
noncomputable def ZhB:List D->Option D:=runI 5 ZhA
noncomputable def ZhC:DL.Env->Option Out:=
 (Zf (ZJ 0 2 Vm [] (Zb (Za 1) eNil))
 (Zf (Zx (Zn 2 Y1 [] (Zb (Zn 3 X3 [] (Zb (Za 2) (Zb (eC (.int 1)) (Zb (eC (.int 6)) eNil)))) (Zb (eC (.str [97,110,32,65,108,105,107,101,39,115,32,109,111,115,116,32,105,115,32,102,114,111,109,32,49,32,116,111,32,54])) eNil))))
 (ZC 0 Xd "most" (Za 2))))
noncomputable def ZhD:List D->Option D:=runI 3 ZhC
noncomputable def Q1:DL.Env->Option Out:=
 (Zf (ZJ 0 2 Vm [] (Zb (Za 1) eNil))
 (Zf (Zx (Zn 2 Y1 [] (Zb (eOp (Zu λi j=>decide (i<=j)) (eCB lenD (Zb (Za 2) eNil)) (eC (.int 6))) (Zb (eC (.str [97,110,32,65,108,108,32,104,97,115,32,97,116,32,109,111,115,116,32,54,32,114,117,108,101,115])) eNil))))
 (Zf (Zx (Zn 2 Y1 [] (Zb (ZN (eCB (Xg λbs=>bs.any id) (Zb (Yo (Yz (Za 2)) (Z9 0) (λ_=>some true) (ZF it_All (Za 0)) 1 []) eNil))) (Zb (eC (.str [110,111,32,114,117,108,101,32,105,110,32,97,110,32,65,108,108,32,105,115,32,97,110,32,65,108,108])) eNil))))
 (Zx (Zn 2 Y1 [] (Zb (eCB (Xg λbs=>bs.all id) (Zb (Yo (Yz (Za 2)) (Z9 0) (λ_=>some true) (eOp eqD (Zq fc_marks "marks" (Za 0)) (Za 1)) 1 [1]) eNil)) (Zb (eC (.str [116,104,101,32,114,117,108,101,115,32,105,110,32,97,110,32,65,108,108,32,97,114,101,32,111,102,32,105,116,115,32,109,97,114,107,115])) eNil)))))))
noncomputable def Q2:List D->Option D:=runI 3 Q1
noncomputable def Q3:DL.Env->Option Out:=
 (Zf (sIf (xB (eOp (Zu λi j=>decide (i<j)) (Za 1) (eCB lenD (Zb (Za 0) eNil)))) (Zm (eOp ixD (Za 0) (Za 1))) sNext)
 (Zm (eC (.int 0))))
noncomputable def Vp:List D->Option D:=run 2 Q3
noncomputable def ZhE:DL.Env->Option Out:=
 (Zf (Zk 1 (eC (.str [97,98,99,100,101,102,103,104,105,106,107,108,109,110,111,112,113,114,115,116,117,118,119,120,121,122,48,49,50,51,52,53,54,55,56,57])))
 (Zf (Zk 2 (eOp addD (eC (.int 1)) (eOp modD (eOp fdivD (Za 0) (eC (.int 36))) (eC (.int 11)))))
 (Zm (eBM joinD (eC (.str [])) (Zb (Yo (Y5 (Zb (eOp addD (eC (.int 2)) (eOp modD (eOp fdivD (Za 0) (eC (.int 396))) (eC (.int 3)))) eNil)) (Z9 0) (λ_=>some true) (eOp ixD (Za 1) (eOp modD (eOp addD (Za 2) (eOp mulD (Za 0) (Za 3))) (eC (.int 36)))) 1 [1,0,2]) eNil)))))
noncomputable def Q4:List D->Option D:=run 3 ZhE
noncomputable def Q5:DL.Env->Option Out:=
 (Zf (Zk 2 (eBM rfindD (Za 1) (Zb (eOp ixD (Za 0) (eC (.int 1))) eNil)))
 (Zf (sIf (xB (eOp (Zu λi j=>decide (i<j)) (Za 2) (eC (.int 0)))) (Zm (eOp addD (eCB lenD (Zb (Za 1) eNil)) (eOp ixD (Za 0) (eC (.int 2))))) sNext)
 (Zm (eOp subD (eOp subD (eCB lenD (Zb (Za 1) eNil)) (eC (.int 1))) (Za 2)))))
noncomputable def Q6:List D->Option D:=run 3 Q5
noncomputable def ZiD:DL.Env->Option Out:=
 (Zm (eCB sumLD (Zb (Yo (Yz (Za 2)) (Z9 0) (λ_=>some true) (eOp ixD (eOp ixD (Za 1) (eC (.int 1))) (eBM indexD (Za 2) (Zb (Za 0) eNil))) 1 [1,0]) eNil)))
noncomputable def ZiE:List D->Option D:=run 3 ZiD
noncomputable def XR:DL.Env->Option Out:=
 (Zf (sIf (xB (eOp eqD (eOp ixD (Za 1) (eC (.int 0))) (eC (.str [103,97,112])))) (Zf (Zk 3 (Zn 2 Q6 [] (Zb (Za 1) (Zb (eSl (Za 2) xNoP (xP (eUn ZI (eC (.int 1))))) eNil))))
 (Zf (sIf (xB (eOp eqD (eOp ixD (Za 2) (eUn ZI (eC (.int 1)))) (eOp ixD (Za 1) (eC (.int 1))))) (Zm (eOp (Zu λi j=>decide (i<j)) (Za 3) (eOp ixD (Za 1) (eC (.int 2))))) sNext)
 (Zm (ZM (ZH (eOp ixD (Za 1) (eC (.int 3)))) (eOp (Zu λi j=>decide (j<i)) (eOp addD (Za 3) (eC (.int 1))) (eOp ixD (Za 1) (eC (.int 3)))))))) sNext)
 (Zf (sIf (xB (eOp eqD (eOp ixD (Za 1) (eC (.int 0))) (eC (.str [110,101,118,101,114])))) (Zm (eBM endsD (Za 2) (Zb (eOp ixD (Za 1) (eC (.int 1))) eNil))) sNext)
 (Zf (sIf (xB (eOp eqD (eOp ixD (Za 1) (eC (.int 0))) (eC (.str [115,117,109])))) (Zf (Zk 4 (Zn 3 ZiE [] (Zb (Za 0) (Zb (Za 1) (Zb (Za 2) eNil)))))
 (Zm (eOr (eOp (Zu λi j=>decide (i<j)) (Za 4) (eOp ixD (Za 1) (eC (.int 2)))) (eOp (Zu λi j=>decide (j<i)) (Za 4) (eOp ixD (Za 1) (eC (.int 3))))))) sNext)
 (Zf (sIf (xB (eOp eqD (eOp ixD (Za 1) (eC (.int 0))) (eC (.str [116,117,114,110])))) (Zm (ZM (eOp eqD (eOp ixD (Za 2) (eUn ZI (eC (.int 1)))) (eOp ixD (Za 1) (eC (.int 1)))) (eOp neD (eOp modD (eOp subD (eCB lenD (Zb (Za 2) eNil)) (eC (.int 1))) (eOp ixD (Za 1) (eC (.int 2)))) (eOp ixD (Za 1) (eC (.int 3)))))) sNext)
 (Zm (eBM endsD (Za 2) (Zb (eOp mulD (eOp ixD (Za 2) (eUn ZI (eC (.int 1)))) (eOp addD (eOp ixD (Za 1) (eC (.int 1))) (eC (.int 1)))) eNil)))))))
noncomputable def Xe:List D->Option D:=run 5 XR
noncomputable def ZhF:DL.Env->Option Out:=
 (Zf (Zk 5 (eOp ixD (Za 0) (eOp modD (Za 2) (eCB lenD (Zb (Za 0) eNil)))))
 (Zf (sIf (xB (eOp eqD (eOp modD (Za 1) (eC (.int 5))) (eC (.int 0)))) (Zf (Zk 6 (eOp ixD (ZA (Zb (eOp modD (Za 3) (eC (.int 3))) (Zb (eOp modD (Za 3) (eC (.int 9))) eNil))) (eOp modD (Za 4) (eC (.int 2)))))
 (Zf (sIf (xB (eOp eqD (eOp modD (eOp fdivD (Za 4) (eC (.int 2))) (eC (.int 3))) (eC (.int 0)))) (Zm (ZE (Zb (eC (.str [103,97,112])) (Zb (Za 5) (Zb (Za 6) (Zb (eC .non) eNil)))))) sNext)
 (Zm (ZE (Zb (eC (.str [103,97,112])) (Zb (Za 5) (Zb (Za 6) (Zb (eCB minD (Zb (eC (.int 8)) (Zb (eOp addD (Za 6) (eOp modD (eOp fdivD (Za 4) (eC (.int 6))) (eC (.int 5)))) eNil))) eNil)))))))) sNext)
 (Zf (sIf (xB (eOp eqD (eOp modD (Za 1) (eC (.int 5))) (eC (.int 1)))) (Zf (Zk 7 (eOp addD (eC (.int 1)) (eOp modD (Za 3) (eC (.int 6)))))
 (Zm (ZE (Zb (eC (.str [110,101,118,101,114])) (Zb (eBM joinD (eC (.str [])) (Zb (Yo (Y5 (Zb (Za 7) eNil)) (Z9 0) (λ_=>some true) (eOp ixD (Za 1) (eOp modD (eOp fdivD (Za 2) (eOp ixD (ZA (Zb (eC (.int 1)) (Zb (eC (.int 3)) (Zb (eC (.int 7)) (Zb (eC (.int 11)) (Zb (eC (.int 17)) (Zb (eC (.int 23)) eNil))))))) (Za 0))) (eCB lenD (Zb (Za 1) eNil)))) 1 [0,2]) eNil)) eNil))))) sNext)
 (Zf (sIf (xB (eOp eqD (eOp modD (Za 1) (eC (.int 5))) (eC (.int 2)))) (Zf (Zk 8 (ZA (Zb (eOp subD (eOp modD (Za 2) (eC (.int 7))) (eC (.int 3))) (Zb (eOp subD (eOp modD (Za 3) (eC (.int 7))) (eC (.int 3))) (Zb (eOp subD (eOp modD (eOp fdivD (Za 2) (eC (.int 7))) (eC (.int 7))) (eC (.int 3))) (Zb (eOp subD (eOp modD (eOp fdivD (Za 3) (eC (.int 7))) (eC (.int 7))) (eC (.int 3))) eNil))))))
 (Zm (ZE (Zb (eC (.str [115,117,109])) (Zb (eCB Vj (Zb (eSl (Za 8) xNoP (xP (eCB lenD (Zb (Za 0) eNil)))) eNil)) (Zb (eUn ZI (eOp modD (Za 4) (eC (.int 9)))) (Zb (eOp modD (eOp fdivD (Za 4) (eC (.int 9))) (eC (.int 9))) eNil))))))) sNext)
 (Zf (sIf (xB (eOp eqD (eOp modD (Za 1) (eC (.int 5))) (eC (.int 3)))) (Zf (Zk 9 (eOp addD (eC (.int 1)) (eOp modD (Za 3) (eC (.int 6)))))
 (Zm (ZE (Zb (eC (.str [116,117,114,110])) (Zb (Za 5) (Zb (Za 9) (Zb (eOp modD (Za 4) (Za 9)) eNil))))))) sNext)
 (Zm (ZE (Zb (eC (.str [97,108,105,107,101])) (Zb (eOp addD (eC (.int 1)) (eOp modD (Za 4) (eC (.int 6)))) eNil)))))))))
noncomputable def ZhG:List D->Option D:=run 10 ZhF
noncomputable def VQ:DL.Env->Option Out:=
 (Zf (sIf (xB (eOp eqD (eOp ixD (Za 1) (eC (.int 0))) (eC (.str [103,97,112])))) (Zf (sIf (xB (Zy (eOp ixD (Za 1) (eC (.int 3))))) (Zm (ZK "Gap" 5 Qe [.non] (Zb (Za 0) (Zb (eOp ixD (Za 1) (eC (.int 1))) (Zb (eOp ixD (Za 1) (eC (.int 2))) eNil))))) sNext)
 (Zm (ZK "Gap" 5 Qe [] (Zb (Za 0) (Zb (eOp ixD (Za 1) (eC (.int 1))) (Zb (eOp ixD (Za 1) (eC (.int 2))) (Zb (eOp ixD (Za 1) (eC (.int 3))) eNil))))))) sNext)
 (Zf (sIf (xB (eOp eqD (eOp ixD (Za 1) (eC (.int 0))) (eC (.str [110,101,118,101,114])))) (Zm (ZK "Never" 3 Zhx [] (Zb (Za 0) (Zb (eOp ixD (Za 1) (eC (.int 1))) eNil)))) sNext)
 (Zf (sIf (xB (eOp eqD (eOp ixD (Za 1) (eC (.int 0))) (eC (.str [115,117,109])))) (Zm (ZK "Sum" 5 Zhz [] (Zb (Za 0) (Zb (eOp ixD (Za 1) (eC (.int 1))) (Zb (eOp ixD (Za 1) (eC (.int 2))) (Zb (eOp ixD (Za 1) (eC (.int 3))) eNil)))))) sNext)
 (Zf (sIf (xB (eOp eqD (eOp ixD (Za 1) (eC (.int 0))) (eC (.str [116,117,114,110])))) (Zm (ZK "Turn" 5 ZhB [] (Zb (Za 0) (Zb (eOp ixD (Za 1) (eC (.int 1))) (Zb (eOp ixD (Za 1) (eC (.int 2))) (Zb (eOp ixD (Za 1) (eC (.int 3))) eNil)))))) sNext)
 (Zm (ZK "Alike" 3 ZhD [] (Zb (Za 0) (Zb (eOp ixD (Za 1) (eC (.int 1))) eNil))))))))
noncomputable def Xk:List D->Option D:=run 2 VQ
noncomputable def ZhH:DL.Env->Option Out:=
 (Zf (Zk 2 (ZA eNil))
 (Zf (Y8 (Y5 (Zb (eOp modD (Zn 2 Vp [] (Zb (Za 0) (Zb (eC (.int 1)) eNil))) (eC (.int 7))) eNil)) (Z9 3) (Zf (Zk 4 (Yo (Y5 (Zb (eC (.int 3)) eNil)) (Z9 0) (λ_=>some true) (Zn 2 Vp [] (Zb (Za 1) (Zb (eOp addD (eOp addD (eC (.int 3)) (eOp mulD (eC (.int 3)) (Za 2))) (Za 0)) eNil))) 1 [0,3]))
 (Zf (Zk 5 (eOp addD (eOp fdivD (eOp ixD (Za 4) (eC (.int 0))) (eC (.int 7))) (eOp fdivD (eOp ixD (Za 4) (eC (.int 1))) (eC (.int 60)))))
 (V2 2 (Zn 5 ZhG [] (Zb (Za 1) (Zb (Za 5) (Zb (eOp ixD (Za 4) (eC (.int 0))) (Zb (eOp ixD (Za 4) (eC (.int 1))) (Zb (eOp ixD (Za 4) (eC (.int 2))) eNil))))))))))
 (Zm (Za 2))))
noncomputable def ZhI:List D->Option D:=run 6 ZhH
noncomputable def ZiF:DL.Env->Option Out:=
 (Zm (eCB (Xg λbs=>bs.any id) (Zb (Yo (Yz (Za 1)) (Z9 0) (λ_=>some true) (Zn 3 Xe [] (Zb (Za 1) (Zb (Za 0) (Zb (Za 2) eNil)))) 1 [0,2]) eNil)))
noncomputable def Ug:List D->Option D:=run 3 ZiF
noncomputable def ZhJ:DL.Env->Option Out:=
 (Zf (Zk 3 (eC (.str [])))
 (Zf (Y8 (Yz (eSl (Za 0) xNoP (xP (eC (.int 80))))) (Z9 4) (Zf (Zk 5 (eOp addD (Za 3) (eOp ixD (Za 1) (eOp modD (eOp fdivD (Za 4) (eC (.int 7))) (eCB lenD (Zb (Za 1) eNil))))))
 (Zf (Y8 (Y5 (Zb (eCB lenD (Zb (Za 1) eNil)) eNil)) (Z9 6) (Zf (Zk 7 (eOp addD (Za 3) (eOp ixD (Za 1) (eOp modD (eOp addD (eOp fdivD (Za 4) (eC (.int 7))) (Za 6)) (eCB lenD (Zb (Za 1) eNil))))))
 (sIf (ZD (xB (eOp (Zu λi j=>decide (j<i)) (eOp modD (Za 4) (eC (.int 6))) (eC (.int 0)))) (Zz (xB (Zn 3 Ug [] (Zb (Za 1) (Zb (Za 2) (Zb (Za 7) eNil))))))) (Zf (Zk 5 (Za 7))
 sBreak) sNext)))
 (Zf (Zk 3 (Za 5))
 (sIf (xB (Zn 3 Ug [] (Zb (Za 1) (Zb (Za 2) (Zb (Za 3) eNil))))) sBreak sNext)))))
 (Zm (Za 3))))
noncomputable def ZhK:List D->Option D:=run 8 ZhJ
noncomputable def ZiG:DL.Env->Option Out:=
 (Zm (Yo (ZcP 0 (Za 0)) (Xr 2 (YC 0 (YC 1 gsNil))) (λ_=>some true) (Zr "step" tab_step (Za 1) (Zb (eOp ixD (Za 2) (Za 0)) (Zb (Za 3) eNil))) 2 [1,2]))
noncomputable def ZhL:List D->Option D:=run 3 ZiG
noncomputable def Zaj:MTab:=[("Rule",2,VP),("Gap",2,VP),("Never",2,VP),("Sum",2,VP),("Turn",2,VP),("Alike",2,VP),("All",2,VP)]
noncomputable def ZhM:DL.Env->Option Out:=
 (Zf (Zk 1 (Zn 1 Q4 [] (Zb (Zn 2 Vp [] (Zb (Za 0) (Zb (eC (.int 0)) eNil))) eNil)))
 (Zf (Zk 2 (Zn 2 ZhI [] (Zb (Za 0) (Zb (Za 1) eNil))))
 (Zf (Zk 3 (Zn 3 ZhK [] (Zb (Za 0) (Zb (Za 1) (Zb (Za 2) eNil)))))
 (Zf (Zk 4 (Yo (Yz (Za 2)) (Z9 0) (λ_=>some true) (Zn 2 Xk [] (Zb (Za 1) (Zb (Za 0) eNil))) 1 [1]))
 (Zf (Zk 5 (Yo (Yz (Za 2)) (Z9 0) (λ_=>some true) (Zn 2 Xk [] (Zb (Za 1) (Zb (Za 0) eNil))) 1 [1]))
 (U6 1 4 6 7 8 "All" Q2
 (Zf (Zk 9 (Zr "begin" tab_begin (Za 6) eNil))
 (Zf (Zk 10 (Yo (Yz (Za 5)) (Z9 0) (λ_=>some true) (Zr "begin" tab_begin (Za 0) eNil) 1 []))
 (Zf (Zk 11 (eC .non))
 (Zf (Y8 (Y5 (Zb (eCB lenD (Zb (Za 3) eNil)) eNil)) (Z9 12) (Zf (sIf (xOr (Zz (xB (ZF UB (Za 9)))) (xB (eOp neD (eCB V4 (Zb (Za 9) eNil)) (Za 10)))) (Zm (eC (.bl false))) sNext)
 (Zf (Zk 10 (Zn 3 ZhL [] (Zb (Za 5) (Zb (Za 10) (Zb (eOp ixD (Za 3) (Za 12)) eNil)))))
 (Zf (Zk 9 (Zr "step" tab_step (Za 6) (Zb (Za 9) (Zb (eOp ixD (Za 3) (Za 12)) eNil))))
 (sIf (xB (eOp inL (eC .non) (Za 10))) (Zf (Zk 11 (Za 12))
 sBreak) sNext)))))
 (Zf (sIf (ZD (xB (Zy (Za 11))) (xOr (Zz (xB (ZF UB (Za 9)))) (xB (eOp neD (eCB V4 (Zb (Za 9) eNil)) (Za 10))))) (Zm (eC (.bl false))) sNext)
 (Zf (sIf (ZD (xB (ZH (Za 11))) (xB (ZH (Za 9)))) (Zm (eC (.bl false))) sNext)
 (Zf (sIf (xOr (xB (eOp neD (Zr "broken_at" tab_broken_at (Za 6) (Zb (Za 3) eNil)) (Za 11))) (xB (eOp neD (Zr "keeps" Zaj (Za 6) (Zb (Za 3) eNil)) (Zy (Za 11))))) (Zm (eC (.bl false))) sNext)
 (Zk 13 (Yo (Yz (Za 5)) (Z9 0) (xB (ZH (Zr "broken_at" tab_broken_at (Za 0) (Zb (Za 1) eNil)))) (Zr "broken_at" tab_broken_at (Za 0) (Zb (Za 1) eNil)) 1 [3]))))))))) (eOp eqD (eCB minQD (Zb (eOp U5 (Za 13) (ZA (Zb (eCB lenD (Zb (Za 3) eNil)) eNil))) eNil)) (eOp ixD (ZA (Zb (Za 11) (Zb (eCB lenD (Zb (Za 3) eNil)) eNil))) (eCB intD (Zb (Zy (Za 11)) eNil))))))))))
noncomputable def ZhN:List D->Option D:=run 14 ZhM
end K04
namespace K04
open PySem PySem.Spec L2 DL
def top(i:Nat):Stmt:=PySem.Challenge.pw_grooveway_k04_all_at_once.main.body.getD i (.Pass ⟨0,0,0,0⟩)
abbrev Q7:Stmt:=top 7
abbrev ZhO:Stmt:=top 8
abbrev ZhP:Stmt:=top 9
abbrev ZhQ:Stmt:=top 10
abbrev ZhR:Stmt:=YS (top 11) 0
abbrev ZhS:Stmt:=YS (top 11) 1
abbrev ZhT:Stmt:=YS (top 11) 3
abbrev ZhU:Stmt:=YS (top 12) 2
abbrev ZhV:Stmt:=YS (top 13) 1
abbrev ZhW:Stmt:=YS (top 14) 1
abbrev ZhX:Stmt:=YS (top 15) 1
abbrev ZhY:Stmt:=YS (top 16) 2
abbrev ZhZ:Stmt:=YS (top 17) 2
abbrev Zh0:Stmt:=YS (top 11) 2
abbrev Zh1:Stmt:=YS (top 12) 1
abbrev Zh2:Stmt:=YS (top 16) 1
abbrev Q8:Stmt:=YS (top 17) 1
abbrev Zh3:Stmt:=YS (top 11) 4
abbrev Zh4:Stmt:=YS (top 11) 5
abbrev VR:Stmt:=YS (top 12) 0
abbrev Q9:Stmt:=YS (top 13) 0
abbrev Ja:Stmt:=YS (top 14) 0
abbrev Zh5:Stmt:=YS (top 15) 0
abbrev Zh6:Stmt:=YS (top 16) 0
abbrev Qf:Stmt:=YS (top 17) 0
abbrev Zh7:Stmt:=YS (top 17) 3
abbrev Zh8:Stmt:=top 19
abbrev Jb:Stmt:=top 20
abbrev Zh9:Stmt:=top 21
abbrev Jc:Stmt:=top 22
abbrev Zia:Stmt:=top 23
abbrev Jd:Stmt:=top 24
abbrev Zib:Stmt:=top 25
abbrev Je:Stmt:=top 26
abbrev Jf:Stmt:=top 27
abbrev Zic:Stmt:=top 28
abbrev Jg:Stmt:=top 29
abbrev Uh:Stmt:=top 30
theorem ZiV:FnScope ["marks"] ["marks"] (defScope Q7):=fsm
theorem ZiW:FnScope ["marks", "text"] ["marks", "text"] (defScope ZhO):=fsm
theorem ZiX:FnScope ["number", "low", "high"] ["number", "low", "high"] (defScope ZhP):=fsm
theorem ZiY:FnScope ["holds", "words"] ["holds", "words"] (defScope ZhQ):=fsm
theorem ZiZ:FnScope ["self", "marks"] ["self", "marks"] (defScope ZhR):=fsm
theorem Zi0:FnScope ["self"] ["self"] (defScope ZhS):=fsm
theorem Zi1:FnScope ["self", "state", "mark"] ["self", "state", "mark"] (defScope ZhT):=fsm
theorem Zi2:FnScope ["self", "state", "mark"] ["self", "state", "mark"] (defScope ZhU):=fsm
theorem Zi3:FnScope ["self", "state", "mark", "end", "length"] ["self", "state", "mark"] (defScope ZhV):=fsm
theorem Zi4:FnScope ["self", "state", "mark", "total"] ["self", "state", "mark"] (defScope ZhW):=fsm
theorem Zi5:FnScope ["self", "state", "mark"] ["self", "state", "mark"] (defScope ZhX):=fsm
theorem Zi6:FnScope ["self", "state", "mark", "number", "many"] ["self", "state", "mark"] (defScope ZhY):=fsm
theorem Zi7:FnScope ["self", "state", "mark", "states", "rule", "own", "after"] ["self", "state", "mark"] (defScope ZhZ):=fsm
theorem Zgq:FnScope ["self", "state", "mark"] ["self", "state", "mark"] (defScope Zh0):=fsm
theorem Zi8:FnScope ["self"] ["self"] (defScope Zh1):=fsm
theorem Zi9:FnScope ["self"] ["self"] (defScope Zh2):=fsm
theorem Zja:FnScope ["self"] ["self"] (defScope Q8):=fsm
theorem Zjb:FnScope ["self", "row", "state", "place", "mark"] ["self", "row"] (defScope Zh3):=fsm
theorem Zjc:FnScope ["self", "row"] ["self", "row"] (defScope Zh4):=fsm
theorem Zjd:FnScope ["self", "marks", "mark", "least", "most"] ["self", "marks", "mark", "least", "most"] (defScope VR):=fsm
theorem Zje:FnScope ["self", "marks", "word"] ["self", "marks", "word"] (defScope Q9):=fsm
theorem Zjf:FnScope ["self", "marks", "worths", "low", "high"] ["self", "marks", "worths", "low", "high"] (defScope Ja):=fsm
theorem Zjg:FnScope ["self", "marks", "mark", "every", "at"] ["self", "marks", "mark", "every", "at"] (defScope Zh5):=fsm
theorem Zjh:FnScope ["self", "marks", "most"] ["self", "marks", "most"] (defScope Zh6):=fsm
theorem Zji:FnScope ["self", "marks", "rules"] ["self", "marks", "rules"] (defScope Qf):=fsm
theorem Zjj:FnScope ["self"] ["self"] (defScope Zh7):=fsm
theorem Zjk:FnScope ["script", "k"] ["script", "k"] (defScope Zh8):=fsm
theorem Zjl:FnScope ["cell", "some", "step"] ["cell"] (defScope Jb):=fsm
theorem Zjm:FnScope ["rule", "row", "last"] ["rule", "row"] (defScope Zh9):=fsm
theorem Zjn:FnScope ["marks", "rule", "row"] ["marks", "rule", "row"] (defScope Jc):=fsm
theorem Zjo:FnScope ["marks", "rule", "row", "others", "total"] ["marks", "rule", "row"] (defScope Zia):=fsm
theorem Zjp:FnScope ["marks", "kind", "one", "two", "three", "mark", "lowest", "size", "worths", "every"] ["marks", "kind", "one", "two", "three"] (defScope Jd):=fsm
theorem Zjq:FnScope ["marks", "rule"] ["marks", "rule"] (defScope Zib):=fsm
theorem Zjr:FnScope ["script", "marks", "rules", "k", "cells", "kind"] ["script", "marks"] (defScope Je):=fsm
theorem Zjs:FnScope ["marks", "rules", "row"] ["marks", "rules", "row"] (defScope Jf):=fsm
theorem Zjt:FnScope ["script", "marks", "rules", "row", "cell", "wish", "step", "other"] ["script", "marks", "rules"] (defScope Zic):=fsm
theorem Zju:FnScope ["singles", "states", "mark"] ["singles", "states", "mark"] (defScope Jg):=fsm
theorem Zjv:FnScope ["script", "marks", "rules", "row", "handed", "singles", "made", "kept", "found", "state", "states", "broken", "at", "lowest"] ["script"] (defScope Uh):=fsm
structure Adr where
 (a_QL a_Qa a_Q5 a_Qb a_QY a_QM a_QJ a_QR a_QE a_QP a_QI a_QC a_QU a_Q2 a_Q1 a_QK a_QX a_QB a_QO a_Q8 a_QQ a_Q4 a_QZ a_QN a_Q6 a_QA a_QD a_QT a_QF a_QW a_QH a_Q3 a_Q0 a_QS a_Q7 a_Q9 a_QG a_Qc c_Rule c_Gap c_Never c_Sum c_Turn c_Alike c_All:Addr)
 (d_QL d_Qa d_Q5 d_Qb d_QY d_QM d_QJ d_QR d_QE d_QP d_QI d_QC d_QU d_Q2 d_Q1 d_QK d_QX d_QB d_QO d_Q8 d_QQ d_Q4 d_QZ d_QN d_Q6 d_QA d_QD d_QT d_QF d_QW d_QH d_Q3 d_Q0 d_QS d_Q7 d_Q9 d_QG d_Qc:FuncData)
 (u_MARK_SIGNS:Value)
def Adr.c(t:Adr):String->Addr:=λc=>if c = "Rule" then t.c_Rule else if c = "Gap" then t.c_Gap else if c = "Never" then t.c_Never else if c = "Sum" then t.c_Sum else if c = "Turn" then t.c_Turn else if c = "Alike" then t.c_Alike else if c = "All" then t.c_All else 0
structure Txt(K:PySem.W.Frag)(mg:Str->Option Value)(t:Adr):Prop where
 p_QL:Dg K mg "marks_stand" Q7 t.a_QL t.d_QL ["marks"]
 p_Qa:Dg K mg "is_mark" ZhO t.a_Qa t.d_Qa ["marks", "text"]
 p_Q5:Dg K mg "is_whole" ZhP t.a_Q5 t.d_Q5 ["number", "low", "high"]
 p_Qb:Dg K mg "demand" ZhQ t.a_Qb t.d_Qb ["holds", "words"]
 p_QY:Df K "__init__" "Rule.__init__" ZhR t.a_QY t.d_QY ["self", "marks"]
 p_QM:Df K "begin" "Rule.begin" ZhS t.a_QM t.d_QM ["self"]
 p_QJ:Df K "behind" "Rule.behind" ZhT t.a_QJ t.d_QJ ["self", "state", "mark"]
 p_QR:Df K "behind" "Gap.behind" ZhU t.a_QR t.d_QR ["self", "state", "mark"]
 p_QE:Df K "behind" "Never.behind" ZhV t.a_QE t.d_QE ["self", "state", "mark"]
 p_QP:Df K "behind" "Sum.behind" ZhW t.a_QP t.d_QP ["self", "state", "mark"]
 p_QI:Df K "behind" "Turn.behind" ZhX t.a_QI t.d_QI ["self", "state", "mark"]
 p_QC:Df K "behind" "Alike.behind" ZhY t.a_QC t.d_QC ["self", "state", "mark"]
 p_QU:Df K "behind" "All.behind" ZhZ t.a_QU t.d_QU ["self", "state", "mark"]
 p_Q2:Df K "step" "Rule.step" Zh0 t.a_Q2 t.d_Q2 ["self", "state", "mark"]
 p_Q1:Df K "begin" "Gap.begin" Zh1 t.a_Q1 t.d_Q1 ["self"]
 p_QK:Df K "begin" "Alike.begin" Zh2 t.a_QK t.d_QK ["self"]
 p_QX:Df K "begin" "All.begin" Q8 t.a_QX t.d_QX ["self"]
 p_QB:Df K "broken_at" "Rule.broken_at" Zh3 t.a_QB t.d_QB ["self", "row"]
 p_QO:Df K "keeps" "Rule.keeps" Zh4 t.a_QO t.d_QO ["self", "row"]
 f_Q8:FunX K "__init__" "Gap.__init__" VR t.a_Q8 t.d_Q8
 b_Q8:Binds K t.d_Q8 ["self", "marks", "mark", "least", "most"] []
 b1_Gap_init:Binds K t.d_Q8 ["self", "marks", "mark", "least", "most"] [.none]
 k_Q8:keepIn K (.ref t.a_Q8)=true
 p_QQ:Df K "__init__" "Never.__init__" Q9 t.a_QQ t.d_QQ ["self", "marks", "word"]
 p_Q4:Df K "__init__" "Sum.__init__" Ja t.a_Q4 t.d_Q4 ["self", "marks", "worths", "low", "high"]
 p_QZ:Df K "__init__" "Turn.__init__" Zh5 t.a_QZ t.d_QZ ["self", "marks", "mark", "every", "at"]
 p_QN:Df K "__init__" "Alike.__init__" Zh6 t.a_QN t.d_QN ["self", "marks", "most"]
 p_Q6:Df K "__init__" "All.__init__" Qf t.a_Q6 t.d_Q6 ["self", "marks", "rules"]
 p_QA:Df K "rules_told" "All.rules_told" Zh7 t.a_QA t.d_QA ["self"]
 p_QD:Dg K mg "_law_cell_at" Zh8 t.a_QD t.d_QD ["script", "k"]
 p_QT:Dg K mg "_law_marks" Jb t.a_QT t.d_QT ["cell"]
 p_QF:Dg K mg "_law_others" Zh9 t.a_QF t.d_QF ["rule", "row"]
 p_QW:Dg K mg "_law_total" Jc t.a_QW t.d_QW ["marks", "rule", "row"]
 p_QH:Dg K mg "_law_breaks" Zia t.a_QH t.d_QH ["marks", "rule", "row"]
 p_Q3:Dg K mg "_law_rule" Jd t.a_Q3 t.d_Q3 ["marks", "kind", "one", "two", "three"]
 p_Q0:Dg K mg "_law_made" Zib t.a_Q0 t.d_Q0 ["marks", "rule"]
 p_QS:Dg K mg "_law_rules" Je t.a_QS t.d_QS ["script", "marks"]
 p_Q7:Dg K mg "_law_any" Jf t.a_Q7 t.d_Q7 ["marks", "rules", "row"]
 p_Q9:Dg K mg "_law_row" Zic t.a_Q9 t.d_Q9 ["script", "marks", "rules"]
 p_QG:Dg K mg "_law_behind" Jg t.a_QG t.d_QG ["singles", "states", "mark"]
 p_Qc:Dg K mg "law" Uh t.a_Qc t.d_Qc ["script"]
 n_ValueError:mg "ValueError" = none
 n_all:mg "all" = none
 n_any:mg "any" = none
 n_bool:mg "bool" = none
 n_enumerate:mg "enumerate" = none
 n_int:mg "int" = none
 n_isinstance:mg "isinstance" = none
 n_len:mg "len" = none
 n_list:mg "list" = none
 n_min:mg "min" = none
 n_range:mg "range" = none
 n_sum:mg "sum" = none
 n_tuple:mg "tuple" = none
 n_zip:mg "zip" = none
 g_MARK_SIGNS:mg "MARK_SIGNS" = some t.u_MARK_SIGNS
 r_MARK_SIGNS:RelV (S cs_MARK_SIGNS) t.u_MARK_SIGNS
 g_Rule:mg "Rule" = some (.ref t.c_Rule)
 cl_Rule:Cls K t.c_Rule
 ci_Rule:ClsI K t.c_Rule
 mk_Rule:Mk K t.c_Rule t.a_QY
 g_Gap:mg "Gap" = some (.ref t.c_Gap)
 cl_Gap:Cls K t.c_Gap
 ci_Gap:ClsI K t.c_Gap
 mk_Gap:Mk K t.c_Gap t.a_Q8
 g_Never:mg "Never" = some (.ref t.c_Never)
 cl_Never:Cls K t.c_Never
 ci_Never:ClsI K t.c_Never
 mk_Never:Mk K t.c_Never t.a_QQ
 g_Sum:mg "Sum" = some (.ref t.c_Sum)
 cl_Sum:Cls K t.c_Sum
 ci_Sum:ClsI K t.c_Sum
 mk_Sum:Mk K t.c_Sum t.a_Q4
 g_Turn:mg "Turn" = some (.ref t.c_Turn)
 cl_Turn:Cls K t.c_Turn
 ci_Turn:ClsI K t.c_Turn
 mk_Turn:Mk K t.c_Turn t.a_QZ
 g_Alike:mg "Alike" = some (.ref t.c_Alike)
 cl_Alike:Cls K t.c_Alike
 ci_Alike:ClsI K t.c_Alike
 mk_Alike:Mk K t.c_Alike t.a_QN
 g_All:mg "All" = some (.ref t.c_All)
 cl_All:Cls K t.c_All
 ci_All:ClsI K t.c_All
 mk_All:Mk K t.c_All t.a_Q6
 fl_at:Xs K ⟨t.c,K⟩ V8 "at"
 fl_every:Xs K ⟨t.c,K⟩ V9 "every"
 fl_high:Xs K ⟨t.c,K⟩ Ua "high"
 fl_least:Xs K ⟨t.c,K⟩ X2 "least"
 fl_low:Xs K ⟨t.c,K⟩ Ub "low"
 fl_mark:Xs K ⟨t.c,K⟩ Xw "mark"
 fl_marks:Xs K ⟨t.c,K⟩ fc_marks "marks"
 fl_most:Xs K ⟨t.c,K⟩ Xd "most"
 fl_rules:Xs K ⟨t.c,K⟩ U9 "rules"
 fl_word:Xs K ⟨t.c,K⟩ XO "word"
 fl_worths:Xs K ⟨t.c,K⟩ Uc "worths"
 me_Rule_begin:Meth K t.c_Rule (Str.ofString "begin") t.a_QM
 me_Gap_begin:Meth K t.c_Gap (Str.ofString "begin") t.a_Q1
 me_Never_begin:Meth K t.c_Never (Str.ofString "begin") t.a_QM
 me_Sum_begin:Meth K t.c_Sum (Str.ofString "begin") t.a_QM
 me_Turn_begin:Meth K t.c_Turn (Str.ofString "begin") t.a_QM
 me_Alike_begin:Meth K t.c_Alike (Str.ofString "begin") t.a_QK
 me_All_begin:Meth K t.c_All (Str.ofString "begin") t.a_QX
 me_Rule_behind:Meth K t.c_Rule (Str.ofString "behind") t.a_QJ
 me_Gap_behind:Meth K t.c_Gap (Str.ofString "behind") t.a_QR
 me_Never_behind:Meth K t.c_Never (Str.ofString "behind") t.a_QE
 me_Sum_behind:Meth K t.c_Sum (Str.ofString "behind") t.a_QP
 me_Turn_behind:Meth K t.c_Turn (Str.ofString "behind") t.a_QI
 me_Alike_behind:Meth K t.c_Alike (Str.ofString "behind") t.a_QC
 me_All_behind:Meth K t.c_All (Str.ofString "behind") t.a_QU
 me_Rule_broken_at:Meth K t.c_Rule (Str.ofString "broken_at") t.a_QB
 me_Gap_broken_at:Meth K t.c_Gap (Str.ofString "broken_at") t.a_QB
 me_Never_broken_at:Meth K t.c_Never (Str.ofString "broken_at") t.a_QB
 me_Sum_broken_at:Meth K t.c_Sum (Str.ofString "broken_at") t.a_QB
 me_Turn_broken_at:Meth K t.c_Turn (Str.ofString "broken_at") t.a_QB
 me_Alike_broken_at:Meth K t.c_Alike (Str.ofString "broken_at") t.a_QB
 me_All_broken_at:Meth K t.c_All (Str.ofString "broken_at") t.a_QB
 me_Rule_keeps:Meth K t.c_Rule (Str.ofString "keeps") t.a_QO
 me_Gap_keeps:Meth K t.c_Gap (Str.ofString "keeps") t.a_QO
 me_Never_keeps:Meth K t.c_Never (Str.ofString "keeps") t.a_QO
 me_Sum_keeps:Meth K t.c_Sum (Str.ofString "keeps") t.a_QO
 me_Turn_keeps:Meth K t.c_Turn (Str.ofString "keeps") t.a_QO
 me_Alike_keeps:Meth K t.c_Alike (Str.ofString "keeps") t.a_QO
 me_All_keeps:Meth K t.c_All (Str.ofString "keeps") t.a_QO
 me_All_rules_told:Meth K t.c_All (Str.ofString "rules_told") t.a_QA
 me_Rule_step:Meth K t.c_Rule (Str.ofString "step") t.a_Q2
 me_Gap_step:Meth K t.c_Gap (Str.ofString "step") t.a_Q2
 me_Never_step:Meth K t.c_Never (Str.ofString "step") t.a_Q2
 me_Sum_step:Meth K t.c_Sum (Str.ofString "step") t.a_Q2
 me_Turn_step:Meth K t.c_Turn (Str.ofString "step") t.a_Q2
 me_Alike_step:Meth K t.c_Alike (Str.ofString "step") t.a_Q2
 me_All_step:Meth K t.c_All (Str.ofString "step") t.a_Q2
 cm_Rule_init:CMeth K t.c_Rule "__init__" t.a_QY
 isi_All:IsiOk K ⟨t.c,K⟩ (.ref t.c_All) it_All
 isi_bool:IsiOk K ⟨t.c,K⟩ (.type "bool") J4
 isi_int:IsiOk K ⟨t.c,K⟩ (.type "int") J5
 isi_list:IsiOk K ⟨t.c,K⟩ (.type "list") Zdd
 isi_tuple:IsiOk K ⟨t.c,K⟩ (.type "tuple") UB
end K04
namespace K04
open PySem PySem.W L2 HT
def kP:Params->PySem.W.Frag:=λP=>
 (nat_lit 2,dO .none [] 0) ::
 (nat_lit 3,dO (.type "dict") [de P "__name__" 165 (.str "law_grooveway_k04_all_at_once" 610),de P "__doc__" 166 .none,de P "__package__" 167 .none,de P "__loader__" 168 (.builtin "__main__.__loader__#opaque"),de P "__spec__" 169 .none,de P "__annotations__" 170 (.ref 6),de P "__builtins__" 171 (.ref 4),de P "__file__" 173 (.str "/claim/cut.py" 172),de P "__cached__" 174 .none,de P "GrooveError" 206 (.ref 24),de P "BadMarks" 222 (.ref 37),de P "BadRule" 238 (.ref 49),de P "BadMark" 254 (.ref 61),de P "MARK_SIGNS" 258 (.str "abcdefghijklmnopqrstuvwxyz0123456789" 257),de P "marks_stand" 264 (.ref 68),de P "is_mark" 272 (.ref 75),de P "is_whole" 281 (.ref 82),de P "demand" 289 (.ref 89),de P "Rule" 362 (.ref 141),de P "Gap" 408 (.ref 177),de P "Never" 442 (.ref 201),de P "Sum" 477 (.ref 225),de P "Turn" 516 (.ref 251),de P "Alike" 560 (.ref 284),de P "All" 609 (.ref 320),de P "_law_cell_at" 619 (.ref 329),de P "_law_marks" 625 (.ref 334),de P "_law_others" 634 (.ref 341),de P "_law_total" 640 (.ref 346),de P "_law_breaks" 651 (.ref 353),de P "_law_rule" 657 (.ref 358),de P "_law_made" 665 (.ref 365),de P "_law_rules" 671 (.ref 370),de P "_law_any" 677 (.ref 375),de P "_law_row" 691 (.ref 382),de P "_law_behind" 697 (.ref 387),de P "law" 703 (.ref 392)] 37) ::
 (nat_lit 23,dO (.type "dict") [de P "__module__" 196 (.str "grooveway.errors" 187),de P "__firstlineno__" 200 (.int 2 199),de P "__static_attributes__" 201 (.ref 22),de P "__weakref__" 203 (.ref 25),de P "__doc__" 204 .none] 3) ::
 (nat_lit 24,⟨(.type "type"),none,.cls ⟨"GrooveError",[(.type "ValueError")],[(.ref 24),(.type "ValueError"),(.type "Exception"),(.type "BaseException"),(.type "object")],23, "GrooveError",true,[],[(.ref 37),(.ref 49),(.ref 61)],false,none,false⟩,#[some (.ref 15),none,some (.str "GrooveError" 189),some (.str "GrooveError" 197),some (.builtin "ValueError.__new__"),some (.bool true)]⟩) ::
 (nat_lit 25,⟨(.type "getset_descriptor"),none,.fields #[(.str "__weakref__" 202),(.ref 24),(.builtin "ExceptionGroup.__weakref__"),.none],#[]⟩) ::
 (nat_lit 36,x3 P "grooveway.errors" 187 214 218 4 217 219 35 220 2) ::
 (nat_lit 37,k3 "BadMarks" 37 24 36 28 207 215) ::
 (nat_lit 48,x3 P "grooveway.errors" 187 230 234 6 233 235 47 236 2) ::
 (nat_lit 49,k3 "BadRule" 49 24 48 40 223 231) ::
 (nat_lit 60,x3 P "grooveway.errors" 187 246 250 8 249 251 59 252 2) ::
 (nat_lit 61,k3 "BadMark" 61 24 60 52 239 247) ::
 (nat_lit 67,c3 "marks_stand" "marks_stand" 259 12 1 3 64 65 .none .none 66 262 263) ::
 (nat_lit 68,f3 "marks_stand" "marks_stand" Q7 "grooveway.rules" 255 67) ::
 (nat_lit 74,c3 "is_mark" "is_mark" 265 16 2 3 69 70 (.ref 71) (.ref 72) 73 270 271) ::
 (nat_lit 75,f3 "is_mark" "is_mark" ZhO "grooveway.rules" 255 74) ::
 (nat_lit 81,c3 "is_whole" "is_whole" 273 18 3 3 76 77 (.ref 78) (.ref 79) 80 279 280) ::
 (nat_lit 82,f3 "is_whole" "is_whole" ZhP "grooveway.rules" 255 81) ::
 (nat_lit 88,c3 "demand" "demand" 282 22 2 3 83 84 (.ref 85) (.ref 86) 87 287 288) ::
 (nat_lit 89,f3 "demand" "demand" ZhQ "grooveway.rules" 255 88) ::
 (nat_lit 102,c3 "__init__" "Rule.__init__" 302 27 2 3 97 98 (.ref 99) (.ref 100) 101 307 308) ::
 (nat_lit 103,f3 "__init__" "Rule.__init__" ZhR "grooveway.rules" 255 102) ::
 (nat_lit 109,c3 "begin" "Rule.begin" 310 32 1 3 104 105 (.ref 106) (.ref 107) 108 314 315) ::
 (nat_lit 110,f3 "begin" "Rule.begin" ZhS "grooveway.rules" 255 109) ::
 (nat_lit 116,c3 "step" "Rule.step" 317 35 3 3 111 112 (.ref 113) (.ref 114) 115 323 324) ::
 (nat_lit 117,f3 "step" "Rule.step" Zh0 "grooveway.rules" 255 116) ::
 (nat_lit 123,c3 "behind" "Rule.behind" 326 40 3 3 118 119 (.ref 120) (.ref 121) 122 332 333) ::
 (nat_lit 124,f3 "behind" "Rule.behind" ZhT "grooveway.rules" 255 123) ::
 (nat_lit 130,c3 "broken_at" "Rule.broken_at" 335 43 2 3 125 126 (.ref 127) (.ref 128) 129 343 344) ::
 (nat_lit 131,f3 "broken_at" "Rule.broken_at" Zh3 "grooveway.rules" 255 130) ::
 (nat_lit 137,c3 "keeps" "Rule.keeps" 346 51 2 3 132 133 (.ref 134) (.ref 135) 136 351 352) ::
 (nat_lit 138,f3 "keeps" "Rule.keeps" Zh4 "grooveway.rules" 255 137) ::
 (nat_lit 140,dO (.type "dict") [de P "__module__" 297 (.str "grooveway.rules" 255),de P "__firstlineno__" 301 (.int 25 300),de P "__init__" 309 (.ref 103),de P "begin" 316 (.ref 110),de P "step" 325 (.ref 117),de P "behind" 334 (.ref 124),de P "broken_at" 345 (.ref 131),de P "keeps" 353 (.ref 138),de P "__static_attributes__" 355 (.ref 139),de P "__dict__" 357 (.ref 142),de P "__weakref__" 359 (.ref 143),de P "__doc__" 360 .none] 4) ::
 (nat_lit 141,⟨(.type "type"),none,.cls ⟨"Rule",[(.type "object")],[(.ref 141),(.type "object")],140, "Rule",true,[],[(.ref 177),(.ref 201),(.ref 225),(.ref 251),(.ref 284),(.ref 320)],false,none,false⟩,#[none,none,some (.str "Rule" 290),some (.str "Rule" 298),some (.builtin "object.__new__"),some (.bool true)]⟩) ::
 (nat_lit 142,⟨(.type "getset_descriptor"),none,.fields #[(.str "__dict__" 356),(.ref 141),(.builtin "function.__dict__"),(.builtin "function.__dict__#set")],#[]⟩) ::
 (nat_lit 143,⟨(.type "getset_descriptor"),none,.fields #[(.str "__weakref__" 358),(.ref 141),(.builtin "ExceptionGroup.__weakref__"),.none],#[]⟩) ::
 (nat_lit 153,⟨(.type "tuple"),none,.seq #[.none] 0,#[]⟩) ::
 (nat_lit 159,c3 "__init__" "Gap.__init__" 375 55 5 3 154 155 (.ref 156) (.ref 157) 158 383 384) ::
 (nat_lit 160,fO "__init__" "Gap.__init__" VR (.ref 153) .none .none (.str "grooveway.rules" 255) none (.ref 159) .none) ::
 (nat_lit 166,c3 "begin" "Gap.begin" 386 64 1 3 161 162 (.ref 163) (.ref 164) 165 390 391) ::
 (nat_lit 167,f3 "begin" "Gap.begin" Zh1 "grooveway.rules" 255 166) ::
 (nat_lit 173,c3 "behind" "Gap.behind" 393 67 3 3 168 169 (.ref 170) (.ref 171) 172 399 400) ::
 (nat_lit 174,f3 "behind" "Gap.behind" ZhU "grooveway.rules" 255 173) ::
 (nat_lit 176,dO (.type "dict") [de P "__module__" 370 (.str "grooveway.rules" 255),de P "__firstlineno__" 374 (.int 53 373),de P "__init__" 385 (.ref 160),de P "begin" 392 (.ref 167),de P "behind" 401 (.ref 174),de P "__static_attributes__" 405 (.ref 175),de P "__doc__" 406 .none] 2) ::
 (nat_lit 177,⟨(.type "type"),none,.cls ⟨"Gap",[(.ref 141)],[(.ref 177),(.ref 141),(.type "object")],176, "Gap",true,[],[],false,none,false⟩,#[some (.ref 146),none,some (.str "Gap" 363),some (.str "Gap" 371),some (.builtin "object.__new__"),some (.bool true)]⟩) ::
 (nat_lit 190,c3 "__init__" "Never.__init__" 421 75 3 3 187 188 .none .none 189 424 425) ::
 (nat_lit 191,f3 "__init__" "Never.__init__" Q9 "grooveway.rules" 255 190) ::
 (nat_lit 197,c3 "behind" "Never.behind" 427 81 3 3 192 193 (.ref 194) (.ref 195) 196 435 436) ::
 (nat_lit 198,f3 "behind" "Never.behind" ZhV "grooveway.rules" 255 197) ::
 (nat_lit 200,dO (.type "dict") [de P "__module__" 416 (.str "grooveway.rules" 255),de P "__firstlineno__" 420 (.int 73 419),de P "__init__" 426 (.ref 191),de P "behind" 437 (.ref 198),de P "__static_attributes__" 439 (.ref 199),de P "__doc__" 440 .none] 2) ::
 (nat_lit 201,⟨(.type "type"),none,.cls ⟨"Never",[(.ref 141)],[(.ref 201),(.ref 141),(.type "object")],200, "Never",true,[],[],false,none,false⟩,#[some (.ref 180),none,some (.str "Never" 409),some (.str "Never" 417),some (.builtin "object.__new__"),some (.bool true)]⟩) ::
 (nat_lit 214,c3 "__init__" "Sum.__init__" 455 91 5 3 211 212 .none .none 213 458 459) ::
 (nat_lit 215,f3 "__init__" "Sum.__init__" Ja "grooveway.rules" 255 214) ::
 (nat_lit 221,c3 "behind" "Sum.behind" 461 101 3 3 216 217 (.ref 218) (.ref 219) 220 468 469) ::
 (nat_lit 222,f3 "behind" "Sum.behind" ZhW "grooveway.rules" 255 221) ::
 (nat_lit 224,dO (.type "dict") [de P "__module__" 450 (.str "grooveway.rules" 255),de P "__firstlineno__" 454 (.int 89 453),de P "__init__" 460 (.ref 215),de P "behind" 470 (.ref 222),de P "__static_attributes__" 474 (.ref 223),de P "__doc__" 475 .none] 2) ::
 (nat_lit 225,⟨(.type "type"),none,.cls ⟨"Sum",[(.ref 141)],[(.ref 225),(.ref 141),(.type "object")],224, "Sum",true,[],[],false,none,false⟩,#[some (.ref 204),none,some (.str "Sum" 443),some (.str "Sum" 451),some (.builtin "object.__new__"),some (.bool true)]⟩) ::
 (nat_lit 240,c3 "__init__" "Turn.__init__" 490 106 5 3 235 236 (.ref 237) (.ref 238) 239 498 499) ::
 (nat_lit 241,f3 "__init__" "Turn.__init__" Zh5 "grooveway.rules" 255 240) ::
 (nat_lit 247,c3 "behind" "Turn.behind" 501 115 3 3 242 243 (.ref 244) (.ref 245) 246 507 508) ::
 (nat_lit 248,f3 "behind" "Turn.behind" ZhX "grooveway.rules" 255 247) ::
 (nat_lit 250,dO (.type "dict") [de P "__module__" 485 (.str "grooveway.rules" 255),de P "__firstlineno__" 489 (.int 104 488),de P "__init__" 500 (.ref 241),de P "behind" 509 (.ref 248),de P "__static_attributes__" 513 (.ref 249),de P "__doc__" 514 .none] 2) ::
 (nat_lit 251,⟨(.type "type"),none,.cls ⟨"Turn",[(.ref 141)],[(.ref 251),(.ref 141),(.type "object")],250, "Turn",true,[],[],false,none,false⟩,#[some (.ref 228),none,some (.str "Turn" 478),some (.str "Turn" 486),some (.builtin "object.__new__"),some (.bool true)]⟩) ::
 (nat_lit 266,c3 "__init__" "Alike.__init__" 529 121 3 3 261 262 (.ref 263) (.ref 264) 265 535 536) ::
 (nat_lit 267,f3 "__init__" "Alike.__init__" Zh6 "grooveway.rules" 255 266) ::
 (nat_lit 273,c3 "begin" "Alike.begin" 538 126 1 3 268 269 (.ref 270) (.ref 271) 272 542 543) ::
 (nat_lit 274,f3 "begin" "Alike.begin" Zh2 "grooveway.rules" 255 273) ::
 (nat_lit 280,c3 "behind" "Alike.behind" 545 129 3 3 275 276 (.ref 277) (.ref 278) 279 553 554) ::
 (nat_lit 281,f3 "behind" "Alike.behind" ZhY "grooveway.rules" 255 280) ::
 (nat_lit 283,dO (.type "dict") [de P "__module__" 524 (.str "grooveway.rules" 255),de P "__firstlineno__" 528 (.int 119 527),de P "__init__" 537 (.ref 267),de P "begin" 544 (.ref 274),de P "behind" 555 (.ref 281),de P "__static_attributes__" 557 (.ref 282),de P "__doc__" 558 .none] 2) ::
 (nat_lit 284,⟨(.type "type"),none,.cls ⟨"Alike",[(.ref 141)],[(.ref 284),(.ref 141),(.type "object")],283, "Alike",true,[],[],false,none,false⟩,#[some (.ref 254),none,some (.str "Alike" 517),some (.str "Alike" 525),some (.builtin "object.__new__"),some (.bool true)]⟩) ::
 (nat_lit 297,c3 "__init__" "All.__init__" 573 135 3 3 294 295 .none .none 296 576 577) ::
 (nat_lit 298,f3 "__init__" "All.__init__" Qf "grooveway.rules" 255 297) ::
 (nat_lit 302,c3 "begin" "All.begin" 579 142 1 3 299 300 .none .none 301 582 583) ::
 (nat_lit 303,f3 "begin" "All.begin" Q8 "grooveway.rules" 255 302) ::
 (nat_lit 309,c3 "behind" "All.behind" 585 145 3 3 304 305 (.ref 306) (.ref 307) 308 595 596) ::
 (nat_lit 310,f3 "behind" "All.behind" ZhZ "grooveway.rules" 255 309) ::
 (nat_lit 316,c3 "rules_told" "All.rules_told" 598 154 1 3 311 312 (.ref 313) (.ref 314) 315 602 603) ::
 (nat_lit 317,f3 "rules_told" "All.rules_told" Zh7 "grooveway.rules" 255 316) ::
 (nat_lit 319,dO (.type "dict") [de P "__module__" 568 (.str "grooveway.rules" 255),de P "__firstlineno__" 572 (.int 133 571),de P "__init__" 578 (.ref 298),de P "begin" 584 (.ref 303),de P "behind" 597 (.ref 310),de P "rules_told" 604 (.ref 317),de P "__static_attributes__" 606 (.ref 318),de P "__doc__" 607 .none] 2) ::
 (nat_lit 320,⟨(.type "type"),none,.cls ⟨"All",[(.ref 141)],[(.ref 320),(.ref 141),(.type "object")],319, "All",true,[],[],false,none,false⟩,#[some (.ref 287),none,some (.str "All" 561),some (.str "All" 569),some (.builtin "object.__new__"),some (.bool true)]⟩) ::
 (nat_lit 328,c3 "_law_cell_at" "_law_cell_at" 612 157 2 3 323 324 (.ref 325) (.ref 326) 327 617 618) ::
 (nat_lit 329,f3 "_law_cell_at" "_law_cell_at" Zh8 "law_grooveway_k04_all_at_once" 610 328) ::
 (nat_lit 333,c3 "_law_marks" "_law_marks" 620 161 1 3 330 331 .none .none 332 623 624) ::
 (nat_lit 334,f3 "_law_marks" "_law_marks" Jb "law_grooveway_k04_all_at_once" 610 333) ::
 (nat_lit 340,c3 "_law_others" "_law_others" 626 165 2 3 335 336 (.ref 337) (.ref 338) 339 632 633) ::
 (nat_lit 341,f3 "_law_others" "_law_others" Zh9 "law_grooveway_k04_all_at_once" 610 340) ::
 (nat_lit 345,c3 "_law_total" "_law_total" 635 170 3 3 342 343 .none .none 344 638 639) ::
 (nat_lit 346,f3 "_law_total" "_law_total" Jc "law_grooveway_k04_all_at_once" 610 345) ::
 (nat_lit 352,c3 "_law_breaks" "_law_breaks" 641 172 3 3 347 348 (.ref 349) (.ref 350) 351 649 650) ::
 (nat_lit 353,f3 "_law_breaks" "_law_breaks" Zia "law_grooveway_k04_all_at_once" 610 352) ::
 (nat_lit 357,c3 "_law_rule" "_law_rule" 652 186 5 3 354 355 .none .none 356 655 656) ::
 (nat_lit 358,f3 "_law_rule" "_law_rule" Jd "law_grooveway_k04_all_at_once" 610 357) ::
 (nat_lit 364,c3 "_law_made" "_law_made" 658 203 2 3 359 360 (.ref 361) (.ref 362) 363 663 664) ::
 (nat_lit 365,f3 "_law_made" "_law_made" Zib "law_grooveway_k04_all_at_once" 610 364) ::
 (nat_lit 369,c3 "_law_rules" "_law_rules" 666 215 2 3 366 367 .none .none 368 669 670) ::
 (nat_lit 370,f3 "_law_rules" "_law_rules" Je "law_grooveway_k04_all_at_once" 610 369) ::
 (nat_lit 374,c3 "_law_any" "_law_any" 672 222 3 3 371 372 .none .none 373 675 676) ::
 (nat_lit 375,f3 "_law_any" "_law_any" Jf "law_grooveway_k04_all_at_once" 610 374) ::
 (nat_lit 381,c3 "_law_row" "_law_row" 678 224 3 3 376 377 (.ref 378) (.ref 379) 380 689 690) ::
 (nat_lit 382,f3 "_law_row" "_law_row" Zic "law_grooveway_k04_all_at_once" 610 381) ::
 (nat_lit 386,c3 "_law_behind" "_law_behind" 692 237 3 3 383 384 .none .none 385 695 696) ::
 (nat_lit 387,f3 "_law_behind" "_law_behind" Jg "law_grooveway_k04_all_at_once" 610 386) ::
 (nat_lit 391,c3 "law" "law" 698 239 1 3 388 389 .none .none 390 701 702) ::
 (nat_lit 392,f3 "law" "law" Uh "law_grooveway_k04_all_at_once" 610 391)::[]
set_option maxHeartbeats 0 in
theorem Zjw:met PySem.Challenge.pw_grooveway_k04_all_at_once=true:=by k_qdec
set_option maxHeartbeats 0 in
theorem Zjx:met kP=true:=by k_qdec
set_option maxHeartbeats 0 in
theorem left:LeftO PySem.Challenge.pw_grooveway_k04_all_at_once (view PySem.Challenge.pw_grooveway_k04_all_at_once [1,2,3,4,6,7,8,9,10,11,12,13,14,15,16,17,19,20,21,22,23,24,25,26,27,28,29,30]) ["Gap"] (λs=>xlAt (view PySem.Challenge.pw_grooveway_k04_all_at_once [1,2,3,4,6,7,8,9,10,11,12,13,14,15,16,17,19,20,21,22,23,24,25,26,27,28,29,30]) [] s&&recOk PySem.Challenge.rw_grooveway_k04_all_at_once.row.toRowW.records s) (λs=>([2,3,23,24,25,36,37,48,49,60,61,67,68,74,75,81,82,88,89,102,103,109,110,116,117,123,124,130,131,137,138,140,141,142,143,153,159,160,166,167,173,174,176,177,190,191,197,198,200,201,214,215,221,222,224,225,240,241,247,248,250,251,266,267,273,274,280,281,283,284,297,298,302,303,309,310,316,317,319,320,328,329,333,334,340,341,345,346,352,353,357,358,364,365,369,370,374,375,381,382,386,387,391,392]:List Addr).map s.heap.get?) (λw=>(kP w.params).map λp=>some p.2) 7138:=
 HT.left_of rfl rfl (λ_=>rfl) λw=>by
  have _:=Zjw;have _:=Zjx;rewrite [PySem.W.Fast.te13471049607760781711,PySem.W.Fast.te9507433621480766029,PySem.W.Fast.te5923862056798008813,PySem.W.Fast.te4187177175401517315,PySem.W.Fast.te6613529449190102663,PySem.W.Fast.te10156331382660048174,PySem.W.Fast.te11892475500146522536,PySem.W.Fast.te14364793385576792824]
  kernel_rfl
theorem kP_as:∀P,([2,3,23,24,25,36,37,48,49,60,61,67,68,74,75,81,82,88,89,102,103,109,110,116,117,123,124,130,131,137,138,140,141,142,143,153,159,160,166,167,173,174,176,177,190,191,197,198,200,201,214,215,221,222,224,225,240,241,247,248,250,251,266,267,273,274,280,281,283,284,297,298,302,303,309,310,316,317,319,320,328,329,333,334,340,341,345,346,352,353,357,358,364,365,369,370,374,375,381,382,386,387,391,392]:List Addr)=(kP P).map (·.1):=λ_=>by kernel_rfl
end K04
namespace K04
open PySem PySem.Spec PyProof.Rows L2 DL
theorem nd0:List.Nodup (["sign", "marks"]:List Str):=by decide +kernel
theorem nd1:List.Nodup (["self", "state", "mark", "end", "length"]:List Str):=by decide +kernel
theorem nd2:List.Nodup (["self", "state", "mark", "total"]:List Str):=by decide +kernel
theorem nd3:List.Nodup (["self", "state", "mark", "number", "many"]:List Str):=by decide +kernel
theorem nd4:List.Nodup (["self", "state", "mark", "states", "rule", "own", "after"]:List Str):=by decide +kernel
theorem nd5:List.Nodup (["rule"]:List Str):=by decide +kernel
theorem nd6:List.Nodup (["self", "row", "state", "place", "mark"]:List Str):=by decide +kernel
theorem nd7:List.Nodup (["worth"]:List Str):=by decide +kernel
theorem nd8:List.Nodup (["rule", "marks"]:List Str):=by decide +kernel
theorem nd9:List.Nodup (["cell", "some", "step"]:List Str):=by decide +kernel
theorem Zkq:List.Nodup (["k", "some", "cell", "step"]:List Str):=by decide +kernel
theorem Zkr:List.Nodup (["rule", "row", "last"]:List Str):=by decide +kernel
theorem Zks:List.Nodup (["mark", "rule", "marks"]:List Str):=by decide +kernel
theorem Zke:List.Nodup (["marks", "rule", "row", "others", "total"]:List Str):=by decide +kernel
theorem Jh:List.Nodup (["marks", "kind", "one", "two", "three", "mark", "lowest", "size", "worths", "every"]:List Str):=by decide +kernel
theorem Zkt:List.Nodup (["k", "marks", "one"]:List Str):=by decide +kernel
theorem Zid:List.Nodup (["script", "marks", "rules", "k", "cells", "kind"]:List Str):=by decide +kernel
theorem Zku:List.Nodup (["step", "script", "k"]:List Str):=by decide +kernel
theorem Zkv:List.Nodup (["rule", "marks", "row"]:List Str):=by decide +kernel
theorem UE:List.Nodup (["script", "marks", "rules", "row", "cell", "wish", "step", "other"]:List Str):=by decide +kernel
theorem Zkf:List.Nodup (["k", "single", "states", "mark"]:List Str):=by decide +kernel
theorem Xl:List.Nodup (["script", "marks", "rules", "row", "handed", "singles", "made", "kept", "found", "state", "states", "broken", "at", "lowest"]:List Str):=by decide +kernel
theorem Zkw:List.Nodup (["single"]:List Str):=by decide +kernel
theorem Zkx:List.Nodup (["single", "row"]:List Str):=by decide +kernel
section
variable{P:Program}{w:World}{K:PySem.W.Frag}{mg:Str->Option Value}{base:Heap}{t:Adr}
theorem Zjy(T:Txt K mg t):FnOk P w K mg base CX0 1 t.a_QL t.d_QL ["marks"] (spD ⟨t.c,K⟩ 1 QY):=by
 refine Yv (φ:=J6) T.p_QL.f ZiV (by conv=>lhs;whnf) (by conv=>lhs;whnf) (λcdv A outer s H E hr => ?_) rfl rfl;refine⟨_,(Zo (Yj (PW.pt (UG (Yr UL (Yk (YV (K:=K)) (by rfl) T.n_len boot_len (Zd (pv 0) Zi)) Zj (Yb _)) (UF (Yr Jt (Yk (YV (K:=K)) (by rfl) T.n_len boot_len (Zd (pv 0) Zi)) Zj (Yb _))))) (Zw (ZT Uj)) Yi)
 (Zw (ZT (Yk (JA (K:=K)) (by rfl) T.n_all boot_all (Zd (X8 (by rfl) (CompSd.mk1 (tn:=["sign"]) (cn:=["marks"]) (js:=[0]) (osc:=defScope Q7) (oN:=["marks"]) (by rfl) (by rfl) (by rfl) (by decide +kernel)) (XH (K:=K) (pv 0)) (λC s₂ H₂ fp=>YH (i:=0) nd0) (λC s₂ H₂ fp=>Xp) (λC s₂ H₂ fp=>(Qs (Xn (Zgg (K:=K)) (pv 0) (ZcX (by rfl) T.g_MARK_SIGNS T.r_MARK_SIGNS) (by rfl)) (Ul (Xn (YM (cA:=⟨t.c,K⟩) (hr.units)) (XI (K:=K) PySem.F.plainAttrs_str PySem.F.slot_str_count PySem.F.type_str_count Zem (pv 1) (Zd (pv 0) Zi)) Zj (Yb _)))))) Zi))))),[],?_⟩
 unfold J6;exact(Zs (Yn (QF (Ys (Zh XJ (Yt YW (Ze (Zc 0) Zl)) (Zg (d:=(.int 2)) (by rfl) (by rfl)))) (Ys (Zh XJ (Yt YW (Ze (Zc 0) Zl)) (Zg (d:=(.int 4)) (by rfl) (by rfl))))) (Z8 (Zg (d:=(.bl false)) (by rfl) (by rfl))) Ym)
 (Z8 (Yt US (Ze (VF.cl (Xi (by rfl) (XN (Zc 0)) (Y4 0) Xq (JG (Zh Zgi (Zc 0) (Zg (d:=.str cs_MARK_SIGNS) (by rfl) (by rfl))) (Zh YN (Vk Zeo (Zc 1) (Ze (Zc 0) Zl)) (Zg (d:=(.int 1)) (by rfl) (by rfl)))))) Zl))))
theorem Ji(T:Txt K mg t):FnOk P w K mg base CX0 1 t.a_Qa t.d_Qa ["marks", "text"] (spD ⟨t.c,K⟩ 2 VM):=by
 refine Yv (φ:=J7) T.p_Qa.f ZiW (by conv=>lhs;whnf) (by conv=>lhs;whnf) (λcdv A outer s H E hr => ?_) rfl rfl;refine⟨_,(Zw (ZT (Qs (Xn (YM (cA:=⟨t.c,K⟩) (hr.units)) (Yk (YV (K:=K)) (by rfl) T.n_len boot_len (Zd (pv 1) Zi)) Zj (Yb _)) (Ul (Xn (Zgg (K:=K)) (pv 1) (pv 0) (by rfl)))))),[],?_⟩;unfold J7;exact(Z8 (JG (Zh YN (Yt YW (Ze (Zc 1) Zl)) (Zg (d:=(.int 1)) (by rfl) (by rfl))) (Zh Zgi (Zc 1) (Zc 0))))
theorem ZdW(T:Txt K mg t):FnOk P w K mg base CX0 1 t.a_Q5 t.d_Q5 ["number", "low", "high"] (spD ⟨t.c,K⟩ 3 X3):=by
 refine Yv (φ:=J8) T.p_Q5.f ZiX (by conv=>lhs;whnf) (by conv=>lhs;whnf) (λcdv A outer s H E hr => ?_) rfl rfl;refine⟨_,(Zo (Yj (PW.pt (UG (XS (Yk (UX (K:=K)) (by rfl) T.n_isinstance boot_isinstance (Zd (pv 0) (Zd (Qq (v:=.ty "bool") (by rfl) T.n_bool boot_bool rfl) Zi)))) (UF (Vb (XS (Yk (UX (K:=K)) (by rfl) T.n_isinstance boot_isinstance (Zd (pv 0) (Zd (Qq (v:=.ty "int") (by rfl) T.n_int boot_int rfl) Zi)))))))) (Zw (ZT Uj)) Yi)
 (Zw (ZT (Zb5 VW VW (pv 1) (pv 0) (pv 2))))),[],?_⟩
 unfold J8;exact(Zs (Yn (QF (Y3 (QM (λ_ h=>h) T.isi_bool (Zc 0))) (Vz (Y3 (QM (λ_ h=>h) T.isi_int (Zc 0))))) (Z8 (Zg (d:=(.bl false)) (by rfl) (by rfl))) Ym)
 (Z8 (ZaX (Zc 1) (Zc 0) (Zc 2))))
theorem Qg(T:Txt K mg t):FnOk P w K mg base CX0 1 t.a_Qb t.d_Qb ["holds", "words"] (spD ⟨t.c,K⟩ 2 Y1):=by
 refine Yv (φ:=J9) T.p_Qb.f ZiY (by conv=>lhs;whnf) (by conv=>lhs;whnf) (λcdv A outer s H E hr => ?_) rfl rfl;refine⟨_,(Zw (Yj (Vb (XS (pv 0))) (Zw Jp) Yi)),[],?_⟩;unfold J9;exact(Yn (Vz (Y3 (Zc 0))) JL Ym)
theorem Qh(T:Txt K mg t):FnOk P w K mg base CX0 2 t.a_QY t.d_QY ["self", "marks"] (spI ⟨t.c,K⟩ 2 Vm):=by
 have G_QL:=(Zjy (P:=P) (w:=w) (base:=base) T).mono (k:=1) (by decide);refine U2 (φ:=Zhq) T.p_QY.f ZiZ (by conv=>lhs;whnf) (by conv=>lhs;whnf) (λcdv A outer s H E self hr => ?_) rfl rfl;refine⟨_,(Zo (Yj (Vb (XS (Yc (G_QL) hr (by rfl) T.p_QL.g T.p_QL.k T.p_QL.b .nil ZR (Zd (pv 1) Zi)))) (Zw Jp) Yi)
 (Zw (XF (pv 0) (pv 1) (by rfl)))),?_⟩
 unfold Zhq;exact(Zs (Yn (Vz (Y3 (Yd [] (by rfl) (Ze (Zc 1) Zl)))) JL Ym)
 (XY 0 (by rfl) T.fl_marks (Zc 1)))
theorem Zfq(T:Txt K mg t):FnOk P w K mg base CX0 1 t.a_QM t.d_QM ["self"] (spD ⟨t.c,K⟩ 1 Xx):=by
 refine Yv (φ:=Qa) T.p_QM.f Zi0 (by conv=>lhs;whnf) (by conv=>lhs;whnf) (λcdv A outer s H E hr => ?_) rfl rfl;refine⟨_,(Zw (ZT Zj)),[],?_⟩;unfold Qa;exact(Z8 (Zg (d:=(.int 0)) (by rfl) (by rfl)))
theorem Zgr(T:Txt K mg t):FnOk P w K mg base CX0 1 t.a_QJ t.d_QJ ["self", "state", "mark"] (spD ⟨t.c,K⟩ 3 Ziw):=by
 refine Yv (φ:=Ziv) T.p_QJ.f Zi1 (by conv=>lhs;whnf) (by conv=>lhs;whnf) (λcdv A outer s H E hr => ?_) rfl rfl;refine⟨_,(Zw (ZT Zj)),[],?_⟩;unfold Ziv;exact(Z8 (Zg (d:=(.int 0)) (by rfl) (by rfl)))
theorem Zgs(T:Txt K mg t):FnOk P w K mg base CX0 1 t.a_QR t.d_QR ["self", "state", "mark"] (spD ⟨t.c,K⟩ 3 Ud):=by
 refine Yv (φ:=Qb) T.p_QR.f Zi2 (by conv=>lhs;whnf) (by conv=>lhs;whnf) (λcdv A outer s H E hr => ?_) rfl rfl;refine⟨_,(Zo (Yj (Yr (YM (cA:=⟨t.c,K⟩) (hr.units)) (pv 2) (YK (K:=K) (pv 0)) (Yb _)) (Zw (ZT (Qt (Yr ZiK (pv 1) (YK (K:=K) (pv 0)) (Yb _)) Zj X4))) Yi)
 (Zo (Yj (VV (Vu (YK (K:=K) (pv 0)))) (Zw (ZT (Yk (Zba (by rfl)) (by rfl) T.n_min boot_min (Zd (ZB YT (pv 1) Zj) (Zd (YK (K:=K) (pv 0)) Zi))))) Yi)
 (Zw (ZT (Qt (Yr UL (pv 1) (YK (K:=K) (pv 0)) (Yb _)) (ZB YT (pv 1) Zj) X4))))),[],?_⟩
 unfold Qb;exact(Zs (Yn (Ys (Zh YN (Zc 2) (YQ T.fl_mark (Zc 0)))) (Z8 (QG (Ys (Zh XJ (Zc 1) (YQ T.fl_least (Zc 0)))) (Zg (d:=(.int 0)) (by rfl) (by rfl)) (Zg (d:=.non) (by rfl) (by rfl)))) Ym)
 (Zs (Yn (Y3 (VB (YQ T.fl_most (Zc 0)))) (Z8 (Yt ZeX (Ze (Zh YU (Zc 1) (Zg (d:=(.int 1)) (by rfl) (by rfl))) (Ze (YQ T.fl_least (Zc 0)) Zl)))) Ym)
 (Z8 (QG (Ys (Zh XJ (Zc 1) (YQ T.fl_most (Zc 0)))) (Zh YU (Zc 1) (Zg (d:=(.int 1)) (by rfl) (by rfl))) (Zg (d:=.non) (by rfl) (by rfl))))))
theorem Zgt(T:Txt K mg t):FnOk P w K mg base CX0 1 t.a_QE t.d_QE ["self", "state", "mark"] (spD ⟨t.c,K⟩ 3 UC):=by
 refine Yv (φ:=Zhr) T.p_QE.f Zi3 (by conv=>lhs;whnf) (by conv=>lhs;whnf) (λcdv A outer s H E hr => ?_) rfl rfl;refine⟨_,(Zo (Yh (i:=3) nd1 (by rfl) (by first|exact Or.inl rfl|exact Or.inr rfl) (ZB YT (Qy (QD (K:=K)) (YK (K:=K) (pv 0)) Qw (Qx (pv 1))) (pv 2)))
 (Zo (Yj (Yr (YM (cA:=⟨t.c,K⟩) (hr.units)) (pv 3) (YK (K:=K) (pv 0)) (Yb _)) (Zw (ZT X4)) Yi)
 (Zo (Yh (i:=4) nd1 (by rfl) (by first|exact Or.inl rfl|exact Or.inr rfl) (Yk (YV (K:=K)) (by rfl) T.n_len boot_len (Zd (pv 3) Zi)))
 (Zo ((ZdZ PassesOwn.never (Vb (XS (XI (K:=K) PySem.F.plainAttrs_str PySem.F.slot_str_endswith PySem.F.type_str_endswith Zah (pv 3) (Zd (Qy (QD (K:=K)) (YK (K:=K) (pv 0)) Qw (Qx (pv 4))) Zi)))) (Zw (Yh (i:=4) nd1 (by rfl) (by first|exact Or.inl rfl|exact Or.inr rfl) (ZB Vv (pv 4) Zj)))))
 (Zw (ZT (pv 4))))))),[],?_⟩
 unfold Zhr;exact(Zs (show VS _ _ [] _ _ _ _ from(Yl 3 (Zh YU (QK (Or.inl rfl) (YQ T.fl_word (Zc 0)) QI (QJ (Zc 1))) (Zc 2))))
 (Zs (Yn (Ys (Zh YN (Zc 3) (YQ T.fl_word (Zc 0)))) (Z8 (Zg (d:=.non) (by rfl) (by rfl))) Ym)
 (Zs (show VS _ _ [] _ _ _ _ from(Yl 4 (Yt YW (Ze (Zc 3) Zl))))
 (Zs (Zeh (ow:=[]) (Vz (Y3 (Vk ZbI (Zc 3) (Ze (QK (Or.inl rfl) (YQ T.fl_word (Zc 0)) QI (QJ (Zc 4))) Zl)))) (show VS _ _ [] _ _ _ _ from(Yl 4 (Zh Vy (Zc 4) (Zg (d:=(.int 1)) (by rfl) (by rfl))))))
 (Z8 (Zc 4))))))
theorem Zgu(T:Txt K mg t):FnOk P w K mg base CX0 1 t.a_QP t.d_QP ["self", "state", "mark"] (spD ⟨t.c,K⟩ 3 Ue):=by
 refine Yv (φ:=Qc) T.p_QP.f Zi4 (by conv=>lhs;whnf) (by conv=>lhs;whnf) (λcdv A outer s H E hr => ?_) rfl rfl;refine⟨_,(Zo (Yh (i:=3) nd2 (by rfl) (by first|exact Or.inl rfl|exact Or.inr rfl) (ZB YT (pv 1) (Z0 (Z1 (K:=K)) (YK (K:=K) (pv 0)) (XI (K:=K) PySem.F.plainAttrs_str PySem.F.slot_str_index PySem.F.type_str_index Za0 (YK (K:=K) (pv 0)) (Zd (pv 2) Zi)) (λ_ _=>rfl))))
 (Zw (ZT (Qt (Zd1 VW VW (YK (K:=K) (pv 0)) (pv 3) (YK (K:=K) (pv 0))) (pv 3) X4)))),[],?_⟩
 unfold Qc;exact(Zs (show VS _ _ [] _ _ _ _ from(Yl 3 (Zh YU (Zc 1) (Zh Z2 (YQ T.fl_worths (Zc 0)) (Vk Za1 (YQ T.fl_marks (Zc 0)) (Ze (Zc 2) Zl))))))
 (Z8 (QG (Ys (ZaX (YQ T.fl_low (Zc 0)) (Zc 3) (YQ T.fl_high (Zc 0)))) (Zc 3) (Zg (d:=.non) (by rfl) (by rfl)))))
theorem Zgv(T:Txt K mg t):FnOk P w K mg base CX0 1 t.a_QI t.d_QI ["self", "state", "mark"] (spD ⟨t.c,K⟩ 3 Uf):=by
 refine Yv (φ:=Qd) T.p_QI.f Zi5 (by conv=>lhs;whnf) (by conv=>lhs;whnf) (λcdv A outer s H E hr => ?_) rfl rfl;refine⟨_,(Zo (Yj (PW.pt (Jn (Yr (YM (cA:=⟨t.c,K⟩) (hr.units)) (pv 2) (YK (K:=K) (pv 0)) (Yb _)) (Jm (Yr (UP (cA:=⟨t.c,K⟩) (hr.units)) (pv 1) (YK (K:=K) (pv 0)) (Yb _))))) (Zw (ZT X4)) Yi)
 (Zw (ZT (ZB Yw (ZB YT (pv 1) Zj) (YK (K:=K) (pv 0)))))),[],?_⟩
 unfold Qd;exact(Zs (Yn (JF (Ys (Zh YN (Zc 2) (YQ T.fl_mark (Zc 0)))) (Ys (Zh UQ (Zc 1) (YQ T.fl_at (Zc 0))))) (Z8 (Zg (d:=.non) (by rfl) (by rfl))) Ym)
 (Z8 (Zh Yx (Zh YU (Zc 1) (Zg (d:=(.int 1)) (by rfl) (by rfl))) (YQ T.fl_every (Zc 0)))))
theorem Zgw(T:Txt K mg t):FnOk P w K mg base CX0 1 t.a_QC t.d_QC ["self", "state", "mark"] (spD ⟨t.c,K⟩ 3 Vn):=by
 refine Yv (φ:=UD) T.p_QC.f Zi6 (by conv=>lhs;whnf) (by conv=>lhs;whnf) (λcdv A outer s H E hr => ?_) rfl rfl;refine⟨_,(Zo (Yh (i:=3) nd3 (by rfl) (by first|exact Or.inl rfl|exact Or.inr rfl) (XI (K:=K) PySem.F.plainAttrs_str PySem.F.slot_str_index PySem.F.type_str_index Za0 (YK (K:=K) (pv 0)) (Zd (pv 2) Zi)))
 (Zo (Yh (i:=4) nd3 (by rfl) (by first|exact Or.inl rfl|exact Or.inr rfl) (Qt (Yr (YM (cA:=⟨t.c,K⟩) (hr.units)) (pv 3) (Z0 (Z1 (K:=K)) (pv 1) Zj (λ_ _=>rfl)) (Yb _)) (ZB YT (Z0 (Z1 (K:=K)) (pv 1) Zj (λ_ _=>rfl)) Zj) Zj))
 (Zw (ZT (Qt (Yr VW (pv 4) (YK (K:=K) (pv 0)) (Yb _)) (VY (Zd (pv 3) (Zd (pv 4) Zi))) X4))))),[],?_⟩
 unfold UD;exact(Zs (show VS _ _ [] _ _ _ _ from(Yl 3 (Vk Za1 (YQ T.fl_marks (Zc 0)) (Ze (Zc 2) Zl))))
 (Zs (show VS _ _ [] _ _ _ _ from(Yl 4 (QG (Ys (Zh YN (Zc 3) (Zh Z2 (Zc 1) (Zg (d:=(.int 0)) (by rfl) (by rfl))))) (Zh YU (Zh Z2 (Zc 1) (Zg (d:=(.int 1)) (by rfl) (by rfl))) (Zg (d:=(.int 1)) (by rfl) (by rfl))) (Zg (d:=(.int 1)) (by rfl) (by rfl)))))
 (Z8 (QG (Ys (Zh XJ (Zc 4) (YQ T.fl_most (Zc 0)))) (V0 (Ze (Zc 3) (Ze (Zc 4) Zl))) (Zg (d:=.non) (by rfl) (by rfl))))))
theorem Zjz(T:Txt K mg t):FnOk P w K mg base CX0 2 t.a_Q2 t.d_Q2 ["self", "state", "mark"] (spD ⟨t.c,K⟩ 3 VN):=by
 have G_QJ:=(Zgr (P:=P) (w:=w) (base:=base) T).mono (k:=1) (by decide);have G_QR:=(Zgs (P:=P) (w:=w) (base:=base) T).mono (k:=1) (by decide);have G_QE:=(Zgt (P:=P) (w:=w) (base:=base) T).mono (k:=1) (by decide);have G_QP:=(Zgu (P:=P) (w:=w) (base:=base) T).mono (k:=1) (by decide);have G_QI:=(Zgv (P:=P) (w:=w) (base:=base) T).mono (k:=1) (by decide)
 have G_QC:=(Zgw (P:=P) (w:=w) (base:=base) T).mono (k:=1) (by decide);have G_Qa:=(Ji (P:=P) (w:=w) (base:=base) T).mono (k:=1) (by decide);refine Yv (φ:=Zix) T.p_Q2.f Zgq (by conv=>lhs;whnf) (by conv=>lhs;whnf) (λcdv A outer s H E hr => ?_) rfl rfl;refine⟨_,(Zo (Yj (Vb (XS (Yc (G_Qa) hr (by rfl) T.p_Qa.g T.p_Qa.k T.p_Qa.b .nil ZR (Zd (YK (K:=K) (pv 0)) (Zd (pv 2) Zi))))) (Zw Jp) Yi)
 (Zw (ZT (X7 (cA:=⟨t.c,K⟩) (tab:=tab_behind0) (m:="behind") ⟨⟨t.a_QJ,t.d_QJ,["self", "state", "mark"],T.cl_Rule,T.me_Rule_behind,G_QJ,T.p_QJ.b⟩,⟨⟨t.a_QR,t.d_QR,["self", "state", "mark"],T.cl_Gap,T.me_Gap_behind,G_QR,T.p_QR.b⟩,⟨⟨t.a_QE,t.d_QE,["self", "state", "mark"],T.cl_Never,T.me_Never_behind,G_QE,T.p_QE.b⟩,⟨⟨t.a_QP,t.d_QP,["self", "state", "mark"],T.cl_Sum,T.me_Sum_behind,G_QP,T.p_QP.b⟩,⟨⟨t.a_QI,t.d_QI,["self", "state", "mark"],T.cl_Turn,T.me_Turn_behind,G_QI,T.p_QI.b⟩,⟨⟨t.a_QC,t.d_QC,["self", "state", "mark"],T.cl_Alike,T.me_Alike_behind,G_QC,T.p_QC.b⟩,trivial⟩⟩⟩⟩⟩⟩ hr (pv 0) (Zd (pv 1) (Zd (pv 2) Zi)))))),[],?_⟩
 unfold Zix;exact(Zs (Yn (Vz (Y3 (Yd [] (by rfl) (Ze (YQ T.fl_marks (Zc 0)) (Ze (Zc 2) Zl))))) JL Ym)
 (Z8 (Xu (Zc 0) (Ze (Zc 1) (Ze (Zc 2) Zl)))))
theorem ZjA(T:Txt K mg t):FnOk P w K mg base CX0 3 t.a_QU t.d_QU ["self", "state", "mark"] (spD ⟨t.c,K⟩ 3 Ziy):=by
 have G_QV:=(Zjz (P:=P) (w:=w) (base:=base) T).mono (k:=2) (by decide);refine Yv (φ:=Zhs) T.p_QU.f Zi7 (by conv=>lhs;whnf) (by conv=>lhs;whnf) (λcdv A outer s H E hr => ?_) rfl rfl;refine⟨_,(Zo (Yh (i:=3) nd4 (by rfl) (by first|exact Or.inl rfl|exact Or.inr rfl) (Uq Zi))
 (Zo ((UK PassesOwn.never (by rfl) (ZfN (K:=K) (by rfl) T.n_zip (YK (K:=K) (pv 0)) (pv 1)) (Zfk (K:=K) (n:=2) (UI (YH (i:=4) nd4) (UI (YH (i:=5) nd4) ZbB))) (Zo (Yh (i:=6) nd4 (by rfl) (by first|exact Or.inl rfl|exact Or.inr rfl) (X7 (cA:=⟨t.c,K⟩) (tab:=tab_step0) (m:="step") ⟨⟨t.a_Q2,t.d_Q2,["self", "state", "mark"],T.cl_Rule,T.me_Rule_step,G_QV,T.p_Q2.b⟩,⟨⟨t.a_Q2,t.d_Q2,["self", "state", "mark"],T.cl_Gap,T.me_Gap_step,G_QV,T.p_Q2.b⟩,⟨⟨t.a_Q2,t.d_Q2,["self", "state", "mark"],T.cl_Never,T.me_Never_step,G_QV,T.p_Q2.b⟩,⟨⟨t.a_Q2,t.d_Q2,["self", "state", "mark"],T.cl_Sum,T.me_Sum_step,G_QV,T.p_Q2.b⟩,⟨⟨t.a_Q2,t.d_Q2,["self", "state", "mark"],T.cl_Turn,T.me_Turn_step,G_QV,T.p_Q2.b⟩,⟨⟨t.a_Q2,t.d_Q2,["self", "state", "mark"],T.cl_Alike,T.me_Alike_step,G_QV,T.p_Q2.b⟩,trivial⟩⟩⟩⟩⟩⟩ hr (pv 4) (Zd (pv 5) (Zd (pv 2) Zi))))
 (Zo (Yj (VV (Vu (pv 6))) (Zw (ZT X4)) Yi)
 (Zw (YE (XI (K:=K) PySem.F.plainAttrs_list PySem.F.slot_list_append PySem.F.type_list_append Zau (pv 3) (Zd (pv 6) Zi))))))))
 (Zw (ZT (Vg (QE (K:=K)) (by rfl) T.n_tuple boot_tuple (Zd (pv 3) Zi)))))),[],?_⟩
 unfold Zhs;exact(Zs (show VS _ _ [3] _ _ _ _ from(ZbG 3 (Uv Zl)))
 (Zs (UU (ZfO (YQ T.fl_rules (Zc 0)) (Zc 1)) (ZcN (UT 4 (by rfl) (by rfl) (UT 5 (by rfl) (by rfl) ZbH))) (Zs (show VS _ _ [3] _ _ _ _ from(Yl 6 (Xu (Zc 4) (Ze (Zc 5) (Ze (Zc 2) Zl)))))
 (Zs (Yn (Y3 (VB (Zc 6))) (Z8 (Zg (d:=.non) (by rfl) (by rfl))) Ym)
 (ZeY 3 (by rfl) (Zc 6)))))
 (VS.frz (ow1:=[]) 3 (Z8 (JJ (Ze (Zc 3) Zl))))))
theorem Zfr(T:Txt K mg t):FnOk P w K mg base CX0 4 t.a_Q2 t.d_Q2 ["self", "state", "mark"] (spD ⟨t.c,K⟩ 3 Vo):=by
 have G_QJ:=(Zgr (P:=P) (w:=w) (base:=base) T).mono (k:=3) (by decide);have G_QR:=(Zgs (P:=P) (w:=w) (base:=base) T).mono (k:=3) (by decide);have G_QE:=(Zgt (P:=P) (w:=w) (base:=base) T).mono (k:=3) (by decide);have G_QP:=(Zgu (P:=P) (w:=w) (base:=base) T).mono (k:=3) (by decide);have G_QI:=(Zgv (P:=P) (w:=w) (base:=base) T).mono (k:=3) (by decide)
 have G_QC:=(Zgw (P:=P) (w:=w) (base:=base) T).mono (k:=3) (by decide);have G_QU:=(ZjA (P:=P) (w:=w) (base:=base) T).mono (k:=3) (by decide);have G_Qa:=(Ji (P:=P) (w:=w) (base:=base) T).mono (k:=3) (by decide);refine Yv (φ:=Ziz) T.p_Q2.f Zgq (by conv=>lhs;whnf) (by conv=>lhs;whnf) (λcdv A outer s H E hr => ?_) rfl rfl;refine⟨_,(Zo (Yj (Vb (XS (Yc (G_Qa) hr (by rfl) T.p_Qa.g T.p_Qa.k T.p_Qa.b .nil ZR (Zd (YK (K:=K) (pv 0)) (Zd (pv 2) Zi))))) (Zw Jp) Yi)
 (Zw (ZT (X7 (cA:=⟨t.c,K⟩) (tab:=tab_behind) (m:="behind") ⟨⟨t.a_QJ,t.d_QJ,["self", "state", "mark"],T.cl_Rule,T.me_Rule_behind,G_QJ,T.p_QJ.b⟩,⟨⟨t.a_QR,t.d_QR,["self", "state", "mark"],T.cl_Gap,T.me_Gap_behind,G_QR,T.p_QR.b⟩,⟨⟨t.a_QE,t.d_QE,["self", "state", "mark"],T.cl_Never,T.me_Never_behind,G_QE,T.p_QE.b⟩,⟨⟨t.a_QP,t.d_QP,["self", "state", "mark"],T.cl_Sum,T.me_Sum_behind,G_QP,T.p_QP.b⟩,⟨⟨t.a_QI,t.d_QI,["self", "state", "mark"],T.cl_Turn,T.me_Turn_behind,G_QI,T.p_QI.b⟩,⟨⟨t.a_QC,t.d_QC,["self", "state", "mark"],T.cl_Alike,T.me_Alike_behind,G_QC,T.p_QC.b⟩,⟨⟨t.a_QU,t.d_QU,["self", "state", "mark"],T.cl_All,T.me_All_behind,G_QU,T.p_QU.b⟩,trivial⟩⟩⟩⟩⟩⟩⟩ hr (pv 0) (Zd (pv 1) (Zd (pv 2) Zi)))))),[],?_⟩
 unfold Ziz;exact(Zs (Yn (Vz (Y3 (Yd [] (by rfl) (Ze (YQ T.fl_marks (Zc 0)) (Ze (Zc 2) Zl))))) JL Ym)
 (Z8 (Xu (Zc 0) (Ze (Zc 1) (Ze (Zc 2) Zl)))))
theorem Zfs(T:Txt K mg t):FnOk P w K mg base CX0 1 t.a_Q1 t.d_Q1 ["self"] (spD ⟨t.c,K⟩ 1 QZ):=by
 refine Yv (φ:=Zht) T.p_Q1.f Zi8 (by conv=>lhs;whnf) (by conv=>lhs;whnf) (λcdv A outer s H E hr => ?_) rfl rfl;refine⟨_,(Zw (ZT (YK (K:=K) (pv 0)))),[],?_⟩;unfold Zht;exact(Z8 (YQ T.fl_least (Zc 0)))
theorem Zft(T:Txt K mg t):FnOk P w K mg base CX0 1 t.a_QK t.d_QK ["self"] (spD ⟨t.c,K⟩ 1 Q0):=by
 refine Yv (φ:=Zhu) T.p_QK.f Zi9 (by conv=>lhs;whnf) (by conv=>lhs;whnf) (λcdv A outer s H E hr => ?_) rfl rfl;refine⟨_,(Zw (ZT (VY (Zd Zj (Zd Zj Zi))))),[],?_⟩;unfold Zhu;exact(Z8 (V0 (Ze (Zg (d:=(.int 0)) (by rfl) (by rfl)) (Ze (Zg (d:=(.int 0)) (by rfl) (by rfl)) Zl))))
theorem Zgx(T:Txt K mg t):FnOk P w K mg base CX0 2 t.a_QX t.d_QX ["self"] (spD ⟨t.c,K⟩ 1 ZiB):=by
 have G_QM:=(Zfq (P:=P) (w:=w) (base:=base) T).mono (k:=1) (by decide);have G_Q1:=(Zfs (P:=P) (w:=w) (base:=base) T).mono (k:=1) (by decide);have G_QK:=(Zft (P:=P) (w:=w) (base:=base) T).mono (k:=1) (by decide);refine Yv (φ:=ZiA) T.p_QX.f Zja (by conv=>lhs;whnf) (by conv=>lhs;whnf) (λcdv A outer s H E hr => ?_) rfl rfl;refine⟨_,(Zw (ZT (Vg (QE (K:=K)) (by rfl) T.n_tuple boot_tuple (Zd (X8 (by rfl) (CompSd.mk1 (tn:=["rule"]) (cn:=[]) (js:=[]) (osc:=defScope Q8) (oN:=["self"]) (by rfl) (by rfl) (by rfl) (by decide +kernel)) (XH (K:=K) (YK (K:=K) (pv 0))) (λC s₂ H₂ fp=>YH (i:=0) nd5) (λC s₂ H₂ fp=>Xp) (λC s₂ H₂ fp=>(JQ (cA:=⟨t.c,K⟩) (tab:=tab_begin0) (m:="begin") ⟨⟨t.a_QM,t.d_QM,["self"],T.cl_Rule,T.me_Rule_begin,G_QM,T.p_QM.b⟩,⟨⟨t.a_Q1,t.d_Q1,["self"],T.cl_Gap,T.me_Gap_begin,G_Q1,T.p_Q1.b⟩,⟨⟨t.a_QM,t.d_QM,["self"],T.cl_Never,T.me_Never_begin,G_QM,T.p_QM.b⟩,⟨⟨t.a_QM,t.d_QM,["self"],T.cl_Sum,T.me_Sum_begin,G_QM,T.p_QM.b⟩,⟨⟨t.a_QM,t.d_QM,["self"],T.cl_Turn,T.me_Turn_begin,G_QM,T.p_QM.b⟩,⟨⟨t.a_QK,t.d_QK,["self"],T.cl_Alike,T.me_Alike_begin,G_QK,T.p_QK.b⟩,trivial⟩⟩⟩⟩⟩⟩ hr (pv 0)))) Zi)))),[],?_⟩
 unfold ZiA;exact(Z8 (JJ (Ze (VF.cl (Xi (by rfl) (XN (YQ T.fl_rules (Zc 0))) (Y4 0) Xq (Xu (Zc 0) Zl))) Zl)))
theorem Zgy(T:Txt K mg t):FnOk P w K mg base CX0 5 t.a_QB t.d_QB ["self", "row"] (spD ⟨t.c,K⟩ 2 XQ):=by
 have G_QM:=(Zfq (P:=P) (w:=w) (base:=base) T).mono (k:=4) (by decide);have G_Q1:=(Zfs (P:=P) (w:=w) (base:=base) T).mono (k:=4) (by decide);have G_QK:=(Zft (P:=P) (w:=w) (base:=base) T).mono (k:=4) (by decide);have G_QX:=(Zgx (P:=P) (w:=w) (base:=base) T).mono (k:=4) (by decide);have G_Q2:=(Zfr (P:=P) (w:=w) (base:=base) T).mono (k:=4) (by decide)
 refine Yv (φ:=Zhv) T.p_QB.f Zjb (by conv=>lhs;whnf) (by conv=>lhs;whnf) (λcdv A outer s H E hr => ?_) rfl rfl;refine⟨_,(Zo (Yh (i:=2) nd6 (by rfl) (by first|exact Or.inl rfl|exact Or.inr rfl) (JQ (cA:=⟨t.c,K⟩) (tab:=tab_begin) (m:="begin") ⟨⟨t.a_QM,t.d_QM,["self"],T.cl_Rule,T.me_Rule_begin,G_QM,T.p_QM.b⟩,⟨⟨t.a_Q1,t.d_Q1,["self"],T.cl_Gap,T.me_Gap_begin,G_Q1,T.p_Q1.b⟩,⟨⟨t.a_QM,t.d_QM,["self"],T.cl_Never,T.me_Never_begin,G_QM,T.p_QM.b⟩,⟨⟨t.a_QM,t.d_QM,["self"],T.cl_Sum,T.me_Sum_begin,G_QM,T.p_QM.b⟩,⟨⟨t.a_QM,t.d_QM,["self"],T.cl_Turn,T.me_Turn_begin,G_QM,T.p_QM.b⟩,⟨⟨t.a_QK,t.d_QK,["self"],T.cl_Alike,T.me_Alike_begin,G_QK,T.p_QK.b⟩,⟨⟨t.a_QX,t.d_QX,["self"],T.cl_All,T.me_All_begin,G_QX,T.p_QX.b⟩,trivial⟩⟩⟩⟩⟩⟩⟩ hr (pv 0)))
 (Zo ((UK PassesOwn.never (by rfl) (Zep (by rfl) T.n_enumerate (pv 1)) (Zfk (K:=K) (n:=2) (UI (YH (i:=3) nd6) (UI (YH (i:=4) nd6) ZbB))) (Zo (Yh (i:=2) nd6 (by rfl) (by first|exact Or.inl rfl|exact Or.inr rfl) (X7 (cA:=⟨t.c,K⟩) (tab:=tab_step) (m:="step") ⟨⟨t.a_Q2,t.d_Q2,["self", "state", "mark"],T.cl_Rule,T.me_Rule_step,G_Q2,T.p_Q2.b⟩,⟨⟨t.a_Q2,t.d_Q2,["self", "state", "mark"],T.cl_Gap,T.me_Gap_step,G_Q2,T.p_Q2.b⟩,⟨⟨t.a_Q2,t.d_Q2,["self", "state", "mark"],T.cl_Never,T.me_Never_step,G_Q2,T.p_Q2.b⟩,⟨⟨t.a_Q2,t.d_Q2,["self", "state", "mark"],T.cl_Sum,T.me_Sum_step,G_Q2,T.p_Q2.b⟩,⟨⟨t.a_Q2,t.d_Q2,["self", "state", "mark"],T.cl_Turn,T.me_Turn_step,G_Q2,T.p_Q2.b⟩,⟨⟨t.a_Q2,t.d_Q2,["self", "state", "mark"],T.cl_Alike,T.me_Alike_step,G_Q2,T.p_Q2.b⟩,⟨⟨t.a_Q2,t.d_Q2,["self", "state", "mark"],T.cl_All,T.me_All_step,G_Q2,T.p_Q2.b⟩,trivial⟩⟩⟩⟩⟩⟩⟩ hr (pv 0) (Zd (pv 2) (Zd (pv 4) Zi))))
 (Zw (Yj (VV (Vu (pv 2))) (Zw (ZT (pv 3))) Yi)))))
 (Zw (ZT X4)))),[],?_⟩
 unfold Zhv;exact(Zs (show VS _ _ [] _ _ _ _ from(Yl 2 (Xu (Zc 0) Zl)))
 (Zs (UU (Zeq (Zc 1)) (ZcN (UT 3 (by rfl) (by rfl) (UT 4 (by rfl) (by rfl) ZbH))) (Zs (show VS _ _ [] _ _ _ _ from(Yl 2 (Xu (Zc 0) (Ze (Zc 2) (Ze (Zc 4) Zl)))))
 (Yn (Y3 (VB (Zc 2))) (Z8 (Zc 3)) Ym)))
 (Z8 (Zg (d:=.non) (by rfl) (by rfl)))))
theorem ZjB(T:Txt K mg t):FnOk P w K mg base CX0 6 t.a_QO t.d_QO ["self", "row"] (spD ⟨t.c,K⟩ 2 VP):=by
 have G_QB:=(Zgy (P:=P) (w:=w) (base:=base) T).mono (k:=5) (by decide);refine Yv (φ:=ZiC) T.p_QO.f Zjc (by conv=>lhs;whnf) (by conv=>lhs;whnf) (λcdv A outer s H E hr => ?_) rfl rfl;refine⟨_,(Zw (ZT (Qr (Vu (X7 (cA:=⟨t.c,K⟩) (tab:=tab_broken_at) (m:="broken_at") ⟨⟨t.a_QB,t.d_QB,["self", "row"],T.cl_Rule,T.me_Rule_broken_at,G_QB,T.p_QB.b⟩,⟨⟨t.a_QB,t.d_QB,["self", "row"],T.cl_Gap,T.me_Gap_broken_at,G_QB,T.p_QB.b⟩,⟨⟨t.a_QB,t.d_QB,["self", "row"],T.cl_Never,T.me_Never_broken_at,G_QB,T.p_QB.b⟩,⟨⟨t.a_QB,t.d_QB,["self", "row"],T.cl_Sum,T.me_Sum_broken_at,G_QB,T.p_QB.b⟩,⟨⟨t.a_QB,t.d_QB,["self", "row"],T.cl_Turn,T.me_Turn_broken_at,G_QB,T.p_QB.b⟩,⟨⟨t.a_QB,t.d_QB,["self", "row"],T.cl_Alike,T.me_Alike_broken_at,G_QB,T.p_QB.b⟩,⟨⟨t.a_QB,t.d_QB,["self", "row"],T.cl_All,T.me_All_broken_at,G_QB,T.p_QB.b⟩,trivial⟩⟩⟩⟩⟩⟩⟩ hr (pv 0) (Zd (pv 1) Zi)))))),[],?_⟩
 unfold ZiC;exact(Z8 (VB (Xu (Zc 0) (Ze (Zc 1) Zl))))
theorem ZjC(T:Txt K mg t):FnOk P w K mg base CX0 3 t.a_Q8 t.d_Q8 ["self", "marks", "mark", "least", "most"] (spI ⟨t.c,K⟩ 5 Qe):=by
 have G_QY:=(Qh (P:=P) (w:=w) (base:=base) T).mono (k:=2) (by decide);have G_Qb:=(Qg (P:=P) (w:=w) (base:=base) T).mono (k:=2) (by decide);have G_Qa:=(Ji (P:=P) (w:=w) (base:=base) T).mono (k:=2) (by decide);have G_Q5:=(ZdW (P:=P) (w:=w) (base:=base) T).mono (k:=2) (by decide);refine U2 (φ:=f_Q8) T.f_Q8 Zjd (by conv=>lhs;whnf) (by conv=>lhs;whnf) (λcdv A outer s H E self hr => ?_) rfl rfl
 refine⟨_,(Zo (YE (UZ (by rfl) T.g_Rule T.cm_Rule_init G_QY hr T.p_QY.b .nil ZR (Zd (pv 0) (Zd (pv 1) Zi))))
 (Zo (YE (Yc (G_Qb) hr (by rfl) T.p_Qb.g T.p_Qb.k T.p_Qb.b .nil ZR (Zd (Yc (G_Qa) hr (by rfl) T.p_Qa.g T.p_Qa.k T.p_Qa.b .nil ZR (Zd (pv 1) (Zd (pv 2) Zi))) (Zd (Yp [97,32,71,97,112,39,115,32,109,97,114,107,32,105,115,32,111,110,101,32,111,102,32,116,104,101,32,109,97,114,107,115] (by decide +kernel)) Zi))))
 (Zo (YE (Yc (G_Qb) hr (by rfl) T.p_Qb.g T.p_Qb.k T.p_Qb.b .nil ZR (Zd (Yc (G_Q5) hr (by rfl) T.p_Q5.g T.p_Q5.k T.p_Q5.b .nil ZR (Zd (pv 3) (Zd Zj (Zd Zj Zi)))) (Zd (Yp [97,32,71,97,112,39,115,32,108,101,97,115,116,32,105,115,32,102,114,111,109,32,48,32,116,111,32,56] (by decide +kernel)) Zi))))
 (Zo (YE (Yc (G_Qb) hr (by rfl) T.p_Qb.g T.p_Qb.k T.p_Qb.b .nil ZR (Zd (Zga (Qr (Vu (pv 4))) (Ul (Yc (G_Q5) hr (by rfl) T.p_Q5.g T.p_Q5.k T.p_Q5.b .nil ZR (Zd (pv 4) (Zd (pv 3) (Zd Zj Zi)))))) (Zd (Yp [97,32,71,97,112,39,115,32,109,111,115,116,32,105,115,32,78,111,110,101,32,111,114,32,102,114,111,109,32,108,101,97,115,116,32,116,111,32,56] (by decide +kernel)) Zi))))
 (Zo (XF (pv 0) (pv 2) (by rfl))
 (Zo (XF (pv 0) (pv 3) (by rfl))
 (Zw (XF (pv 0) (pv 4) (by rfl))))))))),?_⟩
 unfold f_Q8;exact(Zs (U1 0 (by rfl) [] (by rfl) (Ze (Zc 1) Zl))
 (Zs (Xh (Yd [] (by rfl) (Ze (Yd [] (by rfl) (Ze (Zc 1) (Ze (Zc 2) Zl))) (Ze (Zg (d:=(.str [97,32,71,97,112,39,115,32,109,97,114,107,32,105,115,32,111,110,101,32,111,102,32,116,104,101,32,109,97,114,107,115])) (by rfl) (by rfl)) Zl))))
 (Zs (Xh (Yd [] (by rfl) (Ze (Yd [] (by rfl) (Ze (Zc 3) (Ze (Zg (d:=(.int 0)) (by rfl) (by rfl)) (Ze (Zg (d:=(.int 8)) (by rfl) (by rfl)) Zl)))) (Ze (Zg (d:=(.str [97,32,71,97,112,39,115,32,108,101,97,115,116,32,105,115,32,102,114,111,109,32,48,32,116,111,32,56])) (by rfl) (by rfl)) Zl))))
 (Zs (Xh (Yd [] (by rfl) (Ze (Zgj (VB (Zc 4)) (Yd [] (by rfl) (Ze (Zc 4) (Ze (Zc 3) (Ze (Zg (d:=(.int 8)) (by rfl) (by rfl)) Zl))))) (Ze (Zg (d:=(.str [97,32,71,97,112,39,115,32,109,111,115,116,32,105,115,32,78,111,110,101,32,111,114,32,102,114,111,109,32,108,101,97,115,116,32,116,111,32,56])) (by rfl) (by rfl)) Zl))))
 (Zs (XY 0 (by rfl) T.fl_mark (Zc 2))
 (Zs (XY 0 (by rfl) T.fl_least (Zc 3))
 (XY 0 (by rfl) T.fl_most (Zc 4))))))))
theorem ZjD(T:Txt K mg t):FnOk P w K mg base CX0 3 t.a_QQ t.d_QQ ["self", "marks", "word"] (spI ⟨t.c,K⟩ 3 Zhx):=by
 have G_QY:=(Qh (P:=P) (w:=w) (base:=base) T).mono (k:=2) (by decide);have G_Qb:=(Qg (P:=P) (w:=w) (base:=base) T).mono (k:=2) (by decide);have G_Qa:=(Ji (P:=P) (w:=w) (base:=base) T).mono (k:=2) (by decide);refine U2 (φ:=Zhw) T.p_QQ.f Zje (by conv=>lhs;whnf) (by conv=>lhs;whnf) (λcdv A outer s H E self hr => ?_) rfl rfl;refine⟨_,(Zo (YE (UZ (by rfl) T.g_Rule T.cm_Rule_init G_QY hr T.p_QY.b .nil ZR (Zd (pv 0) (Zd (pv 1) Zi))))
 (Zo (YE (Yc (G_Qb) hr (by rfl) T.p_Qb.g T.p_Qb.k T.p_Qb.b .nil ZR (Zd (Zb5 VW VW Zj (Yk (YV (K:=K)) (by rfl) T.n_len boot_len (Zd (pv 2) Zi)) Zj) (Zd (Yp [97,32,78,101,118,101,114,39,115,32,119,111,114,100,32,104,97,115,32,49,32,116,111,32,54,32,115,105,103,110,115] (by decide +kernel)) Zi))))
 (Zo (YE (Yc (G_Qb) hr (by rfl) T.p_Qb.g T.p_Qb.k T.p_Qb.b .nil ZR (Zd (Yk (JA (K:=K)) (by rfl) T.n_all boot_all (Zd (X8 (by rfl) (CompSd.mk1 (tn:=["sign"]) (cn:=["marks"]) (js:=[1]) (osc:=defScope Q9) (oN:=["self", "marks", "word"]) (by rfl) (by rfl) (by rfl) (by decide +kernel)) (XH (K:=K) (pv 2)) (λC s₂ H₂ fp=>YH (i:=0) nd0) (λC s₂ H₂ fp=>Xp) (λC s₂ H₂ fp=>(Yc (G_Qa) hr (by rfl) T.p_Qa.g T.p_Qa.k T.p_Qa.b .nil ZR (Zd (pv 1) (Zd (pv 0) Zi))))) Zi)) (Zd (Yp [97,32,78,101,118,101,114,39,115,32,119,111,114,100,32,105,115,32,111,102,32,109,97,114,107,115] (by decide +kernel)) Zi))))
 (Zw (XF (pv 0) (pv 2) (by rfl)))))),?_⟩
 unfold Zhw;exact(Zs (U1 0 (by rfl) [] (by rfl) (Ze (Zc 1) Zl))
 (Zs (Xh (Yd [] (by rfl) (Ze (ZaX (Zg (d:=(.int 1)) (by rfl) (by rfl)) (Yt YW (Ze (Zc 2) Zl)) (Zg (d:=(.int 6)) (by rfl) (by rfl))) (Ze (Zg (d:=(.str [97,32,78,101,118,101,114,39,115,32,119,111,114,100,32,104,97,115,32,49,32,116,111,32,54,32,115,105,103,110,115])) (by rfl) (by rfl)) Zl))))
 (Zs (Xh (Yd [] (by rfl) (Ze (Yt US (Ze (VF.cl (Xi (by rfl) (XN (Zc 2)) (Y4 0) Xq (Yd [] (by rfl) (Ze (Zc 1) (Ze (Zc 0) Zl))))) Zl)) (Ze (Zg (d:=(.str [97,32,78,101,118,101,114,39,115,32,119,111,114,100,32,105,115,32,111,102,32,109,97,114,107,115])) (by rfl) (by rfl)) Zl))))
 (XY 0 (by rfl) T.fl_word (Zc 2)))))
theorem ZjE(T:Txt K mg t):FnOk P w K mg base CX0 3 t.a_Q4 t.d_Q4 ["self", "marks", "worths", "low", "high"] (spI ⟨t.c,K⟩ 5 Zhz):=by
 have G_QY:=(Qh (P:=P) (w:=w) (base:=base) T).mono (k:=2) (by decide);have G_Qb:=(Qg (P:=P) (w:=w) (base:=base) T).mono (k:=2) (by decide);have G_Q5:=(ZdW (P:=P) (w:=w) (base:=base) T).mono (k:=2) (by decide);refine U2 (φ:=Zhy) T.p_Q4.f Zjf (by conv=>lhs;whnf) (by conv=>lhs;whnf) (λcdv A outer s H E self hr => ?_) rfl rfl;refine⟨_,(Zo (YE (UZ (by rfl) T.g_Rule T.cm_Rule_init G_QY hr T.p_QY.b .nil ZR (Zd (pv 0) (Zd (pv 1) Zi))))
 (Zo (YE (Yc (G_Qb) hr (by rfl) T.p_Qb.g T.p_Qb.k T.p_Qb.b .nil ZR (Zd (Xn (YM (cA:=⟨t.c,K⟩) (hr.units)) (Yk (YV (K:=K)) (by rfl) T.n_len boot_len (Zd (pv 2) Zi)) (Yk (YV (K:=K)) (by rfl) T.n_len boot_len (Zd (pv 1) Zi)) (Yb _)) (Zd (Yp [97,32,83,117,109,32,104,97,115,32,97,115,32,109,97,110,121,32,119,111,114,116,104,115,32,97,115,32,116,104,101,114,101,32,97,114,101,32,109,97,114,107,115] (by decide +kernel)) Zi))))
 (Zo (YE (Yc (G_Qb) hr (by rfl) T.p_Qb.g T.p_Qb.k T.p_Qb.b .nil ZR (Zd (Yk (JA (K:=K)) (by rfl) T.n_all boot_all (Zd (X8 (by rfl) (CompSd.mk1 (tn:=["worth"]) (cn:=[]) (js:=[]) (osc:=defScope Ja) (oN:=["self", "marks", "worths", "low", "high"]) (by rfl) (by rfl) (by rfl) (by decide +kernel)) (XH (K:=K) (pv 2)) (λC s₂ H₂ fp=>YH (i:=0) nd7) (λC s₂ H₂ fp=>Xp) (λC s₂ H₂ fp=>(Yc (G_Q5) hr (by rfl) T.p_Q5.g T.p_Q5.k T.p_Q5.b .nil ZR (Zd (pv 0) (Zd (Uo Up Zj) (Zd Zj Zi)))))) Zi)) (Zd (Yp [97,32,83,117,109,39,115,32,119,111,114,116,104,115,32,97,114,101,32,102,114,111,109,32,45,51,32,116,111,32,51] (by decide +kernel)) Zi))))
 (Zo (YE (Yc (G_Qb) hr (by rfl) T.p_Qb.g T.p_Qb.k T.p_Qb.b .nil ZR (Zd (Yc (G_Q5) hr (by rfl) T.p_Q5.g T.p_Q5.k T.p_Q5.b .nil ZR (Zd (pv 3) (Zd (Uo Up Zj) (Zd Zj Zi)))) (Zd (Yp [97,32,83,117,109,39,115,32,108,111,119,32,105,115,32,102,114,111,109,32,45,56,32,116,111,32,48] (by decide +kernel)) Zi))))
 (Zo (YE (Yc (G_Qb) hr (by rfl) T.p_Qb.g T.p_Qb.k T.p_Qb.b .nil ZR (Zd (Yc (G_Q5) hr (by rfl) T.p_Q5.g T.p_Q5.k T.p_Q5.b .nil ZR (Zd (pv 4) (Zd Zj (Zd Zj Zi)))) (Zd (Yp [97,32,83,117,109,39,115,32,104,105,103,104,32,105,115,32,102,114,111,109,32,48,32,116,111,32,56] (by decide +kernel)) Zi))))
 (Zo (XF (pv 0) (Vg (QE (K:=K)) (by rfl) T.n_tuple boot_tuple (Zd (pv 2) Zi)) (by rfl))
 (Zo (XF (pv 0) (pv 3) (by rfl))
 (Zw (XF (pv 0) (pv 4) (by rfl)))))))))),?_⟩
 unfold Zhy;exact(Zs (U1 0 (by rfl) [] (by rfl) (Ze (Zc 1) Zl))
 (Zs (Xh (Yd [] (by rfl) (Ze (Zh YN (Yt YW (Ze (Zc 2) Zl)) (Yt YW (Ze (Zc 1) Zl))) (Ze (Zg (d:=(.str [97,32,83,117,109,32,104,97,115,32,97,115,32,109,97,110,121,32,119,111,114,116,104,115,32,97,115,32,116,104,101,114,101,32,97,114,101,32,109,97,114,107,115])) (by rfl) (by rfl)) Zl))))
 (Zs (Xh (Yd [] (by rfl) (Ze (Yt US (Ze (VF.cl (Xi (by rfl) (XN (Zc 2)) (Y4 0) Xq (Yd [] (by rfl) (Ze (Zc 0) (Ze (Uu (Zg (d:=(.int 3)) (by rfl) (by rfl))) (Ze (Zg (d:=(.int 3)) (by rfl) (by rfl)) Zl)))))) Zl)) (Ze (Zg (d:=(.str [97,32,83,117,109,39,115,32,119,111,114,116,104,115,32,97,114,101,32,102,114,111,109,32,45,51,32,116,111,32,51])) (by rfl) (by rfl)) Zl))))
 (Zs (Xh (Yd [] (by rfl) (Ze (Yd [] (by rfl) (Ze (Zc 3) (Ze (Uu (Zg (d:=(.int 8)) (by rfl) (by rfl))) (Ze (Zg (d:=(.int 0)) (by rfl) (by rfl)) Zl)))) (Ze (Zg (d:=(.str [97,32,83,117,109,39,115,32,108,111,119,32,105,115,32,102,114,111,109,32,45,56,32,116,111,32,48])) (by rfl) (by rfl)) Zl))))
 (Zs (Xh (Yd [] (by rfl) (Ze (Yd [] (by rfl) (Ze (Zc 4) (Ze (Zg (d:=(.int 0)) (by rfl) (by rfl)) (Ze (Zg (d:=(.int 8)) (by rfl) (by rfl)) Zl)))) (Ze (Zg (d:=(.str [97,32,83,117,109,39,115,32,104,105,103,104,32,105,115,32,102,114,111,109,32,48,32,116,111,32,56])) (by rfl) (by rfl)) Zl))))
 (Zs (XY 0 (by rfl) T.fl_worths (JJ (Ze (Zc 2) Zl)))
 (Zs (XY 0 (by rfl) T.fl_low (Zc 3))
 (XY 0 (by rfl) T.fl_high (Zc 4)))))))))
theorem ZjF(T:Txt K mg t):FnOk P w K mg base CX0 3 t.a_QZ t.d_QZ ["self", "marks", "mark", "every", "at"] (spI ⟨t.c,K⟩ 5 ZhB):=by
 have G_QY:=(Qh (P:=P) (w:=w) (base:=base) T).mono (k:=2) (by decide);have G_Qb:=(Qg (P:=P) (w:=w) (base:=base) T).mono (k:=2) (by decide);have G_Qa:=(Ji (P:=P) (w:=w) (base:=base) T).mono (k:=2) (by decide);have G_Q5:=(ZdW (P:=P) (w:=w) (base:=base) T).mono (k:=2) (by decide);refine U2 (φ:=ZhA) T.p_QZ.f Zjg (by conv=>lhs;whnf) (by conv=>lhs;whnf) (λcdv A outer s H E self hr => ?_) rfl rfl
 refine⟨_,(Zo (YE (UZ (by rfl) T.g_Rule T.cm_Rule_init G_QY hr T.p_QY.b .nil ZR (Zd (pv 0) (Zd (pv 1) Zi))))
 (Zo (YE (Yc (G_Qb) hr (by rfl) T.p_Qb.g T.p_Qb.k T.p_Qb.b .nil ZR (Zd (Yc (G_Qa) hr (by rfl) T.p_Qa.g T.p_Qa.k T.p_Qa.b .nil ZR (Zd (pv 1) (Zd (pv 2) Zi))) (Zd (Yp [97,32,84,117,114,110,39,115,32,109,97,114,107,32,105,115,32,111,110,101,32,111,102,32,116,104,101,32,109,97,114,107,115] (by decide +kernel)) Zi))))
 (Zo (YE (Yc (G_Qb) hr (by rfl) T.p_Qb.g T.p_Qb.k T.p_Qb.b .nil ZR (Zd (Yc (G_Q5) hr (by rfl) T.p_Q5.g T.p_Q5.k T.p_Q5.b .nil ZR (Zd (pv 3) (Zd Zj (Zd Zj Zi)))) (Zd (Yp [97,32,84,117,114,110,39,115,32,101,118,101,114,121,32,105,115,32,102,114,111,109,32,49,32,116,111,32,54] (by decide +kernel)) Zi))))
 (Zo (YE (Yc (G_Qb) hr (by rfl) T.p_Qb.g T.p_Qb.k T.p_Qb.b .nil ZR (Zd (Yc (G_Q5) hr (by rfl) T.p_Q5.g T.p_Q5.k T.p_Q5.b .nil ZR (Zd (pv 4) (Zd Zj (Zd (ZB Vv (pv 3) Zj) Zi)))) (Zd (Yp [97,32,84,117,114,110,39,115,32,97,116,32,105,115,32,102,114,111,109,32,48,32,116,111,32,111,110,101,32,98,101,108,111,119,32,101,118,101,114,121] (by decide +kernel)) Zi))))
 (Zo (XF (pv 0) (pv 2) (by rfl))
 (Zo (XF (pv 0) (pv 3) (by rfl))
 (Zw (XF (pv 0) (pv 4) (by rfl))))))))),?_⟩
 unfold ZhA;exact(Zs (U1 0 (by rfl) [] (by rfl) (Ze (Zc 1) Zl))
 (Zs (Xh (Yd [] (by rfl) (Ze (Yd [] (by rfl) (Ze (Zc 1) (Ze (Zc 2) Zl))) (Ze (Zg (d:=(.str [97,32,84,117,114,110,39,115,32,109,97,114,107,32,105,115,32,111,110,101,32,111,102,32,116,104,101,32,109,97,114,107,115])) (by rfl) (by rfl)) Zl))))
 (Zs (Xh (Yd [] (by rfl) (Ze (Yd [] (by rfl) (Ze (Zc 3) (Ze (Zg (d:=(.int 1)) (by rfl) (by rfl)) (Ze (Zg (d:=(.int 6)) (by rfl) (by rfl)) Zl)))) (Ze (Zg (d:=(.str [97,32,84,117,114,110,39,115,32,101,118,101,114,121,32,105,115,32,102,114,111,109,32,49,32,116,111,32,54])) (by rfl) (by rfl)) Zl))))
 (Zs (Xh (Yd [] (by rfl) (Ze (Yd [] (by rfl) (Ze (Zc 4) (Ze (Zg (d:=(.int 0)) (by rfl) (by rfl)) (Ze (Zh Vy (Zc 3) (Zg (d:=(.int 1)) (by rfl) (by rfl))) Zl)))) (Ze (Zg (d:=(.str [97,32,84,117,114,110,39,115,32,97,116,32,105,115,32,102,114,111,109,32,48,32,116,111,32,111,110,101,32,98,101,108,111,119,32,101,118,101,114,121])) (by rfl) (by rfl)) Zl))))
 (Zs (XY 0 (by rfl) T.fl_mark (Zc 2))
 (Zs (XY 0 (by rfl) T.fl_every (Zc 3))
 (XY 0 (by rfl) T.fl_at (Zc 4))))))))
theorem ZjG(T:Txt K mg t):FnOk P w K mg base CX0 3 t.a_QN t.d_QN ["self", "marks", "most"] (spI ⟨t.c,K⟩ 3 ZhD):=by
 have G_QY:=(Qh (P:=P) (w:=w) (base:=base) T).mono (k:=2) (by decide);have G_Qb:=(Qg (P:=P) (w:=w) (base:=base) T).mono (k:=2) (by decide);have G_Q5:=(ZdW (P:=P) (w:=w) (base:=base) T).mono (k:=2) (by decide);refine U2 (φ:=ZhC) T.p_QN.f Zjh (by conv=>lhs;whnf) (by conv=>lhs;whnf) (λcdv A outer s H E self hr => ?_) rfl rfl;refine⟨_,(Zo (YE (UZ (by rfl) T.g_Rule T.cm_Rule_init G_QY hr T.p_QY.b .nil ZR (Zd (pv 0) (Zd (pv 1) Zi))))
 (Zo (YE (Yc (G_Qb) hr (by rfl) T.p_Qb.g T.p_Qb.k T.p_Qb.b .nil ZR (Zd (Yc (G_Q5) hr (by rfl) T.p_Q5.g T.p_Q5.k T.p_Q5.b .nil ZR (Zd (pv 2) (Zd Zj (Zd Zj Zi)))) (Zd (Yp [97,110,32,65,108,105,107,101,39,115,32,109,111,115,116,32,105,115,32,102,114,111,109,32,49,32,116,111,32,54] (by decide +kernel)) Zi))))
 (Zw (XF (pv 0) (pv 2) (by rfl))))),?_⟩
 unfold ZhC;exact(Zs (U1 0 (by rfl) [] (by rfl) (Ze (Zc 1) Zl))
 (Zs (Xh (Yd [] (by rfl) (Ze (Yd [] (by rfl) (Ze (Zc 2) (Ze (Zg (d:=(.int 1)) (by rfl) (by rfl)) (Ze (Zg (d:=(.int 6)) (by rfl) (by rfl)) Zl)))) (Ze (Zg (d:=(.str [97,110,32,65,108,105,107,101,39,115,32,109,111,115,116,32,105,115,32,102,114,111,109,32,49,32,116,111,32,54])) (by rfl) (by rfl)) Zl))))
 (XY 0 (by rfl) T.fl_most (Zc 2))))
theorem ZjH(T:Txt K mg t):FnOk P w K mg base CX0 3 t.a_Q6 t.d_Q6 ["self", "marks", "rules"] (spJ ⟨t.c,K⟩ "All" Q2):=by
 have G_QY:=(Qh (P:=P) (w:=w) (base:=base) T).mono (k:=2) (by decide);have G_Qb:=(Qg (P:=P) (w:=w) (base:=base) T).mono (k:=2) (by decide);refine ZiT (φ:=Q1) T.p_Q6.f Zji (by conv=>lhs;whnf) (by conv=>lhs;whnf) (λcdv A outer s H E self h2 hr => ?_) rfl rfl T.fl_rules (by decide);refine⟨_,(Zo (YE (UZ (by rfl) T.g_Rule T.cm_Rule_init G_QY hr T.p_QY.b .nil ZR (Zd (pv 0) (Zd (pv 1) Zi))))
 (Zo (YE (Yc (G_Qb) hr (by rfl) T.p_Qb.g T.p_Qb.k T.p_Qb.b .nil ZR (Zd (Xn VW (Yk (YV (K:=K)) (by rfl) T.n_len boot_len (Zd (pv 2) Zi)) Zj (Yb _)) (Zd (Yp [97,110,32,65,108,108,32,104,97,115,32,97,116,32,109,111,115,116,32,54,32,114,117,108,101,115] (by decide +kernel)) Zi))))
 (Zo (YE (Yc (G_Qb) hr (by rfl) T.p_Qb.g T.p_Qb.k T.p_Qb.b .nil ZR (Zd (ZgJ (Yk (Zgh (K:=K)) (by rfl) T.n_any boot_any (Zd (X8 (by rfl) (CompSd.mk1 (tn:=["rule"]) (cn:=[]) (js:=[]) (osc:=defScope Qf) (oN:=["self", "marks", "rules"]) (by rfl) (by rfl) (by rfl) (by decide +kernel)) (XH (K:=K) (pv 2)) (λC s₂ H₂ fp=>YH (i:=0) nd5) (λC s₂ H₂ fp=>Xp) (λC s₂ H₂ fp=>(Yk (UX (K:=K)) (by rfl) T.n_isinstance boot_isinstance (Zd (pv 0) (Zd (ZcX (v:=.ref (t.c "All")) (by rfl) T.g_All (by rfl)) Zi))))) Zi))) (Zd (Yp [110,111,32,114,117,108,101,32,105,110,32,97,110,32,65,108,108,32,105,115,32,97,110,32,65,108,108] (by decide +kernel)) Zi))))
 (Zo (YE (Yc (G_Qb) hr (by rfl) T.p_Qb.g T.p_Qb.k T.p_Qb.b .nil ZR (Zd (Yk (JA (K:=K)) (by rfl) T.n_all boot_all (Zd (X8 (by rfl) (CompSd.mk1 (tn:=["rule"]) (cn:=["marks"]) (js:=[1]) (osc:=defScope Qf) (oN:=["self", "marks", "rules"]) (by rfl) (by rfl) (by rfl) (by decide +kernel)) (XH (K:=K) (pv 2)) (λC s₂ H₂ fp=>YH (i:=0) nd8) (λC s₂ H₂ fp=>Xp) (λC s₂ H₂ fp=>(Xn (YM (cA:=⟨t.c,K⟩) (hr.units)) (YK (K:=K) (pv 0)) (pv 1) (Yb _)))) Zi)) (Zd (Yp [116,104,101,32,114,117,108,101,115,32,105,110,32,97,110,32,65,108,108,32,97,114,101,32,111,102,32,105,116,115,32,109,97,114,107,115] (by decide +kernel)) Zi))))
 (Zw (XF (pv 0) (Vg (QE (K:=K)) (by rfl) T.n_tuple boot_tuple (Zd (pv 2) Zi)) (by rfl))))))),?_⟩
 unfold Q1;exact(Vl (U1 0 (by rfl) [] (by rfl) (Ze (Zc 1) Zl))
 (Vl (Xh (Yd [] (by rfl) (Ze (Zh XJ (Yt YW (Ze (Zc 2) Zl)) (Zg (d:=(.int 6)) (by rfl) (by rfl))) (Ze (Zg (d:=(.str [97,110,32,65,108,108,32,104,97,115,32,97,116,32,109,111,115,116,32,54,32,114,117,108,101,115])) (by rfl) (by rfl)) Zl))))
 (Vl (Xh (Yd [] (by rfl) (Ze (ZgW (Yt US (Ze (VF.cl (Xi (by rfl) (XN (Zc 2)) (Y4 0) Xq (QM (λ_ h=>h) T.isi_All (Zc 0)))) Zl))) (Ze (Zg (d:=(.str [110,111,32,114,117,108,101,32,105,110,32,97,110,32,65,108,108,32,105,115,32,97,110,32,65,108,108])) (by rfl) (by rfl)) Zl))))
 (Ze2 (Xh (Yd [] (by rfl) (Ze (Yt US (Ze (VF.cl (Xi (by rfl) (XN (Zc 2)) (Y4 0) Xq (Zh YN (YQ T.fl_marks (Zc 0)) (Zc 1)))) Zl)) (Ze (Zg (d:=(.str [116,104,101,32,114,117,108,101,115,32,105,110,32,97,110,32,65,108,108,32,97,114,101,32,111,102,32,105,116,115,32,109,97,114,107,115])) (by rfl) (by rfl)) Zl))))))))
theorem ZjI(T:Txt K mg t):FnOk P w K mg base CX0 1 t.a_QA t.d_QA ["self"] (ZcQ ⟨t.c,K⟩ "All"):=by
 exact ZfT (C:="All") T.p_QA.f Zjj (by conv=>lhs;whnf) (by conv=>lhs;whnf) (λcdv A outer s H E hr=>(Zw (ZT (Vg (JW (K:=K)) (by rfl) T.n_list boot_list (Zd (YK (K:=K) (pv 0)) Zi))))) rfl T.fl_rules (by decide)
theorem Zgz(T:Txt K mg t):FnOk P w K mg base CX0 1 t.a_QD t.d_QD ["script", "k"] (spD ⟨t.c,K⟩ 2 Vp):=by
 refine Yv (φ:=Q3) T.p_QD.f Zjk (by conv=>lhs;whnf) (by conv=>lhs;whnf) (λcdv A outer s H E hr => ?_) rfl rfl;refine⟨_,(Zo (Yj (Yr UL (pv 1) (Yk (YV (K:=K)) (by rfl) T.n_len boot_len (Zd (pv 0) Zi)) (Yb _)) (Zw (ZT (Z0 (Z1 (K:=K)) (pv 0) (pv 1) (λ_ _=>rfl)))) Yi)
 (Zw (ZT Zj))),[],?_⟩
 unfold Q3;exact(Zs (Yn (Ys (Zh XJ (Zc 1) (Yt YW (Ze (Zc 0) Zl)))) (Z8 (Zh Z2 (Zc 0) (Zc 1))) Ym)
 (Z8 (Zg (d:=(.int 0)) (by rfl) (by rfl))))
theorem ZjJ(T:Txt K mg t):FnOk P w K mg base CX0 1 t.a_QT t.d_QT ["cell"] (spD ⟨t.c,K⟩ 1 Q4):=by
 refine Yv (φ:=ZhE) T.p_QT.f Zjl (by conv=>lhs;whnf) (by conv=>lhs;whnf) (λcdv A outer s H E hr => ?_) rfl rfl;refine⟨_,(Zo (Yh (i:=1) nd9 (by rfl) (by first|exact Or.inl rfl|exact Or.inr rfl) (Yp [97,98,99,100,101,102,103,104,105,106,107,108,109,110,111,112,113,114,115,116,117,118,119,120,121,122,48,49,50,51,52,53,54,55,56,57] (by decide +kernel)))
 (Zo (Yh (i:=2) nd9 (by rfl) (by first|exact Or.inl rfl|exact Or.inr rfl) (ZB YT Zj (ZB Yw (ZB XT (pv 0) Zj) Zj)))
 (Zw (ZT (XI (K:=K) PySem.F.plainAttrs_str PySem.F.slot_str_join PySem.F.type_str_join (Zc6 (K:=K)) (Yp [] (by decide +kernel)) (Zd (X8 (by rfl) (CompSd.mk1 (tn:=["k"]) (cn:=["some", "cell", "step"]) (js:=[1,0,2]) (osc:=defScope Jb) (oN:=["cell", "some", "step"]) (by rfl) (by rfl) (by rfl) (by decide +kernel)) (UJ (by rfl) T.n_range (Zd (ZB YT Zj (ZB Yw (ZB XT (pv 0) Zj) Zj)) Zi)) (λC s₂ H₂ fp=>YH (i:=0) Zkq) (λC s₂ H₂ fp=>Xp) (λC s₂ H₂ fp=>(Z0 (Z1 (K:=K)) (pv 1) (ZB Yw (ZB YT (pv 2) (ZB ZbF (pv 0) (pv 3))) Zj) (λ_ _=>rfl)))) Zi)))))),[],?_⟩
 unfold ZhE;exact(Zs (show VS _ _ [] _ _ _ _ from(Yl 1 (Zg (d:=(.str [97,98,99,100,101,102,103,104,105,106,107,108,109,110,111,112,113,114,115,116,117,118,119,120,121,122,48,49,50,51,52,53,54,55,56,57])) (by rfl) (by rfl))))
 (Zs (show VS _ _ [] _ _ _ _ from(Yl 2 (Zh YU (Zg (d:=(.int 1)) (by rfl) (by rfl)) (Zh Yx (Zh XX (Zc 0) (Zg (d:=(.int 36)) (by rfl) (by rfl))) (Zg (d:=(.int 11)) (by rfl) (by rfl))))))
 (Z8 (Vk Zc8 (Zg (d:=(.str [])) (by rfl) (by rfl)) (Ze (VF.cl (Xi (by rfl) (UV (Ze (Zh YU (Zg (d:=(.int 2)) (by rfl) (by rfl)) (Zh Yx (Zh XX (Zc 0) (Zg (d:=(.int 396)) (by rfl) (by rfl))) (Zg (d:=(.int 3)) (by rfl) (by rfl)))) Zl) UW) (Y4 0) Xq (Zh Z2 (Zc 1) (Zh Yx (Zh YU (Zc 2) (Zh ZcM (Zc 0) (Zc 3))) (Zg (d:=(.int 36)) (by rfl) (by rfl)))))) Zl)))))
theorem ZjK(T:Txt K mg t):FnOk P w K mg base CX0 1 t.a_QF t.d_QF ["rule", "row"] (spD ⟨t.c,K⟩ 2 Q6):=by
 refine Yv (φ:=Q5) T.p_QF.f Zjm (by conv=>lhs;whnf) (by conv=>lhs;whnf) (λcdv A outer s H E hr => ?_) rfl rfl;refine⟨_,(Zo (Yh (i:=2) Zkr (by rfl) (by first|exact Or.inl rfl|exact Or.inr rfl) (XI (K:=K) PySem.F.plainAttrs_str PySem.F.slot_str_rfind PySem.F.type_str_rfind Zel (pv 1) (Zd (Z0 (Z1 (K:=K)) (pv 0) Zj (λ_ _=>rfl)) Zi)))
 (Zo (Yj (Yr UL (pv 2) Zj (Yb _)) (Zw (ZT (ZB YT (Yk (YV (K:=K)) (by rfl) T.n_len boot_len (Zd (pv 1) Zi)) (Z0 (Z1 (K:=K)) (pv 0) Zj (λ_ _=>rfl))))) Yi)
 (Zw (ZT (ZB Vv (ZB Vv (Yk (YV (K:=K)) (by rfl) T.n_len boot_len (Zd (pv 1) Zi)) Zj) (pv 2)))))),[],?_⟩
 unfold Q5;exact(Zs (show VS _ _ [] _ _ _ _ from(Yl 2 (Vk Zen (Zc 1) (Ze (Zh Z2 (Zc 0) (Zg (d:=(.int 1)) (by rfl) (by rfl))) Zl))))
 (Zs (Yn (Ys (Zh XJ (Zc 2) (Zg (d:=(.int 0)) (by rfl) (by rfl)))) (Z8 (Zh YU (Yt YW (Ze (Zc 1) Zl)) (Zh Z2 (Zc 0) (Zg (d:=(.int 2)) (by rfl) (by rfl))))) Ym)
 (Z8 (Zh Vy (Zh Vy (Yt YW (Ze (Zc 1) Zl)) (Zg (d:=(.int 1)) (by rfl) (by rfl))) (Zc 2)))))
theorem ZjL(T:Txt K mg t):FnOk P w K mg base CX0 1 t.a_QW t.d_QW ["marks", "rule", "row"] (spD ⟨t.c,K⟩ 3 ZiE):=by
 refine Yv (φ:=ZiD) T.p_QW.f Zjn (by conv=>lhs;whnf) (by conv=>lhs;whnf) (λcdv A outer s H E hr => ?_) rfl rfl;refine⟨_,(Zw (ZT (Yk (ZgY (K:=K)) (by rfl) T.n_sum boot_sum (Zd (X8 (by rfl) (CompSd.mk1 (tn:=["mark"]) (cn:=["rule", "marks"]) (js:=[1,0]) (osc:=defScope Jc) (oN:=["marks", "rule", "row"]) (by rfl) (by rfl) (by rfl) (by decide +kernel)) (XH (K:=K) (pv 2)) (λC s₂ H₂ fp=>YH (i:=0) Zks) (λC s₂ H₂ fp=>Xp) (λC s₂ H₂ fp=>(Z0 (Z1 (K:=K)) (Z0 (Z1 (K:=K)) (pv 1) Zj (λ_ _=>rfl)) (XI (K:=K) PySem.F.plainAttrs_str PySem.F.slot_str_index PySem.F.type_str_index Za0 (pv 2) (Zd (pv 0) Zi)) (λ_ _=>rfl)))) Zi)))),[],?_⟩
 unfold ZiD;exact(Z8 (Yt ZfK (Ze (VF.cl (Xi (by rfl) (XN (Zc 2)) (Y4 0) Xq (Zh Z2 (Zh Z2 (Zc 1) (Zg (d:=(.int 1)) (by rfl) (by rfl))) (Vk Za1 (Zc 2) (Ze (Zc 0) Zl))))) Zl)))
theorem ZjM(T:Txt K mg t):FnOk P w K mg base CX0 2 t.a_QH t.d_QH ["marks", "rule", "row"] (spD ⟨t.c,K⟩ 3 Xe):=by
 have G_QF:=(ZjK (P:=P) (w:=w) (base:=base) T).mono (k:=1) (by decide);have G_QW:=(ZjL (P:=P) (w:=w) (base:=base) T).mono (k:=1) (by decide);refine Yv (φ:=XR) T.p_QH.f Zjo (by conv=>lhs;whnf) (by conv=>lhs;whnf) (λcdv A outer s H E hr => ?_) rfl rfl;refine⟨_,(Zo (Yj (Yr (YM (cA:=⟨t.c,K⟩) (hr.units)) (Z0 (Z1 (K:=K)) (pv 1) Zj (λ_ _=>rfl)) (Yp [103,97,112] (by decide +kernel)) (Yb _)) (Zo (Yh (i:=3) Zke (by rfl) (by first|exact Or.inl rfl|exact Or.inr rfl) (Yc (G_QF) hr (by rfl) T.p_QF.g T.p_QF.k T.p_QF.b .nil ZR (Zd (pv 1) (Zd (Qy (QD (K:=K)) (pv 2) Qw (Qx (Uo Up Zj))) Zi))))
 (Zo (Yj (Yr (YM (cA:=⟨t.c,K⟩) (hr.units)) (Z0 (Z1 (K:=K)) (pv 2) (Uo Up Zj) (λ_ _=>rfl)) (Z0 (Z1 (K:=K)) (pv 1) Zj (λ_ _=>rfl)) (Yb _)) (Zw (ZT (Xn UL (pv 3) (Z0 (Z1 (K:=K)) (pv 1) Zj (λ_ _=>rfl)) (Yb _)))) Yi)
 (Zw (ZT (Qs (Qr (Jl (Z0 (Z1 (K:=K)) (pv 1) Zj (λ_ _=>rfl)))) (Ul (Xn Jt (ZB YT (pv 3) Zj) (Z0 (Z1 (K:=K)) (pv 1) Zj (λ_ _=>rfl)) (Yb _)))))))) Yi)
 (Zo (Yj (Yr (YM (cA:=⟨t.c,K⟩) (hr.units)) (Z0 (Z1 (K:=K)) (pv 1) Zj (λ_ _=>rfl)) (Yp [110,101,118,101,114] (by decide +kernel)) (Yb _)) (Zw (ZT (XI (K:=K) PySem.F.plainAttrs_str PySem.F.slot_str_endswith PySem.F.type_str_endswith Zah (pv 2) (Zd (Z0 (Z1 (K:=K)) (pv 1) Zj (λ_ _=>rfl)) Zi)))) Yi)
 (Zo (Yj (Yr (YM (cA:=⟨t.c,K⟩) (hr.units)) (Z0 (Z1 (K:=K)) (pv 1) Zj (λ_ _=>rfl)) (Yp [115,117,109] (by decide +kernel)) (Yb _)) (Zo (Yh (i:=4) Zke (by rfl) (by first|exact Or.inl rfl|exact Or.inr rfl) (Yc (G_QW) hr (by rfl) T.p_QW.g T.p_QW.k T.p_QW.b .nil ZR (Zd (pv 0) (Zd (pv 1) (Zd (pv 2) Zi)))))
 (Zw (ZT (Zga (Xn UL (pv 4) (Z0 (Z1 (K:=K)) (pv 1) Zj (λ_ _=>rfl)) (Yb _)) (Ul (Xn Jt (pv 4) (Z0 (Z1 (K:=K)) (pv 1) Zj (λ_ _=>rfl)) (Yb _))))))) Yi)
 (Zo (Yj (Yr (YM (cA:=⟨t.c,K⟩) (hr.units)) (Z0 (Z1 (K:=K)) (pv 1) Zj (λ_ _=>rfl)) (Yp [116,117,114,110] (by decide +kernel)) (Yb _)) (Zw (ZT (Qs (Xn (YM (cA:=⟨t.c,K⟩) (hr.units)) (Z0 (Z1 (K:=K)) (pv 2) (Uo Up Zj) (λ_ _=>rfl)) (Z0 (Z1 (K:=K)) (pv 1) Zj (λ_ _=>rfl)) (Yb _)) (Ul (Xn (UP (cA:=⟨t.c,K⟩) (hr.units)) (ZB Yw (ZB Vv (Yk (YV (K:=K)) (by rfl) T.n_len boot_len (Zd (pv 2) Zi)) Zj) (Z0 (Z1 (K:=K)) (pv 1) Zj (λ_ _=>rfl))) (Z0 (Z1 (K:=K)) (pv 1) Zj (λ_ _=>rfl)) (Yb _)))))) Yi)
 (Zw (ZT (XI (K:=K) PySem.F.plainAttrs_str PySem.F.slot_str_endswith PySem.F.type_str_endswith Zah (pv 2) (Zd (ZB ZbF (Z0 (Z1 (K:=K)) (pv 2) (Uo Up Zj) (λ_ _=>rfl)) (ZB YT (Z0 (Z1 (K:=K)) (pv 1) Zj (λ_ _=>rfl)) Zj)) Zi)))))))),[],?_⟩
 unfold XR;exact(Zs (Yn (Ys (Zh YN (Zh Z2 (Zc 1) (Zg (d:=(.int 0)) (by rfl) (by rfl))) (Zg (d:=(.str [103,97,112])) (by rfl) (by rfl)))) (Zs (show VS _ _ [] _ _ _ _ from(Yl 3 (Yd [] (by rfl) (Ze (Zc 1) (Ze (QK (Or.inl rfl) (Zc 2) QI (QJ (Uu (Zg (d:=(.int 1)) (by rfl) (by rfl))))) Zl)))))
 (Zs (Yn (Ys (Zh YN (Zh Z2 (Zc 2) (Uu (Zg (d:=(.int 1)) (by rfl) (by rfl)))) (Zh Z2 (Zc 1) (Zg (d:=(.int 1)) (by rfl) (by rfl))))) (Z8 (Zh XJ (Zc 3) (Zh Z2 (Zc 1) (Zg (d:=(.int 2)) (by rfl) (by rfl))))) Ym)
 (Z8 (JG (JH (Zh Z2 (Zc 1) (Zg (d:=(.int 3)) (by rfl) (by rfl)))) (Zh XJ (Zh YU (Zc 3) (Zg (d:=(.int 1)) (by rfl) (by rfl))) (Zh Z2 (Zc 1) (Zg (d:=(.int 3)) (by rfl) (by rfl)))))))) Ym)
 (Zs (Yn (Ys (Zh YN (Zh Z2 (Zc 1) (Zg (d:=(.int 0)) (by rfl) (by rfl))) (Zg (d:=(.str [110,101,118,101,114])) (by rfl) (by rfl)))) (Z8 (Vk ZbI (Zc 2) (Ze (Zh Z2 (Zc 1) (Zg (d:=(.int 1)) (by rfl) (by rfl))) Zl))) Ym)
 (Zs (Yn (Ys (Zh YN (Zh Z2 (Zc 1) (Zg (d:=(.int 0)) (by rfl) (by rfl))) (Zg (d:=(.str [115,117,109])) (by rfl) (by rfl)))) (Zs (show VS _ _ [] _ _ _ _ from(Yl 4 (Yd [] (by rfl) (Ze (Zc 0) (Ze (Zc 1) (Ze (Zc 2) Zl))))))
 (Z8 (Zgj (Zh XJ (Zc 4) (Zh Z2 (Zc 1) (Zg (d:=(.int 2)) (by rfl) (by rfl)))) (Zh XJ (Zc 4) (Zh Z2 (Zc 1) (Zg (d:=(.int 3)) (by rfl) (by rfl))))))) Ym)
 (Zs (Yn (Ys (Zh YN (Zh Z2 (Zc 1) (Zg (d:=(.int 0)) (by rfl) (by rfl))) (Zg (d:=(.str [116,117,114,110])) (by rfl) (by rfl)))) (Z8 (JG (Zh YN (Zh Z2 (Zc 2) (Uu (Zg (d:=(.int 1)) (by rfl) (by rfl)))) (Zh Z2 (Zc 1) (Zg (d:=(.int 1)) (by rfl) (by rfl)))) (Zh UQ (Zh Yx (Zh Vy (Yt YW (Ze (Zc 2) Zl)) (Zg (d:=(.int 1)) (by rfl) (by rfl))) (Zh Z2 (Zc 1) (Zg (d:=(.int 2)) (by rfl) (by rfl)))) (Zh Z2 (Zc 1) (Zg (d:=(.int 3)) (by rfl) (by rfl)))))) Ym)
 (Z8 (Vk ZbI (Zc 2) (Ze (Zh ZcM (Zh Z2 (Zc 2) (Uu (Zg (d:=(.int 1)) (by rfl) (by rfl)))) (Zh YU (Zh Z2 (Zc 1) (Zg (d:=(.int 1)) (by rfl) (by rfl))) (Zg (d:=(.int 1)) (by rfl) (by rfl)))) Zl)))))))
theorem ZjN(T:Txt K mg t):FnOk P w K mg base CX0 1 t.a_Q3 t.d_Q3 ["marks", "kind", "one", "two", "three"] (spD ⟨t.c,K⟩ 5 ZhG):=by
 refine Yv (φ:=ZhF) T.p_Q3.f Zjp (by conv=>lhs;whnf) (by conv=>lhs;whnf) (λcdv A outer s H E hr => ?_) rfl rfl;refine⟨_,(Zo (Yh (i:=5) Jh (by rfl) (by first|exact Or.inl rfl|exact Or.inr rfl) (Z0 (Z1 (K:=K)) (pv 0) (ZB Yw (pv 2) (Yk (YV (K:=K)) (by rfl) T.n_len boot_len (Zd (pv 0) Zi))) (λ_ _=>rfl)))
 (Zo (Yj (Yr (YM (cA:=⟨t.c,K⟩) (hr.units)) (ZB Yw (pv 1) Zj) Zj (Yb _)) (Zo (Yh (i:=6) Jh (by rfl) (by first|exact Or.inl rfl|exact Or.inr rfl) (Z0 (Z1 (K:=K)) (Uq (Zd (ZB Yw (pv 3) Zj) (Zd (ZB Yw (pv 3) Zj) Zi))) (ZB Yw (pv 4) Zj) (λ_ _=>rfl)))
 (Zo (Yj (Yr (YM (cA:=⟨t.c,K⟩) (hr.units)) (ZB Yw (ZB XT (pv 4) Zj) Zj) Zj (Yb _)) (Zw (ZT (VY (Zd (Yp [103,97,112] (by decide +kernel)) (Zd (pv 5) (Zd (pv 6) (Zd X4 Zi))))))) Yi)
 (Zw (ZT (VY (Zd (Yp [103,97,112] (by decide +kernel)) (Zd (pv 5) (Zd (pv 6) (Zd (Yk (Zba (by rfl)) (by rfl) T.n_min boot_min (Zd Zj (Zd (ZB YT (pv 6) (ZB Yw (ZB XT (pv 4) Zj) Zj)) Zi))) Zi))))))))) Yi)
 (Zo (Yj (Yr (YM (cA:=⟨t.c,K⟩) (hr.units)) (ZB Yw (pv 1) Zj) Zj (Yb _)) (Zo (Yh (i:=7) Jh (by rfl) (by first|exact Or.inl rfl|exact Or.inr rfl) (ZB YT Zj (ZB Yw (pv 3) Zj)))
 (Zw (ZT (VY (Zd (Yp [110,101,118,101,114] (by decide +kernel)) (Zd (XI (K:=K) PySem.F.plainAttrs_str PySem.F.slot_str_join PySem.F.type_str_join (Zc6 (K:=K)) (Yp [] (by decide +kernel)) (Zd (X8 (by rfl) (CompSd.mk1 (tn:=["k"]) (cn:=["marks", "one"]) (js:=[0,2]) (osc:=defScope Jd) (oN:=["marks", "kind", "one", "two", "three", "mark", "lowest", "size", "worths", "every"]) (by rfl) (by rfl) (by rfl) (by decide +kernel)) (UJ (by rfl) T.n_range (Zd (pv 7) Zi)) (λC s₂ H₂ fp=>YH (i:=0) Zkt) (λC s₂ H₂ fp=>Xp) (λC s₂ H₂ fp=>(Z0 (Z1 (K:=K)) (pv 1) (ZB Yw (ZB XT (pv 2) (Z0 (Z1 (K:=K)) (Uq (Zd Zj (Zd Zj (Zd Zj (Zd Zj (Zd Zj (Zd Zj Zi))))))) (pv 0) (λ_ _=>rfl))) (Yk (YV (K:=K)) (by rfl) T.n_len boot_len (Zd (pv 1) Zi))) (λ_ _=>rfl)))) Zi)) Zi)))))) Yi)
 (Zo (Yj (Yr (YM (cA:=⟨t.c,K⟩) (hr.units)) (ZB Yw (pv 1) Zj) Zj (Yb _)) (Zo (Yh (i:=8) Jh (by rfl) (by first|exact Or.inl rfl|exact Or.inr rfl) (Uq (Zd (ZB Vv (ZB Yw (pv 2) Zj) Zj) (Zd (ZB Vv (ZB Yw (pv 3) Zj) Zj) (Zd (ZB Vv (ZB Yw (ZB XT (pv 2) Zj) Zj) Zj) (Zd (ZB Vv (ZB Yw (ZB XT (pv 3) Zj) Zj) Zj) Zi))))))
 (Zw (ZT (VY (Zd (Yp [115,117,109] (by decide +kernel)) (Zd (Vg (QE (K:=K)) (by rfl) T.n_tuple boot_tuple (Zd (Qy (QD (K:=K)) (pv 8) Qw (Qx (Yk (YV (K:=K)) (by rfl) T.n_len boot_len (Zd (pv 0) Zi)))) Zi)) (Zd (Uo Up (ZB Yw (pv 4) Zj)) (Zd (ZB Yw (ZB XT (pv 4) Zj) Zj) Zi)))))))) Yi)
 (Zo (Yj (Yr (YM (cA:=⟨t.c,K⟩) (hr.units)) (ZB Yw (pv 1) Zj) Zj (Yb _)) (Zo (Yh (i:=9) Jh (by rfl) (by first|exact Or.inl rfl|exact Or.inr rfl) (ZB YT Zj (ZB Yw (pv 3) Zj)))
 (Zw (ZT (VY (Zd (Yp [116,117,114,110] (by decide +kernel)) (Zd (pv 5) (Zd (pv 9) (Zd (ZB Yw (pv 4) (pv 9)) Zi)))))))) Yi)
 (Zw (ZT (VY (Zd (Yp [97,108,105,107,101] (by decide +kernel)) (Zd (ZB YT Zj (ZB Yw (pv 4) Zj)) Zi)))))))))),[],?_⟩
 unfold ZhF;exact(Zs (show VS _ _ [] _ _ _ _ from(Yl 5 (Zh Z2 (Zc 0) (Zh Yx (Zc 2) (Yt YW (Ze (Zc 0) Zl))))))
 (Zs (Yn (Ys (Zh YN (Zh Yx (Zc 1) (Zg (d:=(.int 5)) (by rfl) (by rfl))) (Zg (d:=(.int 0)) (by rfl) (by rfl)))) (Zs (show VS _ _ [] _ _ _ _ from(Yl 6 (Zh Z2 (VF.cl (Uv (Ze (Zh Yx (Zc 3) (Zg (d:=(.int 3)) (by rfl) (by rfl))) (Ze (Zh Yx (Zc 3) (Zg (d:=(.int 9)) (by rfl) (by rfl))) Zl)))) (Zh Yx (Zc 4) (Zg (d:=(.int 2)) (by rfl) (by rfl))))))
 (Zs (Yn (Ys (Zh YN (Zh Yx (Zh XX (Zc 4) (Zg (d:=(.int 2)) (by rfl) (by rfl))) (Zg (d:=(.int 3)) (by rfl) (by rfl))) (Zg (d:=(.int 0)) (by rfl) (by rfl)))) (Z8 (V0 (Ze (Zg (d:=(.str [103,97,112])) (by rfl) (by rfl)) (Ze (Zc 5) (Ze (Zc 6) (Ze (Zg (d:=.non) (by rfl) (by rfl)) Zl)))))) Ym)
 (Z8 (V0 (Ze (Zg (d:=(.str [103,97,112])) (by rfl) (by rfl)) (Ze (Zc 5) (Ze (Zc 6) (Ze (Yt ZeX (Ze (Zg (d:=(.int 8)) (by rfl) (by rfl)) (Ze (Zh YU (Zc 6) (Zh Yx (Zh XX (Zc 4) (Zg (d:=(.int 6)) (by rfl) (by rfl))) (Zg (d:=(.int 5)) (by rfl) (by rfl)))) Zl))) Zl)))))))) Ym)
 (Zs (Yn (Ys (Zh YN (Zh Yx (Zc 1) (Zg (d:=(.int 5)) (by rfl) (by rfl))) (Zg (d:=(.int 1)) (by rfl) (by rfl)))) (Zs (show VS _ _ [] _ _ _ _ from(Yl 7 (Zh YU (Zg (d:=(.int 1)) (by rfl) (by rfl)) (Zh Yx (Zc 3) (Zg (d:=(.int 6)) (by rfl) (by rfl))))))
 (Z8 (V0 (Ze (Zg (d:=(.str [110,101,118,101,114])) (by rfl) (by rfl)) (Ze (Vk Zc8 (Zg (d:=(.str [])) (by rfl) (by rfl)) (Ze (VF.cl (Xi (by rfl) (UV (Ze (Zc 7) Zl) UW) (Y4 0) Xq (Zh Z2 (Zc 1) (Zh Yx (Zh XX (Zc 2) (Zh Z2 (VF.cl (Uv (Ze (Zg (d:=(.int 1)) (by rfl) (by rfl)) (Ze (Zg (d:=(.int 3)) (by rfl) (by rfl)) (Ze (Zg (d:=(.int 7)) (by rfl) (by rfl)) (Ze (Zg (d:=(.int 11)) (by rfl) (by rfl)) (Ze (Zg (d:=(.int 17)) (by rfl) (by rfl)) (Ze (Zg (d:=(.int 23)) (by rfl) (by rfl)) Zl)))))))) (Zc 0))) (Yt YW (Ze (Zc 1) Zl)))))) Zl)) Zl))))) Ym)
 (Zs (Yn (Ys (Zh YN (Zh Yx (Zc 1) (Zg (d:=(.int 5)) (by rfl) (by rfl))) (Zg (d:=(.int 2)) (by rfl) (by rfl)))) (Zs (show VS _ _ [] _ _ _ _ from(Yl 8 (VF.cl (Uv (Ze (Zh Vy (Zh Yx (Zc 2) (Zg (d:=(.int 7)) (by rfl) (by rfl))) (Zg (d:=(.int 3)) (by rfl) (by rfl))) (Ze (Zh Vy (Zh Yx (Zc 3) (Zg (d:=(.int 7)) (by rfl) (by rfl))) (Zg (d:=(.int 3)) (by rfl) (by rfl))) (Ze (Zh Vy (Zh Yx (Zh XX (Zc 2) (Zg (d:=(.int 7)) (by rfl) (by rfl))) (Zg (d:=(.int 7)) (by rfl) (by rfl))) (Zg (d:=(.int 3)) (by rfl) (by rfl))) (Ze (Zh Vy (Zh Yx (Zh XX (Zc 3) (Zg (d:=(.int 7)) (by rfl) (by rfl))) (Zg (d:=(.int 7)) (by rfl) (by rfl))) (Zg (d:=(.int 3)) (by rfl) (by rfl))) Zl))))))))
 (Z8 (V0 (Ze (Zg (d:=(.str [115,117,109])) (by rfl) (by rfl)) (Ze (JJ (Ze (QK (Or.inl rfl) (Zc 8) QI (QJ (Yt YW (Ze (Zc 0) Zl)))) Zl)) (Ze (Uu (Zh Yx (Zc 4) (Zg (d:=(.int 9)) (by rfl) (by rfl)))) (Ze (Zh Yx (Zh XX (Zc 4) (Zg (d:=(.int 9)) (by rfl) (by rfl))) (Zg (d:=(.int 9)) (by rfl) (by rfl))) Zl))))))) Ym)
 (Zs (Yn (Ys (Zh YN (Zh Yx (Zc 1) (Zg (d:=(.int 5)) (by rfl) (by rfl))) (Zg (d:=(.int 3)) (by rfl) (by rfl)))) (Zs (show VS _ _ [] _ _ _ _ from(Yl 9 (Zh YU (Zg (d:=(.int 1)) (by rfl) (by rfl)) (Zh Yx (Zc 3) (Zg (d:=(.int 6)) (by rfl) (by rfl))))))
 (Z8 (V0 (Ze (Zg (d:=(.str [116,117,114,110])) (by rfl) (by rfl)) (Ze (Zc 5) (Ze (Zc 9) (Ze (Zh Yx (Zc 4) (Zc 9)) Zl))))))) Ym)
 (Z8 (V0 (Ze (Zg (d:=(.str [97,108,105,107,101])) (by rfl) (by rfl)) (Ze (Zh YU (Zg (d:=(.int 1)) (by rfl) (by rfl)) (Zh Yx (Zc 4) (Zg (d:=(.int 6)) (by rfl) (by rfl)))) Zl)))))))))
theorem ZjO(T:Txt K mg t):FnOk P w K mg base CX0 5 t.a_Q0 t.d_Q0 ["marks", "rule"] (spD ⟨t.c,K⟩ 2 Xk):=by
 have GM_QN:=(ZjG (P:=P) (w:=w) (base:=base) T).mono (k:=3) (by decide);have GM_Q8:=(ZjC (P:=P) (w:=w) (base:=base) T).mono (k:=3) (by decide);have GM_QQ:=(ZjD (P:=P) (w:=w) (base:=base) T).mono (k:=3) (by decide);have GM_Q4:=(ZjE (P:=P) (w:=w) (base:=base) T).mono (k:=3) (by decide);have GM_QZ:=(ZjF (P:=P) (w:=w) (base:=base) T).mono (k:=3) (by decide)
 refine Yv (φ:=VQ) T.p_Q0.f Zjq (by conv=>lhs;whnf) (by conv=>lhs;whnf) (λcdv A outer s H E hr => ?_) rfl rfl;refine⟨_,(Zo (Yj (Yr (YM (cA:=⟨t.c,K⟩) (hr.units)) (Z0 (Z1 (K:=K)) (pv 1) Zj (λ_ _=>rfl)) (Yp [103,97,112] (by decide +kernel)) (Yb _)) (Zo (Yj (VV (Vu (Z0 (Z1 (K:=K)) (pv 1) Zj (λ_ _=>rfl)))) (Zw (ZT (Us T.mk_Gap (GM_Q8) hr (by rfl) T.g_Gap T.b1_Gap_init (.cons (show RelV .non Value.none from rfl) .nil) ZR (Zd (pv 0) (Zd (Z0 (Z1 (K:=K)) (pv 1) Zj (λ_ _=>rfl)) (Zd (Z0 (Z1 (K:=K)) (pv 1) Zj (λ_ _=>rfl)) Zi)))))) Yi)
 (Zw (ZT (Us T.mk_Gap (GM_Q8) hr (by rfl) T.g_Gap T.b_Q8 .nil ZR (Zd (pv 0) (Zd (Z0 (Z1 (K:=K)) (pv 1) Zj (λ_ _=>rfl)) (Zd (Z0 (Z1 (K:=K)) (pv 1) Zj (λ_ _=>rfl)) (Zd (Z0 (Z1 (K:=K)) (pv 1) Zj (λ_ _=>rfl)) Zi)))))))) Yi)
 (Zo (Yj (Yr (YM (cA:=⟨t.c,K⟩) (hr.units)) (Z0 (Z1 (K:=K)) (pv 1) Zj (λ_ _=>rfl)) (Yp [110,101,118,101,114] (by decide +kernel)) (Yb _)) (Zw (ZT (Us T.mk_Never (GM_QQ) hr (by rfl) T.g_Never T.p_QQ.b .nil ZR (Zd (pv 0) (Zd (Z0 (Z1 (K:=K)) (pv 1) Zj (λ_ _=>rfl)) Zi))))) Yi)
 (Zo (Yj (Yr (YM (cA:=⟨t.c,K⟩) (hr.units)) (Z0 (Z1 (K:=K)) (pv 1) Zj (λ_ _=>rfl)) (Yp [115,117,109] (by decide +kernel)) (Yb _)) (Zw (ZT (Us T.mk_Sum (GM_Q4) hr (by rfl) T.g_Sum T.p_Q4.b .nil ZR (Zd (pv 0) (Zd (Z0 (Z1 (K:=K)) (pv 1) Zj (λ_ _=>rfl)) (Zd (Z0 (Z1 (K:=K)) (pv 1) Zj (λ_ _=>rfl)) (Zd (Z0 (Z1 (K:=K)) (pv 1) Zj (λ_ _=>rfl)) Zi))))))) Yi)
 (Zo (Yj (Yr (YM (cA:=⟨t.c,K⟩) (hr.units)) (Z0 (Z1 (K:=K)) (pv 1) Zj (λ_ _=>rfl)) (Yp [116,117,114,110] (by decide +kernel)) (Yb _)) (Zw (ZT (Us T.mk_Turn (GM_QZ) hr (by rfl) T.g_Turn T.p_QZ.b .nil ZR (Zd (pv 0) (Zd (Z0 (Z1 (K:=K)) (pv 1) Zj (λ_ _=>rfl)) (Zd (Z0 (Z1 (K:=K)) (pv 1) Zj (λ_ _=>rfl)) (Zd (Z0 (Z1 (K:=K)) (pv 1) Zj (λ_ _=>rfl)) Zi))))))) Yi)
 (Zw (ZT (Us T.mk_Alike (GM_QN) hr (by rfl) T.g_Alike T.p_QN.b .nil ZR (Zd (pv 0) (Zd (Z0 (Z1 (K:=K)) (pv 1) Zj (λ_ _=>rfl)) Zi))))))))),[],?_⟩
 unfold VQ;exact(Zs (Yn (Ys (Zh YN (Zh Z2 (Zc 1) (Zg (d:=(.int 0)) (by rfl) (by rfl))) (Zg (d:=(.str [103,97,112])) (by rfl) (by rfl)))) (Zs (Yn (Y3 (VB (Zh Z2 (Zc 1) (Zg (d:=(.int 3)) (by rfl) (by rfl))))) (Z8 (U0 (c:="Gap") [.non] (by rfl) (Ze (Zc 0) (Ze (Zh Z2 (Zc 1) (Zg (d:=(.int 1)) (by rfl) (by rfl))) (Ze (Zh Z2 (Zc 1) (Zg (d:=(.int 2)) (by rfl) (by rfl))) Zl))))) Ym)
 (Z8 (U0 (c:="Gap") [] (by rfl) (Ze (Zc 0) (Ze (Zh Z2 (Zc 1) (Zg (d:=(.int 1)) (by rfl) (by rfl))) (Ze (Zh Z2 (Zc 1) (Zg (d:=(.int 2)) (by rfl) (by rfl))) (Ze (Zh Z2 (Zc 1) (Zg (d:=(.int 3)) (by rfl) (by rfl))) Zl))))))) Ym)
 (Zs (Yn (Ys (Zh YN (Zh Z2 (Zc 1) (Zg (d:=(.int 0)) (by rfl) (by rfl))) (Zg (d:=(.str [110,101,118,101,114])) (by rfl) (by rfl)))) (Z8 (U0 (c:="Never") [] (by rfl) (Ze (Zc 0) (Ze (Zh Z2 (Zc 1) (Zg (d:=(.int 1)) (by rfl) (by rfl))) Zl)))) Ym)
 (Zs (Yn (Ys (Zh YN (Zh Z2 (Zc 1) (Zg (d:=(.int 0)) (by rfl) (by rfl))) (Zg (d:=(.str [115,117,109])) (by rfl) (by rfl)))) (Z8 (U0 (c:="Sum") [] (by rfl) (Ze (Zc 0) (Ze (Zh Z2 (Zc 1) (Zg (d:=(.int 1)) (by rfl) (by rfl))) (Ze (Zh Z2 (Zc 1) (Zg (d:=(.int 2)) (by rfl) (by rfl))) (Ze (Zh Z2 (Zc 1) (Zg (d:=(.int 3)) (by rfl) (by rfl))) Zl)))))) Ym)
 (Zs (Yn (Ys (Zh YN (Zh Z2 (Zc 1) (Zg (d:=(.int 0)) (by rfl) (by rfl))) (Zg (d:=(.str [116,117,114,110])) (by rfl) (by rfl)))) (Z8 (U0 (c:="Turn") [] (by rfl) (Ze (Zc 0) (Ze (Zh Z2 (Zc 1) (Zg (d:=(.int 1)) (by rfl) (by rfl))) (Ze (Zh Z2 (Zc 1) (Zg (d:=(.int 2)) (by rfl) (by rfl))) (Ze (Zh Z2 (Zc 1) (Zg (d:=(.int 3)) (by rfl) (by rfl))) Zl)))))) Ym)
 (Z8 (U0 (c:="Alike") [] (by rfl) (Ze (Zc 0) (Ze (Zh Z2 (Zc 1) (Zg (d:=(.int 1)) (by rfl) (by rfl))) Zl))))))))
theorem ZjP(T:Txt K mg t):FnOk P w K mg base CX0 2 t.a_QS t.d_QS ["script", "marks"] (spD ⟨t.c,K⟩ 2 ZhI):=by
 have G_QD:=(Zgz (P:=P) (w:=w) (base:=base) T).mono (k:=1) (by decide);have G_Q3:=(ZjN (P:=P) (w:=w) (base:=base) T).mono (k:=1) (by decide);refine Yv (φ:=ZhH) T.p_QS.f Zjr (by conv=>lhs;whnf) (by conv=>lhs;whnf) (λcdv A outer s H E hr => ?_) rfl rfl;refine⟨_,(Zo (Yh (i:=2) Zid (by rfl) (by first|exact Or.inl rfl|exact Or.inr rfl) (Uq Zi))
 (Zo ((UK PassesOwn.never (by rfl) (UJ (by rfl) T.n_range (Zd (ZB Yw (Yc (G_QD) hr (by rfl) T.p_QD.g T.p_QD.k T.p_QD.b .nil ZR (Zd (pv 0) (Zd Zj Zi))) Zj) Zi)) (YH (i:=3) Zid) (Zo (QS (i:=4) Zid (by rfl) (by rfl) (by rfl) (CompSd.mk1 (tn:=["step"]) (cn:=["script", "k"]) (js:=[0,3]) (osc:=defScope Je) (oN:=["script", "marks", "rules", "k", "cells", "kind"]) (by rfl) (by rfl) (by rfl) (by decide +kernel)) (UJ (by rfl) T.n_range (Zd Zj Zi)) (λC s₂ H₂ fp=>YH (i:=0) Zku) (λC s₂ H₂ fp=>Xp) (λC s₂ H₂ fp=>(Yc (G_QD) hr (by rfl) T.p_QD.g T.p_QD.k T.p_QD.b .nil ZR (Zd (pv 1) (Zd (ZB YT (ZB YT Zj (ZB ZbF Zj (pv 2))) (pv 0)) Zi)))))
 (Zo (Yh (i:=5) Zid (by rfl) (by first|exact Or.inl rfl|exact Or.inr rfl) (ZB YT (ZB XT (Z0 (Z1 (K:=K)) (pv 4) Zj (λ_ _=>rfl)) Zj) (ZB XT (Z0 (Z1 (K:=K)) (pv 4) Zj (λ_ _=>rfl)) Zj)))
 (Zw (YE (XI (K:=K) PySem.F.plainAttrs_list PySem.F.slot_list_append PySem.F.type_list_append Zau (pv 2) (Zd (Yc (G_Q3) hr (by rfl) T.p_Q3.g T.p_Q3.k T.p_Q3.b .nil ZR (Zd (pv 1) (Zd (pv 5) (Zd (Z0 (Z1 (K:=K)) (pv 4) Zj (λ_ _=>rfl)) (Zd (Z0 (Z1 (K:=K)) (pv 4) Zj (λ_ _=>rfl)) (Zd (Z0 (Z1 (K:=K)) (pv 4) Zj (λ_ _=>rfl)) Zi)))))) Zi))))))))
 (Zw (ZT (pv 2))))),[],?_⟩
 unfold ZhH;exact(Zs (show VS _ _ [2] _ _ _ _ from(ZbG 2 (Uv Zl)))
 (Zs (UU (UV (Ze (Zh Yx (Yd [] (by rfl) (Ze (Zc 0) (Ze (Zg (d:=(.int 1)) (by rfl) (by rfl)) Zl))) (Zg (d:=(.int 7)) (by rfl) (by rfl))) Zl) UW) (Y4 3) (Zs (show VS _ _ [2] _ _ _ _ from(Yl 4 (VF.cl (Xi (by rfl) (UV (Ze (Zg (d:=(.int 3)) (by rfl) (by rfl)) Zl) UW) (Y4 0) Xq (Yd [] (by rfl) (Ze (Zc 1) (Ze (Zh YU (Zh YU (Zg (d:=(.int 3)) (by rfl) (by rfl)) (Zh ZcM (Zg (d:=(.int 3)) (by rfl) (by rfl)) (Zc 2))) (Zc 0)) Zl)))))))
 (Zs (show VS _ _ [2] _ _ _ _ from(Yl 5 (Zh YU (Zh XX (Zh Z2 (Zc 4) (Zg (d:=(.int 0)) (by rfl) (by rfl))) (Zg (d:=(.int 7)) (by rfl) (by rfl))) (Zh XX (Zh Z2 (Zc 4) (Zg (d:=(.int 1)) (by rfl) (by rfl))) (Zg (d:=(.int 60)) (by rfl) (by rfl))))))
 (ZeY 2 (by rfl) (Yd [] (by rfl) (Ze (Zc 1) (Ze (Zc 5) (Ze (Zh Z2 (Zc 4) (Zg (d:=(.int 0)) (by rfl) (by rfl))) (Ze (Zh Z2 (Zc 4) (Zg (d:=(.int 1)) (by rfl) (by rfl))) (Ze (Zh Z2 (Zc 4) (Zg (d:=(.int 2)) (by rfl) (by rfl))) Zl))))))))))
 (VS.frz (ow1:=[]) 2 (Z8 (Zc 2)))))
theorem ZjQ(T:Txt K mg t):FnOk P w K mg base CX0 3 t.a_Q7 t.d_Q7 ["marks", "rules", "row"] (spD ⟨t.c,K⟩ 3 Ug):=by
 have G_QH:=(ZjM (P:=P) (w:=w) (base:=base) T).mono (k:=2) (by decide);refine Yv (φ:=ZiF) T.p_Q7.f Zjs (by conv=>lhs;whnf) (by conv=>lhs;whnf) (λcdv A outer s H E hr => ?_) rfl rfl;refine⟨_,(Zw (ZT (Yk (Zgh (K:=K)) (by rfl) T.n_any boot_any (Zd (X8 (by rfl) (CompSd.mk1 (tn:=["rule"]) (cn:=["marks", "row"]) (js:=[0,2]) (osc:=defScope Jf) (oN:=["marks", "rules", "row"]) (by rfl) (by rfl) (by rfl) (by decide +kernel)) (XH (K:=K) (pv 1)) (λC s₂ H₂ fp=>YH (i:=0) Zkv) (λC s₂ H₂ fp=>Xp) (λC s₂ H₂ fp=>(Yc (G_QH) hr (by rfl) T.p_QH.g T.p_QH.k T.p_QH.b .nil ZR (Zd (pv 1) (Zd (pv 0) (Zd (pv 2) Zi)))))) Zi)))),[],?_⟩
 unfold ZiF;exact(Z8 (Yt US (Ze (VF.cl (Xi (by rfl) (XN (Zc 1)) (Y4 0) Xq (Yd [] (by rfl) (Ze (Zc 1) (Ze (Zc 0) (Ze (Zc 2) Zl)))))) Zl)))
theorem ZjR(T:Txt K mg t):FnOk P w K mg base CX0 4 t.a_Q9 t.d_Q9 ["script", "marks", "rules"] (spD ⟨t.c,K⟩ 3 ZhK):=by
 have G_Q7:=(ZjQ (P:=P) (w:=w) (base:=base) T).mono (k:=3) (by decide);refine Yv (φ:=ZhJ) T.p_Q9.f Zjt (by conv=>lhs;whnf) (by conv=>lhs;whnf) (λcdv A outer s H E hr => ?_) rfl rfl;refine⟨_,(Zo (Yh (i:=3) UE (by rfl) (by first|exact Or.inl rfl|exact Or.inr rfl) (Yp [] (by decide +kernel)))
 (Zo ((UK PassesOwn.never (by rfl) (XH (K:=K) (Qy (QD (K:=K)) (pv 0) Qw (Qx Zj))) (YH (i:=4) UE) (Zo (Yh (i:=5) UE (by rfl) (by first|exact Or.inl rfl|exact Or.inr rfl) (ZB YT (pv 3) (Z0 (Z1 (K:=K)) (pv 1) (ZB Yw (ZB XT (pv 4) Zj) (Yk (YV (K:=K)) (by rfl) T.n_len boot_len (Zd (pv 1) Zi))) (λ_ _=>rfl))))
 (Zo ((UK PassesOwn.never (by rfl) (UJ (by rfl) T.n_range (Zd (Yk (YV (K:=K)) (by rfl) T.n_len boot_len (Zd (pv 1) Zi)) Zi)) (YH (i:=6) UE) (Zo (Yh (i:=7) UE (by rfl) (by first|exact Or.inl rfl|exact Or.inr rfl) (ZB YT (pv 3) (Z0 (Z1 (K:=K)) (pv 1) (ZB Yw (ZB YT (ZB XT (pv 4) Zj) (pv 6)) (Yk (YV (K:=K)) (by rfl) T.n_len boot_len (Zd (pv 1) Zi))) (λ_ _=>rfl))))
 (Zw (Yj (PW.pt (Jn (Yr Jt (ZB Yw (pv 4) Zj) Zj (Yb _)) (Jm (Vb (XS (Yc (G_Q7) hr (by rfl) T.p_Q7.g T.p_Q7.k T.p_Q7.b .nil ZR (Zd (pv 1) (Zd (pv 2) (Zd (pv 7) Zi))))))))) (Zo (Yh (i:=5) UE (by rfl) (by first|exact Or.inl rfl|exact Or.inr rfl) (pv 7))
 (Zw ZaU)) Yi)))))
 (Zo (Yh (i:=3) UE (by rfl) (by first|exact Or.inl rfl|exact Or.inr rfl) (pv 5))
 (Zw (Yj (XS (Yc (G_Q7) hr (by rfl) T.p_Q7.g T.p_Q7.k T.p_Q7.b .nil ZR (Zd (pv 1) (Zd (pv 2) (Zd (pv 3) Zi))))) (Zw ZaU) Yi)))))))
 (Zw (ZT (pv 3))))),[],?_⟩
 unfold ZhJ;exact(Zs (show VS _ _ [] _ _ _ _ from(Yl 3 (Zg (d:=(.str [])) (by rfl) (by rfl))))
 (Zs (UU (XN (QK (Or.inl rfl) (Zc 0) QI (QJ (Zg (d:=(.int 80)) (by rfl) (by rfl))))) (Y4 4) (Zs (show VS _ _ [] _ _ _ _ from(Yl 5 (Zh YU (Zc 3) (Zh Z2 (Zc 1) (Zh Yx (Zh XX (Zc 4) (Zg (d:=(.int 7)) (by rfl) (by rfl))) (Yt YW (Ze (Zc 1) Zl)))))))
 (Zs (UU (UV (Ze (Yt YW (Ze (Zc 1) Zl)) Zl) UW) (Y4 6) (Zs (show VS _ _ [] _ _ _ _ from(Yl 7 (Zh YU (Zc 3) (Zh Z2 (Zc 1) (Zh Yx (Zh YU (Zh XX (Zc 4) (Zg (d:=(.int 7)) (by rfl) (by rfl))) (Zc 6)) (Yt YW (Ze (Zc 1) Zl)))))))
 (Yn (JF (Ys (Zh XJ (Zh Yx (Zc 4) (Zg (d:=(.int 6)) (by rfl) (by rfl))) (Zg (d:=(.int 0)) (by rfl) (by rfl)))) (Vz (Y3 (Yd [] (by rfl) (Ze (Zc 1) (Ze (Zc 2) (Ze (Zc 7) Zl))))))) (Zs (show VS _ _ [] _ _ _ _ from(Yl 5 (Zc 7)))
 ZaY) Ym)))
 (Zs (show VS _ _ [] _ _ _ _ from(Yl 3 (Zc 5)))
 (Yn (Y3 (Yd [] (by rfl) (Ze (Zc 1) (Ze (Zc 2) (Ze (Zc 3) Zl))))) ZaY Ym)))))
 (Z8 (Zc 3))))
theorem ZjS(T:Txt K mg t):FnOk P w K mg base CX0 5 t.a_QG t.d_QG ["singles", "states", "mark"] (spD ⟨t.c,K⟩ 3 ZhL):=by
 have G_Q2:=(Zfr (P:=P) (w:=w) (base:=base) T).mono (k:=4) (by decide);refine Yv (φ:=ZiG) T.p_QG.f Zju (by conv=>lhs;whnf) (by conv=>lhs;whnf) (λcdv A outer s H E hr => ?_) rfl rfl;refine⟨_,(Zw (ZT (X8 (by rfl) (CompSd.mk1 (tn:=["k", "single"]) (cn:=["states", "mark"]) (js:=[1,2]) (osc:=defScope Jg) (oN:=["singles", "states", "mark"]) (by rfl) (by rfl) (by rfl) (by decide +kernel)) (Zet (K:=K) (by rfl) T.n_enumerate (pv 0)) (λC s₂ H₂ fp=>Zfk (K:=K) (n:=2) (UI (YH (i:=0) Zkf) (UI (YH (i:=1) Zkf) ZbB))) (λC s₂ H₂ fp=>Xp) (λC s₂ H₂ fp=>(X7 (cA:=⟨t.c,K⟩) (tab:=tab_step) (m:="step") ⟨⟨t.a_Q2,t.d_Q2,["self", "state", "mark"],T.cl_Rule,T.me_Rule_step,G_Q2,T.p_Q2.b⟩,⟨⟨t.a_Q2,t.d_Q2,["self", "state", "mark"],T.cl_Gap,T.me_Gap_step,G_Q2,T.p_Q2.b⟩,⟨⟨t.a_Q2,t.d_Q2,["self", "state", "mark"],T.cl_Never,T.me_Never_step,G_Q2,T.p_Q2.b⟩,⟨⟨t.a_Q2,t.d_Q2,["self", "state", "mark"],T.cl_Sum,T.me_Sum_step,G_Q2,T.p_Q2.b⟩,⟨⟨t.a_Q2,t.d_Q2,["self", "state", "mark"],T.cl_Turn,T.me_Turn_step,G_Q2,T.p_Q2.b⟩,⟨⟨t.a_Q2,t.d_Q2,["self", "state", "mark"],T.cl_Alike,T.me_Alike_step,G_Q2,T.p_Q2.b⟩,⟨⟨t.a_Q2,t.d_Q2,["self", "state", "mark"],T.cl_All,T.me_All_step,G_Q2,T.p_Q2.b⟩,trivial⟩⟩⟩⟩⟩⟩⟩ hr (pv 1) (Zd (Z0 (Z1 (K:=K)) (pv 2) (pv 0) (λ_ _=>rfl)) (Zd (pv 3) Zi))))))),[],?_⟩
 unfold ZiG;exact(Z8 (VF.cl (Xi (by rfl) (Zeu (Zc 0)) (ZcN (UT 0 (by rfl) (by rfl) (UT 1 (by rfl) (by rfl) ZbH))) Xq (Xu (Zc 1) (Ze (Zh Z2 (Zc 2) (Zc 0)) (Ze (Zc 3) Zl))))))
theorem ZjT(T:Txt K mg t):FnOk P w K mg base CX0 7 t.a_Qc t.d_Qc ["script"] (spD ⟨t.c,K⟩ 1 ZhN):=by
 have GM_Q6:=(ZjH (P:=P) (w:=w) (base:=base) T).mono (k:=5) (by decide);have G_QM:=(Zfq (P:=P) (w:=w) (base:=base) T).mono (k:=6) (by decide);have G_Q1:=(Zfs (P:=P) (w:=w) (base:=base) T).mono (k:=6) (by decide);have G_QK:=(Zft (P:=P) (w:=w) (base:=base) T).mono (k:=6) (by decide);have G_QX:=(Zgx (P:=P) (w:=w) (base:=base) T).mono (k:=6) (by decide)
 have G_QB:=(Zgy (P:=P) (w:=w) (base:=base) T).mono (k:=6) (by decide);have G_QO:=(ZjB (P:=P) (w:=w) (base:=base) T).mono (k:=6) (by decide);have G_Q2:=(Zfr (P:=P) (w:=w) (base:=base) T).mono (k:=6) (by decide);have G_QA:=(ZjI (P:=P) (w:=w) (base:=base) T).mono (k:=6) (by decide);have G_QG:=(ZjS (P:=P) (w:=w) (base:=base) T).mono (k:=6) (by decide)
 have G_QD:=(Zgz (P:=P) (w:=w) (base:=base) T).mono (k:=6) (by decide);have G_Q0:=(ZjO (P:=P) (w:=w) (base:=base) T).mono (k:=6) (by decide);have G_QT:=(ZjJ (P:=P) (w:=w) (base:=base) T).mono (k:=6) (by decide);have G_Q9:=(ZjR (P:=P) (w:=w) (base:=base) T).mono (k:=6) (by decide);have G_QS:=(ZjP (P:=P) (w:=w) (base:=base) T).mono (k:=6) (by decide)
 refine Yv (φ:=ZhM) T.p_Qc.f Zjv (by conv=>lhs;whnf) (by conv=>lhs;whnf) (λcdv A outer s H E hr => ?_) rfl rfl;refine⟨_,(Zo (Yh (i:=1) Xl (by rfl) (by first|exact Or.inl rfl|exact Or.inr rfl) (Yc (G_QT) hr (by rfl) T.p_QT.g T.p_QT.k T.p_QT.b .nil ZR (Zd (Yc (G_QD) hr (by rfl) T.p_QD.g T.p_QD.k T.p_QD.b .nil ZR (Zd (pv 0) (Zd Zj Zi))) Zi)))
 (Zo (Yh (i:=2) Xl (by rfl) (by first|exact Or.inl rfl|exact Or.inr rfl) (Yc (G_QS) hr (by rfl) T.p_QS.g T.p_QS.k T.p_QS.b .nil ZR (Zd (pv 0) (Zd (pv 1) Zi))))
 (Zo (Yh (i:=3) Xl (by rfl) (by first|exact Or.inl rfl|exact Or.inr rfl) (Yc (G_Q9) hr (by rfl) T.p_Q9.g T.p_Q9.k T.p_Q9.b .nil ZR (Zd (pv 0) (Zd (pv 1) (Zd (pv 2) Zi)))))
 (Zo (QS (i:=4) Xl (by rfl) (by rfl) (by rfl) (CompSd.mk1 (tn:=["rule"]) (cn:=["marks"]) (js:=[1]) (osc:=defScope Uh) (oN:=["script", "marks", "rules", "row", "handed", "singles", "made", "kept", "found", "state", "states", "broken", "at", "lowest"]) (by rfl) (by rfl) (by rfl) (by decide +kernel)) (XH (K:=K) (pv 2)) (λC s₂ H₂ fp=>YH (i:=0) nd8) (λC s₂ H₂ fp=>Xp) (λC s₂ H₂ fp=>(Yc (G_Q0) hr (by rfl) T.p_Q0.g T.p_Q0.k T.p_Q0.b .nil ZR (Zd (pv 1) (Zd (pv 0) Zi)))))
 (Zo (QS (i:=5) Xl (by rfl) (by rfl) (by rfl) (CompSd.mk1 (tn:=["rule"]) (cn:=["marks"]) (js:=[1]) (osc:=defScope Uh) (oN:=["script", "marks", "rules", "row", "handed", "singles", "made", "kept", "found", "state", "states", "broken", "at", "lowest"]) (by rfl) (by rfl) (by rfl) (by decide +kernel)) (XH (K:=K) (pv 2)) (λC s₂ H₂ fp=>YH (i:=0) nd8) (λC s₂ H₂ fp=>Xp) (λC s₂ H₂ fp=>(Yc (G_Q0) hr (by rfl) T.p_Q0.g T.p_Q0.k T.p_Q0.b .nil ZR (Zd (pv 1) (Zd (pv 0) Zi)))))
 (Zo (Yh (i:=6) Xl (by rfl) (by first|exact Or.inl rfl|exact Or.inr rfl) (Us T.mk_All GM_Q6 hr (by rfl) T.g_All T.p_Q6.b .nil ZR (Zd (pv 1) (Zd (pv 4) Zi))))
 (Zo (Yh (i:=7) Xl (by rfl) (by first|exact Or.inl rfl|exact Or.inr rfl) (Vg (JW (K:=K)) (by rfl) T.n_list boot_list (Zd (pv 4) Zi)))
 (Zo (YE (ZiS (K:=K) PySem.F.plainAttrs_list PySem.F.slot_list_clear PySem.F.type_list_clear Zd7 (pv 4)))
 (Zo (Yh (i:=8) Xl (by rfl) (by first|exact Or.inl rfl|exact Or.inr rfl) (Zb6 (pv 6) T.cl_All T.me_All_rules_told G_QA hr T.p_QA.b .nil ZR))
 (Zo (Yj (PW.pt (UG (Vb (XS (Yk (UX (K:=K)) (by rfl) T.n_isinstance boot_isinstance (Zd (pv 8) (Zd (Qq (v:=.ty "list") (by rfl) T.n_list boot_list rfl) Zi))))) (UF (Yr (ZfS (K:=K) hr.units) (pv 8) (pv 7) (Yb _))))) (Zw (ZT Uj)) Yi)
 (Zo (YE (XI (K:=K) PySem.F.plainAttrs_list PySem.F.slot_list_append PySem.F.type_list_append Zau (pv 8) (Zd (pv 6) Zi)))
 (Zo (Yh (i:=9) Xl (by rfl) (by first|exact Or.inl rfl|exact Or.inr rfl) (JQ (cA:=⟨t.c,K⟩) (tab:=tab_begin) (m:="begin") ⟨⟨t.a_QM,t.d_QM,["self"],T.cl_Rule,T.me_Rule_begin,G_QM,T.p_QM.b⟩,⟨⟨t.a_Q1,t.d_Q1,["self"],T.cl_Gap,T.me_Gap_begin,G_Q1,T.p_Q1.b⟩,⟨⟨t.a_QM,t.d_QM,["self"],T.cl_Never,T.me_Never_begin,G_QM,T.p_QM.b⟩,⟨⟨t.a_QM,t.d_QM,["self"],T.cl_Sum,T.me_Sum_begin,G_QM,T.p_QM.b⟩,⟨⟨t.a_QM,t.d_QM,["self"],T.cl_Turn,T.me_Turn_begin,G_QM,T.p_QM.b⟩,⟨⟨t.a_QK,t.d_QK,["self"],T.cl_Alike,T.me_Alike_begin,G_QK,T.p_QK.b⟩,⟨⟨t.a_QX,t.d_QX,["self"],T.cl_All,T.me_All_begin,G_QX,T.p_QX.b⟩,trivial⟩⟩⟩⟩⟩⟩⟩ hr (pv 6)))
 (Zo (QS (i:=10) Xl (by rfl) (by rfl) (by rfl) (CompSd.mk1 (tn:=["single"]) (cn:=[]) (js:=[]) (osc:=defScope Uh) (oN:=["script", "marks", "rules", "row", "handed", "singles", "made", "kept", "found", "state", "states", "broken", "at", "lowest"]) (by rfl) (by rfl) (by rfl) (by decide +kernel)) (XH (K:=K) (pv 5)) (λC s₂ H₂ fp=>YH (i:=0) Zkw) (λC s₂ H₂ fp=>Xp) (λC s₂ H₂ fp=>(JQ (cA:=⟨t.c,K⟩) (tab:=tab_begin) (m:="begin") ⟨⟨t.a_QM,t.d_QM,["self"],T.cl_Rule,T.me_Rule_begin,G_QM,T.p_QM.b⟩,⟨⟨t.a_Q1,t.d_Q1,["self"],T.cl_Gap,T.me_Gap_begin,G_Q1,T.p_Q1.b⟩,⟨⟨t.a_QM,t.d_QM,["self"],T.cl_Never,T.me_Never_begin,G_QM,T.p_QM.b⟩,⟨⟨t.a_QM,t.d_QM,["self"],T.cl_Sum,T.me_Sum_begin,G_QM,T.p_QM.b⟩,⟨⟨t.a_QM,t.d_QM,["self"],T.cl_Turn,T.me_Turn_begin,G_QM,T.p_QM.b⟩,⟨⟨t.a_QK,t.d_QK,["self"],T.cl_Alike,T.me_Alike_begin,G_QK,T.p_QK.b⟩,⟨⟨t.a_QX,t.d_QX,["self"],T.cl_All,T.me_All_begin,G_QX,T.p_QX.b⟩,trivial⟩⟩⟩⟩⟩⟩⟩ hr (pv 0))))
 (Zo (Yh (i:=11) Xl (by rfl) (by first|exact Or.inl rfl|exact Or.inr rfl) X4)
 (Zo ((UK PassesOwn.never (by rfl) (UJ (by rfl) T.n_range (Zd (Yk (YV (K:=K)) (by rfl) T.n_len boot_len (Zd (pv 3) Zi)) Zi)) (YH (i:=12) Xl) (Zo (Yj (PW.pt (UG (Vb (XS (Yk (UX (K:=K)) (by rfl) T.n_isinstance boot_isinstance (Zd (pv 9) (Zd (Qq (v:=.ty "tuple") (by rfl) T.n_tuple boot_tuple rfl) Zi))))) (UF (Yr (UP (cA:=⟨t.c,K⟩) (hr.units)) (Vg (JW (K:=K)) (by rfl) T.n_list boot_list (Zd (pv 9) Zi)) (pv 10) (Yb _))))) (Zw (ZT Uj)) Yi)
 (Zo (Yh (i:=10) Xl (by rfl) (by first|exact Or.inl rfl|exact Or.inr rfl) (Yc (G_QG) hr (by rfl) T.p_QG.g T.p_QG.k T.p_QG.b .nil ZR (Zd (pv 5) (Zd (pv 10) (Zd (Z0 (Z1 (K:=K)) (pv 3) (pv 12) (λ_ _=>rfl)) Zi)))))
 (Zo (Yh (i:=9) Xl (by rfl) (by first|exact Or.inl rfl|exact Or.inr rfl) (X7 (cA:=⟨t.c,K⟩) (tab:=tab_step) (m:="step") ⟨⟨t.a_Q2,t.d_Q2,["self", "state", "mark"],T.cl_Rule,T.me_Rule_step,G_Q2,T.p_Q2.b⟩,⟨⟨t.a_Q2,t.d_Q2,["self", "state", "mark"],T.cl_Gap,T.me_Gap_step,G_Q2,T.p_Q2.b⟩,⟨⟨t.a_Q2,t.d_Q2,["self", "state", "mark"],T.cl_Never,T.me_Never_step,G_Q2,T.p_Q2.b⟩,⟨⟨t.a_Q2,t.d_Q2,["self", "state", "mark"],T.cl_Sum,T.me_Sum_step,G_Q2,T.p_Q2.b⟩,⟨⟨t.a_Q2,t.d_Q2,["self", "state", "mark"],T.cl_Turn,T.me_Turn_step,G_Q2,T.p_Q2.b⟩,⟨⟨t.a_Q2,t.d_Q2,["self", "state", "mark"],T.cl_Alike,T.me_Alike_step,G_Q2,T.p_Q2.b⟩,⟨⟨t.a_Q2,t.d_Q2,["self", "state", "mark"],T.cl_All,T.me_All_step,G_Q2,T.p_Q2.b⟩,trivial⟩⟩⟩⟩⟩⟩⟩ hr (pv 6) (Zd (pv 9) (Zd (Z0 (Z1 (K:=K)) (pv 3) (pv 12) (λ_ _=>rfl)) Zi))))
 (Zw (Yj (Yr (Zg6 (cA:=⟨t.c,K⟩) hr.units) X4 (pv 10) (by rfl)) (Zo (Yh (i:=11) Xl (by rfl) (by first|exact Or.inl rfl|exact Or.inr rfl) (pv 12))
 (Zw ZaU)) Yi)))))))
 (Zo (Yj (PW.pt (Jn (VV (Vu (pv 11))) (Jm (PW.pt (UG (Vb (XS (Yk (UX (K:=K)) (by rfl) T.n_isinstance boot_isinstance (Zd (pv 9) (Zd (Qq (v:=.ty "tuple") (by rfl) T.n_tuple boot_tuple rfl) Zi))))) (UF (Yr (UP (cA:=⟨t.c,K⟩) (hr.units)) (Vg (JW (K:=K)) (by rfl) T.n_list boot_list (Zd (pv 9) Zi)) (pv 10) (Yb _)))))))) (Zw (ZT Uj)) Yi)
 (Zo (Yj (PW.pt (Jn (VV (Jl (pv 11))) (Jm (VV (Jl (pv 9)))))) (Zw (ZT Uj)) Yi)
 (Zo (Yj (PW.pt (UG (Yr (UP (cA:=⟨t.c,K⟩) (hr.units)) (X7 (cA:=⟨t.c,K⟩) (tab:=tab_broken_at) (m:="broken_at") ⟨⟨t.a_QB,t.d_QB,["self", "row"],T.cl_Rule,T.me_Rule_broken_at,G_QB,T.p_QB.b⟩,⟨⟨t.a_QB,t.d_QB,["self", "row"],T.cl_Gap,T.me_Gap_broken_at,G_QB,T.p_QB.b⟩,⟨⟨t.a_QB,t.d_QB,["self", "row"],T.cl_Never,T.me_Never_broken_at,G_QB,T.p_QB.b⟩,⟨⟨t.a_QB,t.d_QB,["self", "row"],T.cl_Sum,T.me_Sum_broken_at,G_QB,T.p_QB.b⟩,⟨⟨t.a_QB,t.d_QB,["self", "row"],T.cl_Turn,T.me_Turn_broken_at,G_QB,T.p_QB.b⟩,⟨⟨t.a_QB,t.d_QB,["self", "row"],T.cl_Alike,T.me_Alike_broken_at,G_QB,T.p_QB.b⟩,⟨⟨t.a_QB,t.d_QB,["self", "row"],T.cl_All,T.me_All_broken_at,G_QB,T.p_QB.b⟩,trivial⟩⟩⟩⟩⟩⟩⟩ hr (pv 6) (Zd (pv 3) Zi)) (pv 11) (Yb _)) (UF (Yr (UP (cA:=⟨t.c,K⟩) (hr.units)) (X7 (cA:=⟨t.c,K⟩) (tab:=Zaj) (m:="keeps") ⟨⟨t.a_QO,t.d_QO,["self", "row"],T.cl_Rule,T.me_Rule_keeps,G_QO,T.p_QO.b⟩,⟨⟨t.a_QO,t.d_QO,["self", "row"],T.cl_Gap,T.me_Gap_keeps,G_QO,T.p_QO.b⟩,⟨⟨t.a_QO,t.d_QO,["self", "row"],T.cl_Never,T.me_Never_keeps,G_QO,T.p_QO.b⟩,⟨⟨t.a_QO,t.d_QO,["self", "row"],T.cl_Sum,T.me_Sum_keeps,G_QO,T.p_QO.b⟩,⟨⟨t.a_QO,t.d_QO,["self", "row"],T.cl_Turn,T.me_Turn_keeps,G_QO,T.p_QO.b⟩,⟨⟨t.a_QO,t.d_QO,["self", "row"],T.cl_Alike,T.me_Alike_keeps,G_QO,T.p_QO.b⟩,⟨⟨t.a_QO,t.d_QO,["self", "row"],T.cl_All,T.me_All_keeps,G_QO,T.p_QO.b⟩,trivial⟩⟩⟩⟩⟩⟩⟩ hr (pv 6) (Zd (pv 3) Zi)) (Qr (Vu (pv 11))) (Yb _))))) (Zw (ZT Uj)) Yi)
 (Zo (QS (i:=13) Xl (by rfl) (by rfl) (by rfl) (CompSd.mk1 (tn:=["single"]) (cn:=["row"]) (js:=[3]) (osc:=defScope Uh) (oN:=["script", "marks", "rules", "row", "handed", "singles", "made", "kept", "found", "state", "states", "broken", "at", "lowest"]) (by rfl) (by rfl) (by rfl) (by decide +kernel)) (XH (K:=K) (pv 5)) (λC s₂ H₂ fp=>YH (i:=0) Zkx) (λC s₂ H₂ fp=>(ZfD (VV (Jl (X7 (cA:=⟨t.c,K⟩) (tab:=tab_broken_at) (m:="broken_at") ⟨⟨t.a_QB,t.d_QB,["self", "row"],T.cl_Rule,T.me_Rule_broken_at,G_QB,T.p_QB.b⟩,⟨⟨t.a_QB,t.d_QB,["self", "row"],T.cl_Gap,T.me_Gap_broken_at,G_QB,T.p_QB.b⟩,⟨⟨t.a_QB,t.d_QB,["self", "row"],T.cl_Never,T.me_Never_broken_at,G_QB,T.p_QB.b⟩,⟨⟨t.a_QB,t.d_QB,["self", "row"],T.cl_Sum,T.me_Sum_broken_at,G_QB,T.p_QB.b⟩,⟨⟨t.a_QB,t.d_QB,["self", "row"],T.cl_Turn,T.me_Turn_broken_at,G_QB,T.p_QB.b⟩,⟨⟨t.a_QB,t.d_QB,["self", "row"],T.cl_Alike,T.me_Alike_broken_at,G_QB,T.p_QB.b⟩,⟨⟨t.a_QB,t.d_QB,["self", "row"],T.cl_All,T.me_All_broken_at,G_QB,T.p_QB.b⟩,trivial⟩⟩⟩⟩⟩⟩⟩ hr (pv 0) (Zd (pv 1) Zi)))))) (λC s₂ H₂ fp=>(X7 (cA:=⟨t.c,K⟩) (tab:=tab_broken_at) (m:="broken_at") ⟨⟨t.a_QB,t.d_QB,["self", "row"],T.cl_Rule,T.me_Rule_broken_at,G_QB,T.p_QB.b⟩,⟨⟨t.a_QB,t.d_QB,["self", "row"],T.cl_Gap,T.me_Gap_broken_at,G_QB,T.p_QB.b⟩,⟨⟨t.a_QB,t.d_QB,["self", "row"],T.cl_Never,T.me_Never_broken_at,G_QB,T.p_QB.b⟩,⟨⟨t.a_QB,t.d_QB,["self", "row"],T.cl_Sum,T.me_Sum_broken_at,G_QB,T.p_QB.b⟩,⟨⟨t.a_QB,t.d_QB,["self", "row"],T.cl_Turn,T.me_Turn_broken_at,G_QB,T.p_QB.b⟩,⟨⟨t.a_QB,t.d_QB,["self", "row"],T.cl_Alike,T.me_Alike_broken_at,G_QB,T.p_QB.b⟩,⟨⟨t.a_QB,t.d_QB,["self", "row"],T.cl_All,T.me_All_broken_at,G_QB,T.p_QB.b⟩,trivial⟩⟩⟩⟩⟩⟩⟩ hr (pv 0) (Zd (pv 1) Zi))))
 (Zw (ZT (Qs (Xn (YM (cA:=⟨t.c,K⟩) (hr.units)) (Yk (Zg3 (K:=K)) (by rfl) T.n_min boot_min (Zd (ZB (Zg0 (K:=K)) (pv 13) (Uq (Zd (Yk (YV (K:=K)) (by rfl) T.n_len boot_len (Zd (pv 3) Zi)) Zi))) Zi)) (Z0 (Z1 (K:=K)) (Uq (Zd (pv 11) (Zd (Yk (YV (K:=K)) (by rfl) T.n_len boot_len (Zd (pv 3) Zi)) Zi))) (Vg Zdy (by rfl) T.n_int boot_int (Zd (Qr (Vu (pv 11))) Zi)) (λ_ _=>rfl)) (Yb _)) (Ul (Xn (ZfR (K:=K) hr.units) (Zb6 (pv 6) T.cl_All T.me_All_rules_told G_QA hr T.p_QA.b .nil ZR) (pv 7) (Yb _))))))))))))))))))))))))),[4],?_⟩
 unfold ZhM;exact(Zs (show VS _ _ [] _ _ _ _ from(Yl 1 (Yd [] (by rfl) (Ze (Yd [] (by rfl) (Ze (Zc 0) (Ze (Zg (d:=(.int 0)) (by rfl) (by rfl)) Zl))) Zl))))
 (Zs (show VS _ _ [] _ _ _ _ from(Yl 2 (Yd [] (by rfl) (Ze (Zc 0) (Ze (Zc 1) Zl)))))
 (Zs (show VS _ _ [] _ _ _ _ from(Yl 3 (Yd [] (by rfl) (Ze (Zc 0) (Ze (Zc 1) (Ze (Zc 2) Zl))))))
 (Zs (show VS _ _ [4] _ _ _ _ from(ZbG 4 (Xi (by rfl) (XN (Zc 2)) (Y4 0) Xq (Yd [] (by rfl) (Ze (Zc 1) (Ze (Zc 0) Zl))))))
 (Zs (show VS _ _ [4] _ _ _ _ from(Yl 5 (VF.cl (Xi (by rfl) (XN (Zc 2)) (Y4 0) Xq (Yd [] (by rfl) (Ze (Zc 1) (Ze (Zc 0) Zl)))))))
 (Zex (C:="All") (m:=Q2) 1 4 6 7 8 (by decide) rfl (T.isi_list.plain "list" (by decide) true (by rfl)) (λ_ _=>
 (Vl (show VS _ _ [] _ _ _ _ from(Yl 9 (Xu (Zc 6) Zl)))
 (Vl (show VS _ _ [] _ _ _ _ from(Yl 10 (VF.cl (Xi (by rfl) (XN (Zc 5)) (Y4 0) Xq (Xu (Zc 0) Zl)))))
 (Vl (show VS _ _ [] _ _ _ _ from(Yl 11 (Zg (d:=.non) (by rfl) (by rfl))))
 (Vl (UU (UV (Ze (Yt YW (Ze (Zc 3) Zl)) Zl) UW) (Y4 12) (Zs (Yn (QF (Vz (Y3 (QM (λ_ h=>h) T.isi_tuple (Zc 9)))) (Ys (Zh UQ (VF.cl (Zcf (Or.inl rfl) (Ze (Zc 9) Zl))) (Zc 10)))) (Z8 (Zg (d:=(.bl false)) (by rfl) (by rfl))) Ym)
 (Zs (show VS _ _ [] _ _ _ _ from(Yl 10 (Yd [] (by rfl) (Ze (Zc 5) (Ze (Zc 10) (Ze (Zh Z2 (Zc 3) (Zc 12)) Zl))))))
 (Zs (show VS _ _ [] _ _ _ _ from(Yl 9 (Xu (Zc 6) (Ze (Zc 9) (Ze (Zh Z2 (Zc 3) (Zc 12)) Zl)))))
 (Yn (Ys (Zh Zg7 (Zg (d:=.non) (by rfl) (by rfl)) (Zc 10))) (Zs (show VS _ _ [] _ _ _ _ from(Yl 11 (Zc 12)))
 ZaY) Ym)))))
 (Vl (Yn (JF (Y3 (VB (Zc 11))) (QF (Vz (Y3 (QM (λ_ h=>h) T.isi_tuple (Zc 9)))) (Ys (Zh UQ (VF.cl (Zcf (Or.inl rfl) (Ze (Zc 9) Zl))) (Zc 10))))) (Z8 (Zg (d:=(.bl false)) (by rfl) (by rfl))) Ym)
 (Vl (Yn (JF (Y3 (JH (Zc 11))) (Y3 (JH (Zc 9)))) (Z8 (Zg (d:=(.bl false)) (by rfl) (by rfl))) Ym)
 (Vl (Yn (QF (Ys (Zh UQ (Xu (Zc 6) (Ze (Zc 3) Zl)) (Zc 11))) (Ys (Zh UQ (Xu (Zc 6) (Ze (Zc 3) Zl)) (VB (Zc 11))))) (Z8 (Zg (d:=(.bl false)) (by rfl) (by rfl))) Ym)
 (Ze2 (show VS _ _ [] _ _ _ _ from(Yl 13 (VF.cl (Xi (by rfl) (XN (Zc 5)) (Y4 0) (Y3 (JH (Xu (Zc 0) (Ze (Zc 1) Zl)))) (Xu (Zc 0) (Ze (Zc 1) Zl))))))))))))))) (λ_ _=>(Zh YN (Yt ZfQ (Ze (VF.cl (Zg4 (Zc 13) (VF.cl (Uv (Ze (Yt YW (Ze (Zc 3) Zl)) Zl))))) Zl)) (Zh Z2 (VF.cl (Uv (Ze (Zc 11) (Ze (Yt YW (Ze (Zc 3) Zl)) Zl)))) (Yt ZgX (Ze (VB (Zc 11)) Zl)))))))))))
end
end K04
namespace K04
open DL L2
theorem ZbN(ns:List Int)(k:Nat):Vp [.lst (ns.map D.int),.int k]=some (.int (ns.getD k 0)):=by
 by_cases h:k<ns.length
 · have hz : atI (ns.map D.int) (k : Int) = some (.int (ns.getD k 0)) := by
    refine Qz ?_;rw [List.getElem?_map,List.getElem?_eq_getElem h,List.getD_eq_getElem?_getD,List.getElem?_eq_getElem h];rfl
   simp [Vp,Q3,h,hz,DL.run,DL.runI,Zf,sIf,Zm,Z4,sNext,Zk,Zx,ZC,ZJ,sNever,xB,bD,Zz,ZD,xOr,Za,eC,eOp,ZM,eOr,ZN,eIf,Zy,ZH,Zp,ZP,eUn,ZI,eNil,Zb,ZA,ZE,eCB,lenD,minD,Z3,Zn,ZK,Zr,Zq,eSl,xP,xNoP,addD,subD,mulD,fdivD,modD,Zu,ixD,isD,eBM,ZF,ZO,kind,plainKinds,ZQ,ZS,ZU,ZV,ZW,ZX,ZY,Z5,ZZ,Z6,Z7,List.lookup,ZG,CMul,PySem.sizeLine_eq,List.replicate]
 · have hz:ns.getD k 0=0:=by rw [List.getD_eq_getElem?_getD,List.getElem?_eq_none (by omega)];rfl
   simp [Vp,Q3,h,hz,DL.run,DL.runI,Zf,sIf,Zm,Z4,sNext,Zk,Zx,ZC,ZJ,sNever,xB,bD,Zz,ZD,xOr,Za,eC,eOp,ZM,eOr,ZN,eIf,Zy,ZH,Zp,ZP,eUn,ZI,eNil,Zb,ZA,ZE,eCB,lenD,minD,Z3,Zn,ZK,Zr,Zq,eSl,xP,xNoP,addD,subD,mulD,fdivD,modD,Zu,ixD,isD,eBM,ZF,ZO,kind,plainKinds,ZQ,ZS,ZU,ZV,ZW,ZX,ZY,Z5,ZZ,Z6,Z7,List.lookup,ZG,CMul,PySem.sizeLine_eq,List.replicate]
def Va:Option Int->D
 |none => .non
 |some i => .int i
theorem is_mark(ms:List Nat)(c:Nat)(h:ms.length<=4):VM [.str ms,.str [c]]=some (.bl (decide (c∈ms))):=by
 simp [VM,J7,inD,DL.run,DL.runI,Zf,sIf,Zm,Z4,sNext,Zk,Zx,ZC,ZJ,sNever,xB,bD,Zz,ZD,xOr,Za,eC,eOp,ZM,eOr,ZN,eIf,Zy,ZH,Zp,ZP,eUn,ZI,eNil,Zb,ZA,ZE,eCB,lenD,minD,Z3,Zn,ZK,Zr,Zq,eSl,xP,xNoP,addD,subD,mulD,fdivD,modD,Zu,ixD,isD,eBM,ZF,ZO,kind,plainKinds,ZQ,ZS,ZU,ZV,ZW,ZX,ZY,Z5,ZZ,Z6,Z7,List.lookup,ZG,CMul,PySem.sizeLine_eq,List.replicate]
theorem is_whole(i lo hi:Int):X3 [.int i,.int lo,.int hi]=some (.bl (decide (lo<=i/\i<=hi))):=by
 by_cases h:lo<=i<;>simp [X3,J8,J5,J4,h,DL.run,DL.runI,Zf,sIf,Zm,Z4,sNext,Zk,Zx,ZC,ZJ,sNever,xB,bD,Zz,ZD,xOr,Za,eC,eOp,ZM,eOr,ZN,eIf,Zy,ZH,Zp,ZP,eUn,ZI,eNil,Zb,ZA,ZE,eCB,lenD,minD,Z3,Zn,ZK,Zr,Zq,eSl,xP,xNoP,addD,subD,mulD,fdivD,modD,Zu,ixD,isD,eBM,ZF,ZO,kind,plainKinds,ZQ,ZS,ZU,ZV,ZW,ZX,ZY,Z5,ZZ,Z6,Z7,List.lookup,ZG,CMul,PySem.sizeLine_eq,List.replicate]
theorem demand(cs:List Nat):Y1 [.bl true,.str cs]=some .non:=by
 simp [Y1,J9,DL.run,DL.runI,Zf,sIf,Zm,Z4,sNext,Zk,Zx,ZC,ZJ,sNever,xB,bD,Zz,ZD,xOr,Za,eC,eOp,ZM,eOr,ZN,eIf,Zy,ZH,Zp,ZP,eUn,ZI,eNil,Zb,ZA,ZE,eCB,lenD,minD,Z3,Zn,ZK,Zr,Zq,eSl,xP,xNoP,addD,subD,mulD,fdivD,modD,Zu,ixD,isD,eBM,ZF,ZO,kind,plainKinds,ZQ,ZS,ZU,ZV,ZW,ZX,ZY,Z5,ZZ,Z6,Z7,List.lookup,ZG,CMul,PySem.sizeLine_eq,List.replicate]
theorem Xy:Va none = .non:=rfl
theorem Xz(i:Int):Va (some i) = .int i:=rfl
structure Ms(ms:List Nat):Prop where
 lo:2<=ms.length
 hi:ms.length<=4
 st:QY [.str ms]=some (.bl true)
def SG:List Nat:=[97,98,99,100,101,102,103,104,105,106,107,108,109,110,111,112,113,114,115,116,117,118,119,120,121,122,48,49,50,51,52,53,54,55,56,57]
def many(c:Int):Nat:=2+(c / 396 % 3).toNat
def sgn(c:Int)(k:Nat):Nat:=SG.getD ((c+k*(1+c / 36 % 11)) % 36).toNat 0
def VU(c:Int):List Nat:=(List.range (many c)).map (sgn c)
theorem ZjU{i:Int}(h0:0<=i)(h1:i<36):atI SG i=some (SG.getD i.toNat 0):=by
 obtain⟨x,h2,h3⟩:=Ze3 (xs:=SG) h0 (by simpa [SG]using h1);rw [h2,List.getD_eq_getElem?_getD,h3];rfl
theorem Zg9:SG.length=36:=rfl
theorem Zb1{f:D->D->Option D}{a b:Env->Option D}{δ:Env}{x y:D}{r:Option D}(ha:a δ=some x)(hb:b δ=some y)(h:f x y=r):eOp f a b δ=r:=by
 unfold eOp;rw [ha,hb];exact h
def mkF(sg:List Nat)(c:Int):D->D
 | .int k => .str [sg.getD ((c+k*(1+c / 36 % 11)) % 36).toNat 0]
 |_ => .non
theorem ZdR{sg:List Nat}{c s k x:Int}{z:Nat}(hk:CMul k s)(hs:sg.length<=PySem.sizeLine)(hz:atI sg ((c+k*s) % 36)=some z):eOp ixD (Za 1) (eOp modD (eOp addD (Za 2) (eOp mulD (Za 0) (Za 3))) (eC (.int 36))) [some (.int k),some (.str sg),some (.int c),some (.int s)]=some (.str [z]):=
 Zb1 (x:=.str sg) (y:=.int ((c+k*s) % 36)) rfl (Zb1 (x:=.int (c+k*s)) (y:=.int 36) (Zb1 (x:=.int c) (y:=.int (k*s)) rfl (Zb1 (x:=.int k) (y:=.int s) rfl rfl (Zcl hk)) rfl) rfl (V6 (by omega))) (QV hs hz)
theorem ZcE(c:Int):YX (Z9 0) (λ_=>some true) (eOp ixD (Za 1) (eOp modD (eOp addD (Za 2) (eOp mulD (Za 0) (Za 3))) (eC (.int 36)))) [none,some (.str SG),some (.int c),some (.int (1+c / 36 % 11))] (YA 0 1 (many c))=some ((List.range (many c)).map λk => .str [sgn c k]):=by
 rw [XD (mkF SG c)]
 · unfold YA
   rw [List.map_map]
   congr 1
   refine List.map_congr_left λk _ => ?_
   have e:(0+(k:Int)*1)=k:=by omega
   show mkF SG c (.int (0+(k:Int)*1))=_;rw [e];rfl
 · intro x hx
   obtain⟨i,hi,rfl⟩:=Za3 hx;have hi4:i<5:=by unfold many at hi;omega
   have e:(0+(i:Int)*1)=i:=by omega
   rw [e];exact⟨_,rfl,ZdR (x:=0) (ZaO (by omega) (by omega)) (by rw [Zg9,PySem.sizeLine_eq];omega) (ZjU (by omega) (by omega))⟩
theorem ZeC(c:Int):Q4 [.int c]=some (.str (VU c)):=by
 have hm:(2+c / 396 % 3).toNat=many c:=by unfold many;omega
 have hb : -(2 ^ 62)<=2+c / 396 % 3/\2+c / 396 % 3<2 ^ 62:=by omega
 have hc:=ZcE c;have hj:=Zbo (sgn c) (List.range (many c)) (by rw [List.length_range,PySem.sizeLine_eq];unfold many;omega);have hl:(List.range (many c)).length<=PySem.sizeLine:=by rw [List.length_range,PySem.sizeLine_eq];unfold many;omega
 have e0:[97,98,99,100,101,102,103,104,105,106,107,108,109,110,111,112,113,114,115,116,117,118,119,120,121,122,48,49,50,51,52,53,54,55,56,57]=SG:=rfl;have d1:ZG c 36:=⟨by omega,by omega⟩
 have d2:ZG c 396:=⟨by omega,by omega⟩
 have e1:VU c=(List.range (many c)).map (sgn c):=rfl;rw [e1];unfold Q4 ZhE;rw [e0];generalize SG=sg at hc ⊢;generalize sgn c=sg2 at hc hj ⊢;simp only [DL.run,Zf,Zk,eC,eOp,addD,modD,fdivD,Za,Zm,eBM,Zb,eNil,Yo,Y5,List.map_cons,List.map_nil,List.length_cons,List.length_nil,List.cons_append,List.nil_append,Nat.reduceAdd,Nat.reduceSub,List.replicate,List.set_cons_zero,List.set_cons_succ,List.getElem?_cons_zero,List.getElem?_cons_succ,if_pos d1,if_pos d2,if_pos (show(0:Int)<11 by omega),if_pos (show(0:Int)<3 by omega),if_pos hb,hm,XB,Option.getD_some,hc,List.length_map,if_pos hl,hj]
theorem Zha:∀i j:Fin 36,SG.getD i.val 0=SG.getD j.val 0->i=j:=by decide
theorem ZfW(c:Int){i j:Nat}(hi:i<4)(hj:j<4)(h:sgn c i=sgn c j):i=j:=by
 unfold sgn at h;have h1:((c+i*(1+c / 36 % 11)) % 36).toNat<36:=by omega
 have h2:((c+j*(1+c / 36 % 11)) % 36).toNat<36:=by omega
 have:=Zha ⟨_,h1⟩ ⟨_,h2⟩ h;have e:((c+i*(1+c / 36 % 11)) % 36).toNat=((c+j*(1+c / 36 % 11)) % 36).toNat:=congrArg Fin.val this;have hs:∃t:Int,c / 36 % 11=t/\0<=t/\t<=10:=⟨_,rfl,by omega,by omega⟩
 obtain⟨t,ht,ht0,ht1⟩:=hs;rw [ht]at e;rcases(show i=0\/i=1\/i=2\/i=3 by omega)with rfl|rfl|rfl|rfl<;>rcases(show j=0\/j=1\/j=2\/j=3 by omega)with rfl|rfl|rfl|rfl<;>first|rfl|(exfalso;omega)
theorem Zak(c:Int):2<=(VU c).length/\(VU c).length<=4:=by
 unfold VU many;rw [List.length_map,List.length_range];omega
theorem Zbq{α β:Type}{f:α->β}:∀{l:List α},l.Nodup->(∀x∈l,∀y∈l,f x=f y->x=y)->(l.map f).Nodup
 | [],_,_=>List.nodup_nil
 |a::l,h,hf=>by
  rw [List.map_cons,List.nodup_cons];obtain⟨h1,h2⟩:=List.nodup_cons.mp h;refine⟨λhm => ?_,Zbq h2 λx hx y hy=>hf x (List.mem_cons_of_mem _ hx) y (List.mem_cons_of_mem _ hy)⟩;obtain⟨b,hb,e⟩:=List.mem_map.mp hm;have:=hf b (List.mem_cons_of_mem _ hb) a List.mem_cons_self e;exact h1 (this▸hb)
theorem ZbZ(c:Int):(VU c).Nodup:=by
 have hl:many c<=4:=by unfold many;omega
 refine Zbq List.nodup_range λx hx y hy h=>ZfW c ?_ ?_ h
 · have:=List.mem_range.mp hx;omega
 · have:=List.mem_range.mp hy;omega
theorem ZeD(c:Int):∀x∈VU c,x∈cs_MARK_SIGNS:=by
 intro x hx;obtain⟨k,_,rfl⟩:=List.mem_map.mp hx;unfold sgn;have h:((c+k*(1+c / 36 % 11)) % 36).toNat<36:=by omega
 generalize ((c+k*(1+c / 36 % 11)) % 36).toNat=i at h;have:∀i:Fin 36,SG.getD i.val 0∈cs_MARK_SIGNS:=by decide
 exact this ⟨i,h⟩
theorem ZjV{ms:List Nat}(h2:2<=ms.length)(h4:ms.length<=4)(hs:∀x∈ms,x∈cs_MARK_SIGNS)(hn:ms.Nodup):QY [.str ms]=some (.bl true):=by
 have hc:YX (Z9 0) (λ_=>some true) (ZM (eOp (inD false) (Za 0) (eC (.str cs_MARK_SIGNS))) (eOp eqD (eBM countD (Za 1) (Zb (Za 0) eNil)) (eC (.int 1)))) [none,some (.str ms)] (ms.map λc => .str [c])=some (ms.map λ_ => .bl true):=by
  rw [XD (λ_ => .bl true)]
  · rw [List.map_map];rfl
  · intro x hx
    obtain⟨c,hcm,rfl⟩:=List.mem_map.mp hx;have h1:ms.count c=1:=hn.count.trans (if_pos hcm);have h3:=hs c hcm;exact⟨_,rfl,by simp [Z9,inD,countD,h1,h3,DL.run,DL.runI,Zf,sIf,Zm,Z4,sNext,Zk,Zx,ZC,ZJ,sNever,xB,bD,Zz,ZD,xOr,Za,eC,eOp,ZM,eOr,ZN,eIf,Zy,ZH,Zp,ZP,eUn,ZI,eNil,Zb,ZA,ZE,eCB,lenD,minD,Z3,Zn,ZK,Zr,Zq,eSl,xP,xNoP,addD,subD,mulD,fdivD,modD,Zu,ixD,isD,eBM,ZF,ZO,kind,plainKinds,ZQ,ZS,ZU,ZV,ZW,ZX,ZY,Z5,ZZ,Z6,Z7,List.lookup,ZG,CMul,PySem.sizeLine_eq,List.replicate]⟩
 have hb:XM (ms.map λ_=>D.bl true)=some (ms.map λ_=>true):=by
  have:=JI (ms.map λ_=>true);rw [List.map_map]at this;exact this
 have ha:(ms.map λ_=>true).all id=true:=List.all_eq_true.mpr λb hb=>by
  obtain⟨_,_,rfl⟩:=List.mem_map.mp hb;rfl
 have hz:ms.length<=16777216:=by omega
 have g1:¬(ms.length:Int)<2:=by omega
 have g2:¬(4:Int)<ms.length:=by omega
 simp [QY,J6,Yo,Yz,XB,hc,hb,ha,Xg,hz,g1,g2,DL.run,DL.runI,Zf,sIf,Zm,Z4,sNext,Zk,Zx,ZC,ZJ,sNever,xB,bD,Zz,ZD,xOr,Za,eC,eOp,ZM,eOr,ZN,eIf,Zy,ZH,Zp,ZP,eUn,ZI,eNil,Zb,ZA,ZE,eCB,lenD,minD,Z3,Zn,ZK,Zr,Zq,eSl,xP,xNoP,addD,subD,mulD,fdivD,modD,Zu,ixD,isD,eBM,ZF,ZO,kind,plainKinds,ZQ,ZS,ZU,ZV,ZW,ZX,ZY,Z5,ZZ,Z6,Z7,List.lookup,ZG,CMul,PySem.sizeLine_eq,List.replicate]
theorem ZeE(c:Int):Ms (VU c):=⟨(Zak c).1,(Zak c).2,ZjV (Zak c).1 (Zak c).2 (ZeD c) (ZbZ c)⟩
theorem ZcR{ms:List Nat}(hm:0<ms.length)(i:Int):∃z,atI ms (i % ms.length)=some z/\z∈ms:=by
 obtain⟨x,h1,h2⟩:=Ze3 (xs:=ms) (i:=i % ms.length) (Int.emod_nonneg _ (by omega)) (Int.emod_lt_of_pos _ (by omega));exact⟨x,h1,List.mem_of_getElem? h2⟩
theorem ZfX{α β:Type}(f:α->β)(xs:List α)(lo hi:Option Int):cutL (xs.map f) lo hi=(cutL xs lo hi).map f:=by
 unfold cutL;rw [List.length_map,List.map_take,List.map_drop]
theorem ZfY{α:Type}(xs:List α)(lo hi:Option Int):(cutL xs lo hi).length<=xs.length:=by
 unfold cutL;rw [List.length_take,List.length_drop];omega
def YY(tab:MTab)(m:String)(o:D)(ds:List D):Option D:=match o with
 | .obj c ks xs=>if ks.contains m then none else match tab.lookup c with
  |some (n,mm)=>if(D.obj c ks xs::ds).length=n then mm (.obj c ks xs::ds)else none
  |none=>none
 |_=>none
theorem XE{m:String}{tab:MTab}{a:DL.Env->Option D}{α:DL.Env->Option (List D)}{δ:DL.Env}{o:D}{ds:List D}(h1:a δ=some o)(h2:α δ=some ds):Zr m tab a α δ=YY tab m o ds:=by
 unfold Zr YY;rw [h1];cases o<;>try rfl
 dsimp only;rw [h2]<;>(split<;>first|rfl|(cases tab.lookup _<;>rfl))
theorem XA{nm:String}{tab:MTab}{n:Nat}{c:String}{ks:List String}{vs:List D}{mm:List D->Option D}{ds:List D}(h2:ks.contains nm=false)(h3:tab.lookup c=some (n,mm))(h5:ds.length+1=n):YY tab nm (.obj c ks vs) ds=mm (.obj c ks vs::ds):=by
 unfold YY;dsimp only;rw [h2,if_neg Bool.false_ne_true,h3];dsimp only;rw [if_pos (show(D.obj c ks vs::ds).length=n by simpa using h5)]
def W(o s:D):Prop:=match o with
 | .obj c _ _=>if c = "Alike" then ∃i j:Int,s = .tup [.int i,.int j]else if c = "Never" then ∃n:Nat,s = .int (n:Int)else ∃i:Int,s = .int i
 |_=>False
structure Sg(ms:List Nat)(o:D):Prop where
 ob:isObj o=true
 al:ZO it_All o=some false
 fm:∀{a:DL.Env->Option D}{δ:DL.Env},a δ=some o->Zq fc_marks "marks" a δ=some (.str ms)
 bg:∃b,YY tab_begin "begin" o []=some b/\YY tab_begin0 "begin" o []=some b/\W o b
 st:∀s,W o s->∀c∈ms,∃x,YY tab_step "step" o [s,.str [c]]=some x/\YY tab_step0 "step" o [s,.str [c]]=some x/\(x = .non\/W o x)
 br:∀ds,ds.length=1->YY tab_broken_at "broken_at" o ds=XQ (o::ds)
theorem ZbO {ms:List Nat} {o s x:D} {c:Nat} (h4:ms.length<=4) (hc:c∈ms) (mk:∀{a:DL.Env->Option D}{δ:DL.Env},a δ=some o->Zq fc_marks "marks" a δ=some (.str ms)) (h:YY tab_behind "behind" o [s,.str [c]]=some x):Vo [o,s,.str [c]]=some x:=by
 have e:=is_mark ms c h4;rw [decide_eq_true hc]at e;exact Y6 rfl ((ZL ((Xv (QW (YF ((Xj (Zt (mk rfl) (Zt rfl nil_of)) rfl).trans e)))).trans rfl)).trans (X1 ((XE rfl (Zt rfl (Zt rfl nil_of))).trans h)))
theorem ZeF {ms:List Nat} {o s x:D} {c:Nat} (h4:ms.length<=4) (hc:c∈ms) (mk:∀{a:DL.Env->Option D}{δ:DL.Env},a δ=some o->Zq fc_marks "marks" a δ=some (.str ms)) (h:YY tab_behind0 "behind" o [s,.str [c]]=some x):VN [o,s,.str [c]]=some x:=by
 have e:=is_mark ms c h4;rw [decide_eq_true hc]at e;exact Y6 rfl ((ZL ((Xv (QW (YF ((Xj (Zt (mk rfl) (Zt rfl nil_of)) rfl).trans e)))).trans rfl)).trans (X1 ((XE rfl (Zt rfl (Zt rfl nil_of))).trans h)))
theorem Sg.of {ms:List Nat} {c:String} {ks:List String} {xs:List D} {mb bh:List D->Option D} (h4:ms.length<=4) (hk:(["begin", "behind", "step", "broken_at"].all λn => !("marks" :: ks).contains n)=true) (hp:plainKinds.contains c=false)
 (l1:tab_begin.lookup c=some (1,mb)) (l2:tab_begin0.lookup c=some (1,mb)) (l3:tab_step.lookup c=some (3,Vo)) (l4:tab_step0.lookup c=some (3,VN)) (l5:tab_behind.lookup c=some (3,bh)) (l6:tab_behind0.lookup c=some (3,bh)) (l7:tab_broken_at.lookup c=some (2,XQ)) (l8:it_All.lookup c=some false) (l9:fc_marks.contains c=true)
 {b:D} (hb:mb [.obj c ("marks" :: ks) (.str ms::xs)]=some b) (hb':W (.obj c ("marks" :: ks) (.str ms::xs)) b) (hs:∀s,W (.obj c ("marks" :: ks) (.str ms::xs)) s->∀m∈ms,∃x,bh [.obj c ("marks" :: ks) (.str ms::xs),s,.str [m]]=some x/\(x = .non\/W (.obj c ("marks" :: ks) (.str ms::xs)) x)):Sg ms (.obj c ("marks" :: ks) (.str ms::xs)):=by
 simp only [List.all_cons,List.all_nil,Bool.and_true,Bool.and_eq_true,Bool.not_eq_true']at hk;obtain⟨k1,k2,k3,k4⟩:=hk
 have mk:∀{a:DL.Env->Option D}{δ:DL.Env},a δ=some (.obj c ("marks" :: ks) (.str ms::xs))->Zq fc_marks "marks" a δ=some (.str ms):=λ{a δ} h=>by
  unfold Zq;rw [h];dsimp only;rw [if_pos l9];simp
 refine⟨rfl,?_,mk,⟨b,(XA k1 l1 rfl).trans hb,(XA k1 l2 rfl).trans hb,hb'⟩,λs hw m hm => ?_,λds hd=>XA k4 l7 (by rw [hd])⟩
 · unfold ZO
   simp only [hp,Bool.false_eq_true,if_false];exact l8
 · obtain⟨x,h1,h2⟩:=hs s hw m hm
   exact⟨x,(XA k3 l3 rfl).trans (ZbO h4 hm mk ((XA k2 l5 rfl).trans h1)),(XA k3 l4 rfl).trans (ZeF h4 hm mk ((XA k2 l6 rfl).trans h1)),h2⟩
end K04
namespace K04
open DL L2
theorem Qi{ms:List Nat}(M:Ms ms)(c:String)(h:fc_marks.contains c=true):Vm [.obj c [] [],.str ms]=some (.obj c ["marks"] [.str ms]):=by
 have:=M.st;have h':c∈fc_marks:=by simpa using h
 simp [Vm,Zhq,h',this,DL.run,DL.runI,Zf,sIf,Zm,Z4,sNext,Zk,Zx,ZC,ZJ,sNever,xB,bD,Zz,ZD,xOr,Za,eC,eOp,ZM,eOr,ZN,eIf,Zy,ZH,Zp,ZP,eUn,ZI,eNil,Zb,ZA,ZE,eCB,lenD,minD,Z3,Zn,ZK,Zr,Zq,eSl,xP,xNoP,addD,subD,mulD,fdivD,modD,Zu,ixD,isD,eBM,ZF,ZO,kind,plainKinds,ZQ,ZS,ZU,ZV,ZW,ZX,ZY,Z5,ZZ,Z6,Z7,List.lookup,ZG,CMul,PySem.sizeLine_eq,List.replicate]
abbrev gap(ms:List Nat)(mk:Nat)(lo:Int)(mo:Option Int):D := .obj "Gap" ["marks", "mark", "least", "most"] [.str ms,.str [mk],.int lo,Va mo]
def beh(mk:Nat)(lo:Int)(mo:Option Int)(s:Int)(c:Nat):Option Int:=
 if c=mk then(if lo<=s then some 0 else none)else match mo with
  |none=>some (if lo<s+1 then lo else s+1)
  |some m=>if s<m then some (s+1)else none
theorem behind(ms:List Nat)(mk:Nat)(lo:Int)(mo:Option Int)(s:Int)(c:Nat):Ud [gap ms mk lo mo,.int s,.str [c]]=some (Va (beh mk lo mo s c)):=by
 unfold beh
 by_cases hc:c=mk
 · by_cases hs:lo<=s<;>simp [Ud,Qb,Xw,X2,Xd,Xy,Xz,hc,hs,DL.run,DL.runI,Zf,sIf,Zm,Z4,sNext,Zk,Zx,ZC,ZJ,sNever,xB,bD,Zz,ZD,xOr,Za,eC,eOp,ZM,eOr,ZN,eIf,Zy,ZH,Zp,ZP,eUn,ZI,eNil,Zb,ZA,ZE,eCB,lenD,minD,Z3,Zn,ZK,Zr,Zq,eSl,xP,xNoP,addD,subD,mulD,fdivD,modD,Zu,ixD,isD,eBM,ZF,ZO,kind,plainKinds,ZQ,ZS,ZU,ZV,ZW,ZX,ZY,Z5,ZZ,Z6,Z7,List.lookup,ZG,CMul,PySem.sizeLine_eq,List.replicate]
 · cases mo with
   |none=>simp [Ud,Qb,Xw,X2,Xd,Xy,Xz,hc,DL.run,DL.runI,Zf,sIf,Zm,Z4,sNext,Zk,Zx,ZC,ZJ,sNever,xB,bD,Zz,ZD,xOr,Za,eC,eOp,ZM,eOr,ZN,eIf,Zy,ZH,Zp,ZP,eUn,ZI,eNil,Zb,ZA,ZE,eCB,lenD,minD,Z3,Zn,ZK,Zr,Zq,eSl,xP,xNoP,addD,subD,mulD,fdivD,modD,Zu,ixD,isD,eBM,ZF,ZO,kind,plainKinds,ZQ,ZS,ZU,ZV,ZW,ZX,ZY,Z5,ZZ,Z6,Z7,List.lookup,ZG,CMul,PySem.sizeLine_eq,List.replicate]
   |some m=>by_cases hs:s<m<;>simp [Ud,Qb,Xw,X2,Xd,Xy,Xz,hc,hs,DL.run,DL.runI,Zf,sIf,Zm,Z4,sNext,Zk,Zx,ZC,ZJ,sNever,xB,bD,Zz,ZD,xOr,Za,eC,eOp,ZM,eOr,ZN,eIf,Zy,ZH,Zp,ZP,eUn,ZI,eNil,Zb,ZA,ZE,eCB,lenD,minD,Z3,Zn,ZK,Zr,Zq,eSl,xP,xNoP,addD,subD,mulD,fdivD,modD,Zu,ixD,isD,eBM,ZF,ZO,kind,plainKinds,ZQ,ZS,ZU,ZV,ZW,ZX,ZY,Z5,ZZ,Z6,Z7,List.lookup,ZG,CMul,PySem.sizeLine_eq,List.replicate]
theorem ZeG{ms:List Nat}(M:Ms ms){mk:Nat}(hk:mk∈ms){lo:Int}(h0:0<=lo)(h8:lo<=8)(mo:Option Int)(hmo:∀m,mo=some m->lo<=m/\m<=8):Qe [.obj "Gap" [] [],.str ms,.str [mk],.int lo,Va mo]=some (gap ms mk lo mo):=by
 have h1:=Qi M "Gap" rfl;have h2:=is_mark ms mk M.hi;have h3:=is_whole lo 0 8;cases mo with
 |none=>simp [Qe,f_Q8,Xw,X2,Xd,h1,h2,hk,h3,h0,h8,demand,Xy,Xz,gap,DL.run,DL.runI,Zf,sIf,Zm,Z4,sNext,Zk,Zx,ZC,ZJ,sNever,xB,bD,Zz,ZD,xOr,Za,eC,eOp,ZM,eOr,ZN,eIf,Zy,ZH,Zp,ZP,eUn,ZI,eNil,Zb,ZA,ZE,eCB,lenD,minD,Z3,Zn,ZK,Zr,Zq,eSl,xP,xNoP,addD,subD,mulD,fdivD,modD,Zu,ixD,isD,eBM,ZF,ZO,kind,plainKinds,ZQ,ZS,ZU,ZV,ZW,ZX,ZY,Z5,ZZ,Z6,Z7,List.lookup,ZG,CMul,PySem.sizeLine_eq,List.replicate]
 |some m=>
  have h4:=is_whole m lo 8;have h5:=(hmo m rfl).1;have h6:=(hmo m rfl).2;simp [Qe,f_Q8,Xw,X2,Xd,h1,h2,hk,h3,h0,h8,h4,h5,h6,demand,Xy,Xz,gap,DL.run,DL.runI,Zf,sIf,Zm,Z4,sNext,Zk,Zx,ZC,ZJ,sNever,xB,bD,Zz,ZD,xOr,Za,eC,eOp,ZM,eOr,ZN,eIf,Zy,ZH,Zp,ZP,eUn,ZI,eNil,Zb,ZA,ZE,eCB,lenD,minD,Z3,Zn,ZK,Zr,Zq,eSl,xP,xNoP,addD,subD,mulD,fdivD,modD,Zu,ixD,isD,eBM,ZF,ZO,kind,plainKinds,ZQ,ZS,ZU,ZV,ZW,ZX,ZY,Z5,ZZ,Z6,Z7,List.lookup,ZG,CMul,PySem.sizeLine_eq,List.replicate]
theorem Zfu {c:String} {ks:List String} {xs:List D} {s:D} (h1:c ≠ "Alike") (h2:c ≠ "Never"):W (.obj c ks xs) s ↔ ∃i:Int,s = .int i:=by
 unfold W;dsimp only;rw [if_neg h1,if_neg h2]
theorem ZcS{P:D->Prop}(h:∀i:Int,P (.int i))(o:Option Int):Va o = .non\/P (Va o):=by
 cases o with
 |none=>exact .inl rfl
 |some i=>exact .inr (h i)
theorem Zhb{ms:List Nat}(h4:ms.length<=4)(mk:Nat)(lo:Int)(mo:Option Int):Sg ms (gap ms mk lo mo):=by
 have wi:∀s,W (gap ms mk lo mo) s ↔ ∃i:Int,s = .int i:=λs=>Zfu (by decide) (by decide)
 refine Sg.of (mb:=QZ) (bh:=Ud) (b:=.int lo) h4 (by decide) (by decide) rfl rfl rfl rfl rfl rfl rfl rfl rfl ?_ ((wi _).mpr ⟨_,rfl⟩) λs hw m hm => ?_
 · simp [QZ,Zht,X2,DL.run,DL.runI,Zf,sIf,Zm,Z4,sNext,Zk,Zx,ZC,ZJ,sNever,xB,bD,Zz,ZD,xOr,Za,eC,eOp,ZM,eOr,ZN,eIf,Zy,ZH,Zp,ZP,eUn,ZI,eNil,Zb,ZA,ZE,eCB,lenD,minD,Z3,Zn,ZK,Zr,Zq,eSl,xP,xNoP,addD,subD,mulD,fdivD,modD,Zu,ixD,isD,eBM,ZF,ZO,kind,plainKinds,ZQ,ZS,ZU,ZV,ZW,ZX,ZY,Z5,ZZ,Z6,Z7,List.lookup,ZG,CMul,PySem.sizeLine_eq,List.replicate]
 · obtain⟨i,rfl⟩:=(wi s).mp hw
   exact⟨_,behind ms mk lo mo i m,ZcS (λi=>(wi _).mpr ⟨i,rfl⟩) _⟩
abbrev nev(ms wd:List Nat):D := .obj "Never" ["marks", "word"] [.str ms,.str wd]
def fit(wd r:List Nat)(k:Nat):Bool:=(wd.take k).isSuffixOf r
theorem ZeH(wd r:List Nat):fit wd r 0=true:=List.isSuffixOf_iff_suffix.mpr (by rw [List.take_zero];exact List.nil_suffix)
def Zie(p:Nat->Bool):Nat->Nat
 |0=>0
 |n+1=>if p (n+1)=true then n+1 else Zie p n
def oz:Option Nat->D
 |none => .non
 |some n => .int (n:Nat)
theorem ozN:oz none = .non:=rfl
theorem ozS(i:Nat):oz (some i) = .int (i:Nat):=rfl
theorem ZbP{α:Type}(r:List α)(j:Nat):cutL r none (some (j:Int))=r.take j:=by
 unfold cutL YJ;have e:¬((j:Int)<0):=by omega
 have e2:((j:Int)).toNat=j:=by omega
 simp only [e,if_false,e2,List.drop_zero,Nat.sub_zero]
 by_cases h:j<=r.length
 · rw [Nat.min_eq_left h]
 · rw [Nat.min_eq_right (by omega),List.take_of_length_le (Nat.le_refl _),List.take_of_length_le (by omega)]
noncomputable def whT:DL.Env->Option Bool:=(Zz (xB (eBM endsD (Za 3) (Zb (eSl (Zq XO "word" (Za 0)) xNoP (xP (Za 4))) eNil))))
noncomputable def whB:DL.Env->Option Out:=(Zk 4 (eOp subD (Za 4) (eC (.int 1))))
theorem ZcT(ms wd t:List Nat)(x1 x2:Option D)(n:Nat)(hw:wd.length<=6):whT [some (nev ms wd),x1,x2,some (.str t),some (.int (n:Nat))]=some (!fit wd t n):=by
 have hc:=ZbP wd n;have hl:wd.length<=16777216:=by omega
 simp [whT,XO,slD,hc,hl,endsD,fit,DL.run,DL.runI,Zf,sIf,Zm,Z4,sNext,Zk,Zx,ZC,ZJ,sNever,xB,bD,Zz,ZD,xOr,Za,eC,eOp,ZM,eOr,ZN,eIf,Zy,ZH,Zp,ZP,eUn,ZI,eNil,Zb,ZA,ZE,eCB,lenD,minD,Z3,Zn,ZK,Zr,Zq,eSl,xP,xNoP,addD,subD,mulD,fdivD,modD,Zu,ixD,isD,eBM,ZF,ZO,kind,plainKinds,ZQ,ZS,ZU,ZV,ZW,ZX,ZY,Z5,ZZ,Z6,Z7,List.lookup,ZG,CMul,PySem.sizeLine_eq,List.replicate]
theorem Zhc(y x1 x2 x3:Option D)(n:Nat):whB [y,x1,x2,x3,some (.int ((n+1:Nat):Int))]=some (.nx [y,x1,x2,x3,some (.int (n:Nat))]):=by
 have e:((n+1:Nat):Int)-1=(n:Nat):=by omega
 simp only [whB,Zk,eOp,Za,eC,subD,List.getElem?_cons_zero,List.getElem?_cons_succ,List.set_cons_succ,List.set_cons_zero,e]
theorem wh(ms wd t:List Nat)(x1 x2:Option D)(hw:wd.length<=6):∀n:Nat,∃N,Xb whT whB N [some (nev ms wd),x1,x2,some (.str t),some (.int (n:Nat))]=some (.nx [some (nev ms wd),x1,x2,some (.str t),some (.int (Zie (fit wd t) n:Nat))])
 |0=>⟨1,by
  unfold Xb;rw [ZcT ms wd t x1 x2 0 hw,ZeH];rfl⟩
 |n+1=>by
  unfold Zie
  by_cases h:fit wd t (n+1)=true
  · rw [if_pos h]
    refine⟨1,?_⟩;unfold Xb;rw [ZcT ms wd t x1 x2 (n+1) hw,h];rfl
  · rw [if_neg h]
    obtain⟨N,ih⟩:=wh ms wd t x1 x2 hw n;refine⟨N+1,?_⟩;unfold Xb;rw [ZcT ms wd t x1 x2 (n+1) hw,Bool.eq_false_iff.mpr h];simp only [Bool.not_false,Zhc];exact ih
theorem Zbr:Zhr=(Zf (Zk 3 (eOp addD (eSl (Zq XO "word" (Za 0)) xNoP (xP (Za 1))) (Za 2)))
 (Zf (sIf (xB (eOp eqD (Za 3) (Zq XO "word" (Za 0)))) (Zm (eC .non)) sNext)
 (Zf (Zk 4 (eCB lenD (Zb (Za 3) eNil)))
 (Zf (Uw whT whB)
 (Zm (Za 4)))))):=rfl
theorem ZcF{ms wd:List Nat}(hw:wd.length<=6)(s c:Nat):∃o,UC [nev ms wd,.int (s:Nat),.str [c]]=some (oz o):=by
 have hc:=ZbP wd s;have hl:wd.length<=16777216:=by omega
 have htl:(wd.take s).length<=6:=by rw [List.length_take];omega
 have hl2:(wd.take s).length+1<=16777216:=by omega
 generalize ht:wd.take s=u at *;have hul:(u++[c]).length<=16777216:=by rw [List.length_append,List.length_singleton];omega
 obtain⟨N,hN⟩:=wh ms wd (u++[c]) (some (.int (s:Nat))) (some (.str [c])) hw (u++[c]).length;have hW:=ZdD hN
 by_cases h:u++[c]=wd
 · refine⟨none,?_⟩
   simp [UC,Zbr,XO,slD,hc,hl,hl2,h,ozN,DL.run,DL.runI,Zf,sIf,Zm,Z4,sNext,Zk,Zx,ZC,ZJ,sNever,xB,bD,Zz,ZD,xOr,Za,eC,eOp,ZM,eOr,ZN,eIf,Zy,ZH,Zp,ZP,eUn,ZI,eNil,Zb,ZA,ZE,eCB,lenD,minD,Z3,Zn,ZK,Zr,Zq,eSl,xP,xNoP,addD,subD,mulD,fdivD,modD,Zu,ixD,isD,eBM,ZF,ZO,kind,plainKinds,ZQ,ZS,ZU,ZV,ZW,ZX,ZY,Z5,ZZ,Z6,Z7,List.lookup,ZG,CMul,PySem.sizeLine_eq,List.replicate]
 · refine⟨some (Zie (fit wd (u++[c])) (u++[c]).length),?_⟩
   rw [ozS];have hl3:u.length<=16777215:=by omega
   simp only [List.length_append,List.length_singleton,Int.natCast_add,Int.cast_ofNat_Int]at hW;simp [UC,Zbr,XO,slD,hc,hl,hl3,h,hW,DL.run,DL.runI,Zf,sIf,Zm,Z4,sNext,Zk,Zx,ZC,ZJ,sNever,xB,bD,Zz,ZD,xOr,Za,eC,eOp,ZM,eOr,ZN,eIf,Zy,ZH,Zp,ZP,eUn,ZI,eNil,Zb,ZA,ZE,eCB,lenD,minD,Z3,Zn,ZK,Zr,Zq,eSl,xP,xNoP,addD,subD,mulD,fdivD,modD,Zu,ixD,isD,eBM,ZF,ZO,kind,plainKinds,ZQ,ZS,ZU,ZV,ZW,ZX,ZY,Z5,ZZ,Z6,Z7,List.lookup,ZG,CMul,PySem.sizeLine_eq,List.replicate]
theorem ZcG{ms wd:List Nat}(M:Ms ms)(h1:1<=wd.length)(hw:wd.length<=6)(hm:∀c∈wd,c∈ms):Zhx [.obj "Never" [] [],.str ms,.str wd]=some (nev ms wd):=by
 have hr:=Qi M "Never" rfl
 have hc:YX (Z9 0) (λ_=>some true) (Zn 2 VM [] (Zb (Za 1) (Zb (Za 0) eNil))) [none,some (.str ms)] (wd.map λc => .str [c])=some (wd.map λ_ => .bl true):=by
  rw [XD (λ_ => .bl true)]
  · rw [List.map_map];rfl
  · intro x hx
    obtain⟨c,hcm,rfl⟩:=List.mem_map.mp hx;have h3:=is_mark ms c M.hi;have h4:=hm c hcm;exact⟨_,rfl,by simp [Z9,h3,h4,DL.run,DL.runI,Zf,sIf,Zm,Z4,sNext,Zk,Zx,ZC,ZJ,sNever,xB,bD,Zz,ZD,xOr,Za,eC,eOp,ZM,eOr,ZN,eIf,Zy,ZH,Zp,ZP,eUn,ZI,eNil,Zb,ZA,ZE,eCB,lenD,minD,Z3,Zn,ZK,Zr,Zq,eSl,xP,xNoP,addD,subD,mulD,fdivD,modD,Zu,ixD,isD,eBM,ZF,ZO,kind,plainKinds,ZQ,ZS,ZU,ZV,ZW,ZX,ZY,Z5,ZZ,Z6,Z7,List.lookup,ZG,CMul,PySem.sizeLine_eq,List.replicate]⟩
 have hb:XM (wd.map λ_=>D.bl true)=some (wd.map λ_=>true):=by
  have:=JI (wd.map λ_=>true);rw [List.map_map]at this;exact this
 have ha:(wd.map λ_=>true).all id=true:=List.all_eq_true.mpr λb hb=>by
  obtain⟨_,_,rfl⟩:=List.mem_map.mp hb;rfl
 have hz:wd.length<=16777216:=by omega
 have g1:(1:Int)<=wd.length:=by omega
 have g2:(wd.length:Int)<=6:=by omega
 simp [Zhx,Zhw,XO,hr,demand,Yo,Yz,XB,hc,hb,ha,Xg,hz,g1,g2,nev,DL.run,DL.runI,Zf,sIf,Zm,Z4,sNext,Zk,Zx,ZC,ZJ,sNever,xB,bD,Zz,ZD,xOr,Za,eC,eOp,ZM,eOr,ZN,eIf,Zy,ZH,Zp,ZP,eUn,ZI,eNil,Zb,ZA,ZE,eCB,lenD,minD,Z3,Zn,ZK,Zr,Zq,eSl,xP,xNoP,addD,subD,mulD,fdivD,modD,Zu,ixD,isD,eBM,ZF,ZO,kind,plainKinds,ZQ,ZS,ZU,ZV,ZW,ZX,ZY,Z5,ZZ,Z6,Z7,List.lookup,ZG,CMul,PySem.sizeLine_eq,List.replicate]
theorem Zhd{ms:List Nat}(h4:ms.length<=4){wd:List Nat}(hw:wd.length<=6):Sg ms (nev ms wd):=by
 have wi:∀s,W (nev ms wd) s ↔ ∃n:Nat,s = .int (n:Int):=λs=>by
  unfold W;dsimp only [nev];rw [if_neg (by decide),if_pos rfl]
 refine Sg.of (mb:=Xx) (bh:=UC) (b:=.int 0) h4 (by decide) (by decide) rfl rfl rfl rfl rfl rfl rfl rfl rfl ?_ ((wi _).mpr ⟨0,rfl⟩) λs hs m hm => ?_
 · simp [Xx,Qa,DL.run,DL.runI,Zf,sIf,Zm,Z4,sNext,Zk,Zx,ZC,ZJ,sNever,xB,bD,Zz,ZD,xOr,Za,eC,eOp,ZM,eOr,ZN,eIf,Zy,ZH,Zp,ZP,eUn,ZI,eNil,Zb,ZA,ZE,eCB,lenD,minD,Z3,Zn,ZK,Zr,Zq,eSl,xP,xNoP,addD,subD,mulD,fdivD,modD,Zu,ixD,isD,eBM,ZF,ZO,kind,plainKinds,ZQ,ZS,ZU,ZV,ZW,ZX,ZY,Z5,ZZ,Z6,Z7,List.lookup,ZG,CMul,PySem.sizeLine_eq,List.replicate]
 · obtain⟨n,rfl⟩:=(wi s).mp hs
   obtain⟨o,ho⟩:=ZcF (ms:=ms) hw n m;refine⟨_,ho,?_⟩;cases o with
   |none=>exact .inl rfl
   |some n=>exact .inr ((wi _).mpr ⟨n,rfl⟩)
end K04
namespace K04
open DL L2
def od:Option D->D
 |none => .non
 |some d=>d
theorem odN:od none = .non:=rfl
theorem odS(d:D):od (some d)=d:=rfl
theorem Za4{c:Nat}{ms:List Nat}(h:c∈ms):indexD ms [.str [c]]=some (.int (Y7 c ms)):=by
 obtain⟨i,a,_,hi⟩:=Zbp h;show(if 0<=Y7 c ms then some (D.int (Y7 c ms))else none)=_;rw [if_pos (by omega)]
abbrev Qj(ms:List Nat)(mk:Nat)(ev at_:Int):D := .obj "Turn" ["marks", "mark", "every", "at"] [.str ms,.str [mk],.int ev,.int at_]
theorem Zb0{ms:List Nat}{mk:Nat}{ev at_:Int}(h0:0<ev)(s:Int)(c:Nat):Uf [Qj ms mk ev at_,.int s,.str [c]]=some (Va (if c=mk/\s≠at_ then none else some ((s+1) % ev))):=by
 by_cases hk:c=mk
 · subst hk
   by_cases hx:s=at_
   · subst hx
     rw [if_neg (by simp),Xz];simp [Uf,Qd,Xw,V8,V9,h0,DL.run,DL.runI,Zf,sIf,Zm,Z4,sNext,Zk,Zx,ZC,ZJ,sNever,xB,bD,Zz,ZD,xOr,Za,eC,eOp,ZM,eOr,ZN,eIf,Zy,ZH,Zp,ZP,eUn,ZI,eNil,Zb,ZA,ZE,eCB,lenD,minD,Z3,Zn,ZK,Zr,Zq,eSl,xP,xNoP,addD,subD,mulD,fdivD,modD,Zu,ixD,isD,eBM,ZF,ZO,kind,plainKinds,ZQ,ZS,ZU,ZV,ZW,ZX,ZY,Z5,ZZ,Z6,Z7,List.lookup,ZG,CMul,PySem.sizeLine_eq,List.replicate]
   · rw [if_pos ⟨rfl,hx⟩,Xy]
     simp [Uf,Qd,Xw,V8,V9,hx,h0,DL.run,DL.runI,Zf,sIf,Zm,Z4,sNext,Zk,Zx,ZC,ZJ,sNever,xB,bD,Zz,ZD,xOr,Za,eC,eOp,ZM,eOr,ZN,eIf,Zy,ZH,Zp,ZP,eUn,ZI,eNil,Zb,ZA,ZE,eCB,lenD,minD,Z3,Zn,ZK,Zr,Zq,eSl,xP,xNoP,addD,subD,mulD,fdivD,modD,Zu,ixD,isD,eBM,ZF,ZO,kind,plainKinds,ZQ,ZS,ZU,ZV,ZW,ZX,ZY,Z5,ZZ,Z6,Z7,List.lookup,ZG,CMul,PySem.sizeLine_eq,List.replicate]
 · rw [if_neg (λz=>hk z.1),Xz]
   simp [Uf,Qd,Xw,V8,V9,hk,h0,DL.run,DL.runI,Zf,sIf,Zm,Z4,sNext,Zk,Zx,ZC,ZJ,sNever,xB,bD,Zz,ZD,xOr,Za,eC,eOp,ZM,eOr,ZN,eIf,Zy,ZH,Zp,ZP,eUn,ZI,eNil,Zb,ZA,ZE,eCB,lenD,minD,Z3,Zn,ZK,Zr,Zq,eSl,xP,xNoP,addD,subD,mulD,fdivD,modD,Zu,ixD,isD,eBM,ZF,ZO,kind,plainKinds,ZQ,ZS,ZU,ZV,ZW,ZX,ZY,Z5,ZZ,Z6,Z7,List.lookup,ZG,CMul,PySem.sizeLine_eq,List.replicate]
theorem ZdS{ms:List Nat}(M:Ms ms){mk:Nat}(hk:mk∈ms){ev at_:Int}(h0:1<=ev)(h6:ev<=6)(h1:0<=at_)(h2:at_<=ev-1):ZhB [.obj "Turn" [] [],.str ms,.str [mk],.int ev,.int at_]=some (Qj ms mk ev at_):=by
 have e1:=Qi M "Turn" rfl;have e2:=is_mark ms mk M.hi;have e3:=is_whole ev 1 6;have e4:=is_whole at_ 0 (ev-1);simp [ZhB,ZhA,Xw,V8,V9,e1,e2,hk,e3,e4,h0,h6,h1,h2,demand,Qj,DL.run,DL.runI,Zf,sIf,Zm,Z4,sNext,Zk,Zx,ZC,ZJ,sNever,xB,bD,Zz,ZD,xOr,Za,eC,eOp,ZM,eOr,ZN,eIf,Zy,ZH,Zp,ZP,eUn,ZI,eNil,Zb,ZA,ZE,eCB,lenD,minD,Z3,Zn,ZK,Zr,Zq,eSl,xP,xNoP,addD,subD,mulD,fdivD,modD,Zu,ixD,isD,eBM,ZF,ZO,kind,plainKinds,ZQ,ZS,ZU,ZV,ZW,ZX,ZY,Z5,ZZ,Z6,Z7,List.lookup,ZG,CMul,PySem.sizeLine_eq,List.replicate]
theorem ZfZ{ms:List Nat}(h4:ms.length<=4)(mk:Nat){ev at_:Int}(h0:1<=ev):Sg ms (Qj ms mk ev at_):=by
 have wi:∀s,W (Qj ms mk ev at_) s ↔ ∃i:Int,s = .int i:=λs=>Zfu (by decide) (by decide)
 refine Sg.of (mb:=Xx) (bh:=Uf) (b:=.int 0) h4 (by decide) (by decide) rfl rfl rfl rfl rfl rfl rfl rfl rfl ?_ ((wi _).mpr ⟨_,rfl⟩) λs hw m hm => ?_
 · simp [Xx,Qa,DL.run,DL.runI,Zf,sIf,Zm,Z4,sNext,Zk,Zx,ZC,ZJ,sNever,xB,bD,Zz,ZD,xOr,Za,eC,eOp,ZM,eOr,ZN,eIf,Zy,ZH,Zp,ZP,eUn,ZI,eNil,Zb,ZA,ZE,eCB,lenD,minD,Z3,Zn,ZK,Zr,Zq,eSl,xP,xNoP,addD,subD,mulD,fdivD,modD,Zu,ixD,isD,eBM,ZF,ZO,kind,plainKinds,ZQ,ZS,ZU,ZV,ZW,ZX,ZY,Z5,ZZ,Z6,Z7,List.lookup,ZG,CMul,PySem.sizeLine_eq,List.replicate]
 · obtain⟨i,rfl⟩:=(wi s).mp hw
   exact⟨_,Zb0 (by omega) i m,ZcS (λi=>(wi _).mpr ⟨i,rfl⟩) _⟩
abbrev Qk(ms:List Nat)(ws:List Int)(lo hi:Int):D := .obj "Sum" ["marks", "worths", "low", "high"] [.str ms,.tup (ws.map D.int),.int lo,.int hi]
abbrev Qm(ws:List Int)(lo hi:Int):D := .tup [.str [115,117,109],.tup (ws.map D.int),.int lo,.int hi]
def wor(ws:List Int)(ms:List Nat)(c:Nat):Int:=ws.getD (Y7 c ms).toNat 0
theorem Ze8{ws:List Int}{ms:List Nat}(hw:ws.length=ms.length){c:Nat}(hc:c∈ms):atI (ws.map D.int) (Y7 c ms)=some (.int (wor ws ms c)):=by
 obtain⟨i,a,_,hi⟩:=Zbp hc;unfold wor;rw [a];refine Qz ?_;have hi':i<ws.length:=by omega
 rw [List.getElem?_map,List.getElem?_eq_getElem hi',List.getD_eq_getElem?_getD];simp [hi']
def Zky(ws:List Int)(ms:List Nat):D->D
 | .str [c] => .int (wor ws ms c)
 |_ => .non
theorem ZeI{ws:List Int}{ms r:List Nat}{lo hi:Int}(hw:ws.length=ms.length)(hr:∀c∈r,c∈ms):YX (Z9 0) (λ_=>some true) (eOp ixD (eOp ixD (Za 1) (eC (.int 1))) (eBM indexD (Za 2) (Zb (Za 0) eNil))) [none,some (Qm ws lo hi),some (.str ms)] (r.map λc => .str [c])=some ((r.map (wor ws ms)).map D.int):=by
 rw [XD (Zky ws ms)]
 · rw [List.map_map,List.map_map];rfl
 · intro x hx
   obtain⟨c,hc,rfl⟩:=List.mem_map.mp hx;exact⟨_,rfl,(Ye (x:=.tup (ws.map D.int)) (y:=.int (Y7 c ms)) rfl (Za4 (hr c hc))).trans (Ze8 hw (hr c hc))⟩
theorem ZcH{ms:List Nat}{ws:List Int}(hw:ws.length=ms.length){lo hi:Int}(s:Int){c:Nat}(hc:c∈ms):∃o,Ue [Qk ms ws lo hi,.int s,.str [c]]=some (Va o):=by
 have h1:=Ze8 hw hc;have h2:=Za4 hc;generalize wor ws ms c=w at *;generalize Y7 c ms=f at *
 by_cases ha:lo<=s+w
 · by_cases hb:s+w<=hi
   · refine⟨some (s+w),?_⟩
     rw [Xz];simp [Ue,Qc,Uc,fc_marks,Ub,Ua,h1,h2,ha,hb,DL.run,DL.runI,Zf,sIf,Zm,Z4,sNext,Zk,Zx,ZC,ZJ,sNever,xB,bD,Zz,ZD,xOr,Za,eC,eOp,ZM,eOr,ZN,eIf,Zy,ZH,Zp,ZP,eUn,ZI,eNil,Zb,ZA,ZE,eCB,lenD,minD,Z3,Zn,ZK,Zr,Zq,eSl,xP,xNoP,addD,subD,mulD,fdivD,modD,Zu,ixD,isD,eBM,ZF,ZO,kind,plainKinds,ZQ,ZS,ZU,ZV,ZW,ZX,ZY,Z5,ZZ,Z6,Z7,List.lookup,ZG,CMul,PySem.sizeLine_eq,List.replicate]
   · refine⟨none,?_⟩
     rw [Xy];simp [Ue,Qc,Uc,fc_marks,Ub,Ua,h1,h2,ha,hb,DL.run,DL.runI,Zf,sIf,Zm,Z4,sNext,Zk,Zx,ZC,ZJ,sNever,xB,bD,Zz,ZD,xOr,Za,eC,eOp,ZM,eOr,ZN,eIf,Zy,ZH,Zp,ZP,eUn,ZI,eNil,Zb,ZA,ZE,eCB,lenD,minD,Z3,Zn,ZK,Zr,Zq,eSl,xP,xNoP,addD,subD,mulD,fdivD,modD,Zu,ixD,isD,eBM,ZF,ZO,kind,plainKinds,ZQ,ZS,ZU,ZV,ZW,ZX,ZY,Z5,ZZ,Z6,Z7,List.lookup,ZG,CMul,PySem.sizeLine_eq,List.replicate]
 · refine⟨none,?_⟩
   rw [Xy];simp [Ue,Qc,Uc,fc_marks,Ub,Ua,h1,h2,ha,DL.run,DL.runI,Zf,sIf,Zm,Z4,sNext,Zk,Zx,ZC,ZJ,sNever,xB,bD,Zz,ZD,xOr,Za,eC,eOp,ZM,eOr,ZN,eIf,Zy,ZH,Zp,ZP,eUn,ZI,eNil,Zb,ZA,ZE,eCB,lenD,minD,Z3,Zn,ZK,Zr,Zq,eSl,xP,xNoP,addD,subD,mulD,fdivD,modD,Zu,ixD,isD,eBM,ZF,ZO,kind,plainKinds,ZQ,ZS,ZU,ZV,ZW,ZX,ZY,Z5,ZZ,Z6,Z7,List.lookup,ZG,CMul,PySem.sizeLine_eq,List.replicate]
theorem ZcU{α:Type}(xs:List α):XM (xs.map λ_=>D.bl true)=some (xs.map λ_=>true)/\(xs.map λ_=>true).all id=true:=by
 refine⟨?_,List.all_eq_true.mpr λb hb => ?_⟩
 · have:=JI (xs.map λ_=>true)
   rw [List.map_map]at this;exact this
 · obtain⟨_,_,rfl⟩:=List.mem_map.mp hb
   rfl
theorem ZeJ{ms:List Nat}(M:Ms ms){ws:List Int}(hw:ws.length=ms.length)(h3:∀w∈ws,-3<=w/\w<=3){lo hi:Int}(h1 : -8<=lo)(h2:lo<=0)(h5:0<=hi)(h6:hi<=8):Zhz [.obj "Sum" [] [],.str ms,.tup (ws.map D.int),.int lo,.int hi]=some (Qk ms ws lo hi):=by
 have hr:=Qi M "Sum" rfl;have e3:=is_whole lo (-8) 0;have e4:=is_whole hi 0 8
 have hc:YX (Z9 0) (λ_=>some true) (Zn 3 X3 [] (Zb (Za 0) (Zb (eUn ZI (eC (.int 3))) (Zb (eC (.int 3)) eNil)))) [none] (ws.map D.int)=some (ws.map λ_ => .bl true):=by
  rw [XD (λ_ => .bl true)]
  · rw [List.map_map];rfl
  · intro x hx
    obtain⟨c,hcm,rfl⟩:=List.mem_map.mp hx;have e:=is_whole c (-3) 3;rw [decide_eq_true (h3 c hcm)]at e;exact⟨_,rfl,(Xj (Zt rfl (Zt rfl (Zt rfl nil_of))) rfl).trans e⟩
 obtain⟨hb,ha⟩:=ZcU ws;have hz:ms.length<=16777216:=by have:=M.hi;omega
 have hz2:ws.length<=16777216:=by omega
 have hq:(ws.length:Int)=ms.length:=by omega
 simp [Zhz,Zhy,Uc,Ub,Ua,hr,demand,Yo,Yz,XB,hc,hb,ha,Xg,hz,hz2,hw,hq,e3,e4,h1,h2,h5,h6,Qk,Vj,DL.run,DL.runI,Zf,sIf,Zm,Z4,sNext,Zk,Zx,ZC,ZJ,sNever,xB,bD,Zz,ZD,xOr,Za,eC,eOp,ZM,eOr,ZN,eIf,Zy,ZH,Zp,ZP,eUn,ZI,eNil,Zb,ZA,ZE,eCB,lenD,minD,Z3,Zn,ZK,Zr,Zq,eSl,xP,xNoP,addD,subD,mulD,fdivD,modD,Zu,ixD,isD,eBM,ZF,ZO,kind,plainKinds,ZQ,ZS,ZU,ZV,ZW,ZX,ZY,Z5,ZZ,Z6,Z7,List.lookup,ZG,CMul,PySem.sizeLine_eq,List.replicate]
theorem Zhe{ms:List Nat}(h4:ms.length<=4){ws:List Int}(hw:ws.length=ms.length){lo hi:Int}:Sg ms (Qk ms ws lo hi):=by
 have wi:∀s,W (Qk ms ws lo hi) s ↔ ∃i:Int,s = .int i:=λs=>Zfu (by decide) (by decide)
 refine Sg.of (mb:=Xx) (bh:=Ue) (b:=.int 0) h4 (by decide) (by decide) rfl rfl rfl rfl rfl rfl rfl rfl rfl ?_ ((wi _).mpr ⟨_,rfl⟩) λs hs m hm => ?_
 · simp [Xx,Qa,DL.run,DL.runI,Zf,sIf,Zm,Z4,sNext,Zk,Zx,ZC,ZJ,sNever,xB,bD,Zz,ZD,xOr,Za,eC,eOp,ZM,eOr,ZN,eIf,Zy,ZH,Zp,ZP,eUn,ZI,eNil,Zb,ZA,ZE,eCB,lenD,minD,Z3,Zn,ZK,Zr,Zq,eSl,xP,xNoP,addD,subD,mulD,fdivD,modD,Zu,ixD,isD,eBM,ZF,ZO,kind,plainKinds,ZQ,ZS,ZU,ZV,ZW,ZX,ZY,Z5,ZZ,Z6,Z7,List.lookup,ZG,CMul,PySem.sizeLine_eq,List.replicate]
 · obtain⟨i,rfl⟩:=(wi s).mp hs
   obtain⟨o,ho⟩:=ZcH hw (lo:=lo) (hi:=hi) i hm;exact⟨_,ho,ZcS (λi=>(wi _).mpr ⟨i,rfl⟩) _⟩
abbrev Ui(ms:List Nat)(mo:Int):D := .obj "Alike" ["marks", "most"] [.str ms,.int mo]
theorem ZcI{ms:List Nat}(M:Ms ms){mo:Int}(h0:1<=mo)(h6:mo<=6):ZhD [.obj "Alike" [] [],.str ms,.int mo]=some (Ui ms mo):=by
 have e1:=Qi M "Alike" rfl;have e3:=is_whole mo 1 6;simp [ZhD,ZhC,Xd,e1,e3,h0,h6,demand,Ui,DL.run,DL.runI,Zf,sIf,Zm,Z4,sNext,Zk,Zx,ZC,ZJ,sNever,xB,bD,Zz,ZD,xOr,Za,eC,eOp,ZM,eOr,ZN,eIf,Zy,ZH,Zp,ZP,eUn,ZI,eNil,Zb,ZA,ZE,eCB,lenD,minD,Z3,Zn,ZK,Zr,Zq,eSl,xP,xNoP,addD,subD,mulD,fdivD,modD,Zu,ixD,isD,eBM,ZF,ZO,kind,plainKinds,ZQ,ZS,ZU,ZV,ZW,ZX,ZY,Z5,ZZ,Z6,Z7,List.lookup,ZG,CMul,PySem.sizeLine_eq,List.replicate]
theorem ZbA{ms:List Nat}{mo:Int}(i j:Int){c:Nat}(hc:c∈ms):∃o,Vn [Ui ms mo,.tup [.int i,.int j],.str [c]]=some (od o)/\(∀d,o=some d->∃a b:Int,d = .tup [.int a,.int b]):=by
 have h2:=Za4 hc;have t0:atI [D.int i,.int j] 0=some (.int i):=rfl;have t1:atI [D.int i,.int j] 1=some (.int j):=rfl;generalize Y7 c ms=f at *
 have key:∀n:Int,(f=i->n=j+1)->(f≠i->n=1)->∃o,Vn [Ui ms mo,.tup [.int i,.int j],.str [c]]=some (od o)/\(∀d,o=some d->∃a b:Int,d = .tup [.int a,.int b]):=λn n1 n2=>by
  by_cases hm:n<=mo
  · refine⟨some (.tup [.int f,.int n]),?_,λd hd=>⟨f,n,(Option.some.inj hd).symm⟩⟩
    rw [odS]
    by_cases hf:f=i
    · rw [n1 hf]at hm ⊢
      simp [Vn,UD,fc_marks,Xd,h2,t0,t1,hf,hm,DL.run,DL.runI,Zf,sIf,Zm,Z4,sNext,Zk,Zx,ZC,ZJ,sNever,xB,bD,Zz,ZD,xOr,Za,eC,eOp,ZM,eOr,ZN,eIf,Zy,ZH,Zp,ZP,eUn,ZI,eNil,Zb,ZA,ZE,eCB,lenD,minD,Z3,Zn,ZK,Zr,Zq,eSl,xP,xNoP,addD,subD,mulD,fdivD,modD,Zu,ixD,isD,eBM,ZF,ZO,kind,plainKinds,ZQ,ZS,ZU,ZV,ZW,ZX,ZY,Z5,ZZ,Z6,Z7,List.lookup,ZG,CMul,PySem.sizeLine_eq,List.replicate]
    · rw [n2 hf]at hm ⊢
      simp [Vn,UD,fc_marks,Xd,h2,t0,t1,hf,hm,DL.run,DL.runI,Zf,sIf,Zm,Z4,sNext,Zk,Zx,ZC,ZJ,sNever,xB,bD,Zz,ZD,xOr,Za,eC,eOp,ZM,eOr,ZN,eIf,Zy,ZH,Zp,ZP,eUn,ZI,eNil,Zb,ZA,ZE,eCB,lenD,minD,Z3,Zn,ZK,Zr,Zq,eSl,xP,xNoP,addD,subD,mulD,fdivD,modD,Zu,ixD,isD,eBM,ZF,ZO,kind,plainKinds,ZQ,ZS,ZU,ZV,ZW,ZX,ZY,Z5,ZZ,Z6,Z7,List.lookup,ZG,CMul,PySem.sizeLine_eq,List.replicate]
  · refine⟨none,?_,λd hd=>by cases hd⟩
    rw [odN]
    by_cases hf:f=i
    · rw [n1 hf]at hm
      simp [Vn,UD,fc_marks,Xd,h2,t0,t1,hf,hm,DL.run,DL.runI,Zf,sIf,Zm,Z4,sNext,Zk,Zx,ZC,ZJ,sNever,xB,bD,Zz,ZD,xOr,Za,eC,eOp,ZM,eOr,ZN,eIf,Zy,ZH,Zp,ZP,eUn,ZI,eNil,Zb,ZA,ZE,eCB,lenD,minD,Z3,Zn,ZK,Zr,Zq,eSl,xP,xNoP,addD,subD,mulD,fdivD,modD,Zu,ixD,isD,eBM,ZF,ZO,kind,plainKinds,ZQ,ZS,ZU,ZV,ZW,ZX,ZY,Z5,ZZ,Z6,Z7,List.lookup,ZG,CMul,PySem.sizeLine_eq,List.replicate]
    · rw [n2 hf]at hm
      simp [Vn,UD,fc_marks,Xd,h2,t0,t1,hf,hm,DL.run,DL.runI,Zf,sIf,Zm,Z4,sNext,Zk,Zx,ZC,ZJ,sNever,xB,bD,Zz,ZD,xOr,Za,eC,eOp,ZM,eOr,ZN,eIf,Zy,ZH,Zp,ZP,eUn,ZI,eNil,Zb,ZA,ZE,eCB,lenD,minD,Z3,Zn,ZK,Zr,Zq,eSl,xP,xNoP,addD,subD,mulD,fdivD,modD,Zu,ixD,isD,eBM,ZF,ZO,kind,plainKinds,ZQ,ZS,ZU,ZV,ZW,ZX,ZY,Z5,ZZ,Z6,Z7,List.lookup,ZG,CMul,PySem.sizeLine_eq,List.replicate]
 exact key (if f=i then j+1 else 1) (λh=>if_pos h) (λh=>if_neg h)
theorem ZeK{ms:List Nat}(h4:ms.length<=4)(mo:Int):Sg ms (Ui ms mo):=by
 have wi:∀s,W (Ui ms mo) s ↔ ∃i j:Int,s = .tup [.int i,.int j]:=λs=>by
  unfold W;dsimp only [Ui];rw [if_pos rfl]
 refine Sg.of (mb:=Q0) (bh:=Vn) (b:=.tup [.int 0,.int 0]) h4 (by decide) (by decide) rfl rfl rfl rfl rfl rfl rfl rfl rfl ?_ ((wi _).mpr ⟨_,_,rfl⟩) λs hs m hm => ?_
 · simp [Q0,Zhu,DL.run,DL.runI,Zf,sIf,Zm,Z4,sNext,Zk,Zx,ZC,ZJ,sNever,xB,bD,Zz,ZD,xOr,Za,eC,eOp,ZM,eOr,ZN,eIf,Zy,ZH,Zp,ZP,eUn,ZI,eNil,Zb,ZA,ZE,eCB,lenD,minD,Z3,Zn,ZK,Zr,Zq,eSl,xP,xNoP,addD,subD,mulD,fdivD,modD,Zu,ixD,isD,eBM,ZF,ZO,kind,plainKinds,ZQ,ZS,ZU,ZV,ZW,ZX,ZY,Z5,ZZ,Z6,Z7,List.lookup,ZG,CMul,PySem.sizeLine_eq,List.replicate]
 · obtain⟨i,j,rfl⟩:=(wi s).mp hs
   obtain⟨o,ho,h⟩:=ZbA (mo:=mo) i j hm;refine⟨_,ho,?_⟩;cases o with
   |none=>exact .inl rfl
   |some d=>exact .inr ((wi _).mpr (h d rfl))
end K04
namespace K04
open DL L2
noncomputable def nx(o s:D)(c:Nat):D:=(YY tab_step "step" o [s,.str [c]]).getD .non
noncomputable def b0(o:D):D:=(YY tab_begin "begin" o []).getD .non
noncomputable def brk(o:D):Nat->D->List Nat->Option Nat
 |_,_,[]=>none
 |k,s,c::r=>if Zp (nx o s c)=true then some k else brk o (k+1) (nx o s c) r
theorem Qn(o:D)(k:Nat)(s:D)(c:Nat)(r:List Nat):brk o k s (c::r)=if Zp (nx o s c)=true then some k else brk o (k+1) (nx o s c) r:=rfl
structure Mv(ms:List Nat)(o:D)(V:D->Prop):Prop where
 bg:∃b,YY tab_begin "begin" o []=some b/\V b
 st:∀s,V s->∀c∈ms,∃x,YY tab_step "step" o [s,.str [c]]=some x/\(x = .non\/V x)
 vn:∀s,V s->Zp s=false
section
variable{ms:List Nat}{o:D}{V:D->Prop}
theorem Mv.b(M:Mv ms o V):YY tab_begin "begin" o []=some (b0 o)/\V (b0 o):=by
 obtain⟨b,h1,h2⟩:=M.bg;have e:b0 o=b:=by unfold b0;rw [h1];rfl
 rw [e];exact⟨h1,h2⟩
theorem Mv.n(M:Mv ms o V){s:D}(h:V s){c:Nat}(hc:c∈ms):YY tab_step "step" o [s,.str [c]]=some (nx o s c)/\(Zp (nx o s c)=true->nx o s c = .non)/\(Zp (nx o s c)=false->V (nx o s c)):=by
 obtain⟨x,h1,h2⟩:=M.st s h c hc;have e:nx o s c=x:=by unfold nx;rw [h1];rfl
 rw [e];refine⟨h1,λz => ?_,λz => ?_⟩
 · rcases h2 with h2|h2
   · exact h2
   · rw [M.vn x h2]at z;cases z
 · rcases h2 with h2|h2
   · rw [h2]at z;cases z
   · exact h2
theorem Ze9{γ:D->DL.Env->Option DL.Env}{φ:DL.Env->Option Out}{x d:D}{r:List D}{δ δ1:DL.Env}(h1:γ x δ=some δ1)(h2:φ δ1=some (.rt d)):YO γ φ (x::r) δ=some (.rt d):=by
 unfold YO;rw [h1];dsimp only;rw [h2]
theorem ZcV{γ:D->DL.Env->Option DL.Env}{φ:DL.Env->Option Out}{x:D}{r:List D}{δ δ1 δ2:DL.Env}(h1:γ x δ=some δ1)(h2:φ δ1=some (.nx δ2)):YO γ φ (x::r) δ=YO γ φ r δ2:=by
 conv=>lhs;unfold YO
 rw [h1];dsimp only;rw [h2]
theorem Zhf{γ:D->DL.Env->Option DL.Env}{φ:DL.Env->Option Out}{x:D}{r:List D}{δ δ1 δ2:DL.Env}(h1:γ x δ=some δ1)(h2:φ δ1=some (.bk δ2)):YO γ φ (x::r) δ=some (.nx δ2):=by
 unfold YO;rw [h1];dsimp only;rw [h2]
theorem Vq{e:DL.Env->Option D}{δ:DL.Env}{d:D}(h:e δ=some d):Zy e δ=some (.bl (Zp d)):=by
 unfold Zy;rw [h]
theorem ZaS{e:DL.Env->Option D}{δ:DL.Env}{d:D}(h:e δ=some d):ZH e δ=some (.bl (!Zp d)):=by
 unfold ZH;rw [h]
noncomputable def ldB:DL.Env->Option Out:=(Zf (Zk 2 (Zr "step" tab_step (Za 0) (Zb (Za 2) (Zb (Za 4) eNil)))) (sIf (xB (Zy (Za 2))) (Zm (Za 3)) sNext))
theorem ZgA:Zhv=(Zf (Zk 2 (Zr "begin" tab_begin (Za 0) eNil)) (Zf (Y8 (JR 0 (Za 1)) (Xr 2 (YC 3 (YC 4 gsNil))) ldB) (Zm (eC .non)))):=rfl
theorem Qo(M:Mv ms o V)(x1:Option D):∀(r:List Nat)(k:Nat)(s:D)(v3 v4:Option D),V s->(∀c∈r,c∈ms) ->
 (∀j,brk o k s r=some j->YO (Xr 2 (YC 3 (YC 4 gsNil))) ldB (Xc k (r.map λc => .str [c])) [some o,x1,some s,v3,v4]=some (.rt (.int (j:Nat)))) /\
 (brk o k s r=none->∃δ,YO (Xr 2 (YC 3 (YC 4 gsNil))) ldB (Xc k (r.map λc => .str [c])) [some o,x1,some s,v3,v4]=some (.nx δ))
 | [],k,s,v3,v4,_,_=>⟨λj h=>(by cases h),λ_=>⟨_,rfl⟩⟩
 |c::r,k,s,v3,v4,hs,h=>by
  obtain⟨h1,h2,h3⟩:=M.n hs (h c List.mem_cons_self);have g:Xr 2 (YC 3 (YC 4 gsNil)) (.tup [.int (k:Nat),.str [c]]) [some o,x1,some s,v3,v4]=some [some o,x1,some s,some (.int (k:Nat)),some (.str [c])]:=rfl;have a1:Zk 2 (Zr "step" tab_step (Za 0) (Zb (Za 2) (Zb (Za 4) eNil))) [some o,x1,some s,some (.int (k:Nat)),some (.str [c])]=some (.nx [some o,x1,some (nx o s c),some (.int (k:Nat)),some (.str [c])]):=Yy ((XE rfl (Zt rfl (Zt rfl nil_of))).trans h1)
  rw [Qn]
  by_cases hn:Zp (nx o s c)=true
  · rw [if_pos hn]
    refine⟨λj hj => ?_,λhj=>by cases hj⟩;cases hj;exact Ze9 g ((ZL a1).trans ((U7 (YF (by rw [Vq (d:=nx o s c) rfl,hn]))).trans (X1 rfl)))
  · rw [if_neg hn]
    have hn':Zp (nx o s c)=false:=by simpa using hn
    have e:=ZcV (φ:=ldB) (r:=Xc (k+1) (r.map λc => .str [c])) g ((ZL a1).trans ((Xv (YF (by rw [Vq (d:=nx o s c) rfl,hn']))).trans (show sNext _=some (.nx _)from rfl)));have ih:=Qo M x1 r (k+1) (nx o s c) (some (.int (k:Nat))) (some (.str [c])) (h3 hn') λd hd=>h d (List.mem_cons_of_mem _ hd)
    rw [List.map_cons,Xc,e];exact ih
theorem broken_at(M:Mv ms o V){row:List Nat}(h:∀c∈row,c∈ms):XQ [o,.str row]=some (oz (brk o 0 (b0 o) row)):=by
 obtain⟨h1,h2⟩:=M.b;obtain⟨l1,l2⟩:=Qo M (some (.str row)) row 0 (b0 o) none none h2 h;have a1:Zk 2 (Zr "begin" tab_begin (Za 0) eNil) [some o,some (.str row),none,none,none]=some (.nx [some o,some (.str row),some (b0 o),none,none]):=Yy ((XE rfl nil_of).trans h1);cases hb:brk o 0 (b0 o) row with
 |none=>
  obtain⟨δ,e⟩:=l2 hb;exact Y6 rfl ((congrFun ZgA _).trans ((ZL a1).trans ((ZL (V7 rfl e)).trans rfl)))
 |some j=>exact Y6 rfl ((congrFun ZgA _).trans ((ZL a1).trans (UA (V7 rfl (l1 j hb)))))
theorem Zfa(o:D):∀(r:List Nat)(k:Nat)(s:D)(j:Nat),brk o k s r=some j->k<=j/\j<k+r.length
 | [],k,s,j,h=>by cases h
 |c::r,k,s,j,h=>by
  rw [Qn]at h
  split at h
  · cases h;rw [List.length_cons];omega
  · have:=Zfa o r (k+1) _ j h
    rw [List.length_cons];omega
end
abbrev YG(ms:List Nat)(os:List D):D := .obj "All" ["marks", "rules"] [.str ms,.tup os]
def Ws:List D->List D->Prop
 | [],ss=>ss=[]
 |o::os,ss=>∃s r,ss=s::r/\W o s/\Ws os r
noncomputable def nxs(os ss:List D)(c:Nat):List D:=List.zipWith (λo s=>nx o s c) os ss
theorem Zkz{o s:D}(h:W o s):Zp s=false:=by
 unfold W at h
 split at h
 · split at h
   · obtain⟨i,j,rfl⟩:=h;rfl
   · split at h
     · obtain⟨n,rfl⟩:=h;rfl
     · obtain⟨n,rfl⟩:=h;rfl
 · exact h.elim
section
variable{ms:List Nat}
theorem Sg.mv{o:D}(S:Sg ms o):Mv ms o (W o):=⟨let⟨b,h1,_,h2⟩:=S.bg;⟨b,h1,h2⟩,λs h c hc=>let⟨x,h1,_,h2⟩:=S.st s h c hc;⟨x,h1,h2⟩,λs h=>Zkz h⟩
theorem Sg.b0_{o:D}(S:Sg ms o):YY tab_begin0 "begin" o []=some (b0 o):=by
 obtain⟨b,h1,h2,h3⟩:=S.bg;have e:b0 o=b:=by unfold b0;rw [h1];rfl
 rw [e,h2]
theorem Sg.n0{o s:D}(S:Sg ms o)(h:W o s){c:Nat}(hc:c∈ms):YY tab_step0 "step" o [s,.str [c]]=some (nx o s c):=by
 obtain⟨x,h1,h2,_⟩:=S.st s h c hc;have e:nx o s c=x:=by unfold nx;rw [h1];rfl
 rw [e,h2]
theorem Ws.b0:∀{os:List D},(∀o∈os,Sg ms o)->Ws os (os.map K04.b0)
 | [],_=>rfl
 |o::os,h=>⟨_,_,rfl,(h o List.mem_cons_self).mv.b.2,Ws.b0 λx hx=>h x (List.mem_cons_of_mem _ hx)⟩
theorem Ws.n{c:Nat}(hc:c∈ms):∀{os ss:List D},(∀o∈os,Sg ms o)->Ws os ss->(nxs os ss c).any Zp=false->Ws os (nxs os ss c)
 | [],_,_,_,_=>rfl
 |o::os,ss,h,w,a=>by
  obtain⟨s,r,rfl,w1,w2⟩:=w;have a':(Zp (nx o s c)||(nxs os r c).any Zp)=false:=a;rw [Bool.or_eq_false_iff]at a';exact⟨_,_,rfl,((h o List.mem_cons_self).mv.n w1 hc).2.2 a'.1,Ws.n hc (λx hx=>h x (List.mem_cons_of_mem _ hx)) w2 a'.2⟩
theorem Ws.len:∀{os ss:List D},Ws os ss->ss.length=os.length
 | [],_,h=>by rw [show _=[]from h]
 |o::os,_,h=>by
  obtain⟨s,r,rfl,_,w⟩:=h;rw [List.length_cons,List.length_cons,Ws.len w]
noncomputable def abB:DL.Env->Option Out:=(Zf (Zk 6 (Zr "step" tab_step0 (Za 4) (Zb (Za 5) (Zb (Za 2) eNil))))
 (Zf (sIf (xB (Zy (Za 6))) (Zm (eC .non)) sNext)
 (V2 3 (Za 6))))
theorem ZgB:Zhs=(Zf (Zk 3 (ZA eNil))
 (Zf (Y8 (QQ (Zq U9 "rules" (Za 0)) (Za 1)) (Xr 2 (YC 4 (YC 5 gsNil))) abB)
 (Zm (eCB Vj (Zb (Za 3) eNil))))):=rfl
theorem Zde{c:Nat}(hc:c∈ms)(x0 x1:Option D):∀(os ss acc:List D)(v4 v5 v6:Option D),(∀o∈os,Sg ms o)->Ws os ss->acc.length+os.length<=1000 ->
 ((nxs os ss c).any Zp=true->YO (Xr 2 (YC 4 (YC 5 gsNil))) abB (XC os ss) [x0,x1,some (.str [c]),some (.lst acc),v4,v5,v6]=some (.rt .non)) /\
 ((nxs os ss c).any Zp=false->∃w4 w5 w6,YO (Xr 2 (YC 4 (YC 5 gsNil))) abB (XC os ss) [x0,x1,some (.str [c]),some (.lst acc),v4,v5,v6]=some (.nx [x0,x1,some (.str [c]),some (.lst (acc++nxs os ss c)),w4,w5,w6]))
 | [],ss,acc,v4,v5,v6,_,w,_=>by
  cases(show ss=[]from w);exact⟨λh=>(by cases h),λ_=>⟨v4,v5,v6,by rw [show nxs [] [] c=[]from rfl,List.append_nil];rfl⟩⟩
 |o::os,ss,acc,v4,v5,v6,h,w,hl=>by
  obtain⟨s,r,rfl,w1,w2⟩:=w;have S:=h o List.mem_cons_self;obtain⟨_,n2,n3⟩:=S.mv.n w1 hc;have g:Xr 2 (YC 4 (YC 5 gsNil)) (.tup [o,s]) [x0,x1,some (.str [c]),some (.lst acc),v4,v5,v6]=some [x0,x1,some (.str [c]),some (.lst acc),some o,some s,v6]:=rfl;have a1:Zk 6 (Zr "step" tab_step0 (Za 4) (Zb (Za 5) (Zb (Za 2) eNil))) [x0,x1,some (.str [c]),some (.lst acc),some o,some s,v6]=some (.nx [x0,x1,some (.str [c]),some (.lst acc),some o,some s,some (nx o s c)]):=Yy ((XE rfl (Zt rfl (Zt rfl nil_of))).trans (S.n0 w1 hc))
  rw [List.length_cons]at hl;show((Zp (nx o s c)||(nxs os r c).any Zp)=true->_)/\((Zp (nx o s c)||(nxs os r c).any Zp)=false->_)
  cases hn:Zp (nx o s c)with
  |true=>
   refine⟨λ_=>Ze9 g ((ZL a1).trans (UA ((U7 (YF (by rw [Vq (d:=nx o s c) rfl,hn]))).trans rfl))),λz=>by cases z⟩
  |false=>
   rw [Bool.false_or];have e:=ZcV (φ:=abB) (r:=XC os r) g ((ZL a1).trans ((ZL ((Xv (YF (by rw [Vq (d:=nx o s c) rfl,hn]))).trans (show sNext _=some (.nx _)from rfl))).trans (Ze5 (i:=3) (d:=nx o s c) rfl rfl (by omega))));obtain⟨i1,i2⟩:=Zde hc x0 x1 os r (acc++[nx o s c]) (some o) (some s) (some (nx o s c)) (λx hx=>h x (List.mem_cons_of_mem _ hx)) w2 (by rw [List.length_append,List.length_singleton];omega)
   refine⟨λz=>e.trans (i1 z),λz => ?_⟩;obtain⟨w4,w5,w6,z⟩:=i2 z;exact⟨w4,w5,w6,(e.trans z).trans (by rw [List.append_assoc];rfl)⟩
theorem ZaP{os ss:List D}{c:Nat}(hc:c∈ms)(h:∀o∈os,Sg ms o)(w:Ws os ss)(hl:os.length<=100):Ziy [YG ms os,.tup ss,.str [c]]=some (if(nxs os ss c).any Zp=true then .non else .tup (nxs os ss c)):=by
 obtain⟨i1,i2⟩:=Zde hc (some (YG ms os)) (some (.tup ss)) os ss [] none none none h w (by simp;omega);have a1:Zk 3 (ZA eNil) [some (YG ms os),some (.tup ss),some (.str [c]),none,none,none,none]=some (.nx [some (YG ms os),some (.tup ss),some (.str [c]),some (.lst []),none,none,none]):=Yy (U8 nil_of (by decide));have ei:QQ (Zq U9 "rules" (Za 0)) (Za 1) [some (YG ms os),some (.tup ss),some (.str [c]),some (.lst []),none,none,none]=some (XC os ss):=rfl
 by_cases ha:(nxs os ss c).any Zp=true
 · rw [if_pos ha]
   exact Y6 rfl ((congrFun ZgB _).trans ((ZL a1).trans (UA (V7 ei (i1 ha)))))
 · rw [if_neg ha]
   obtain⟨w4,w5,w6,e⟩:=i2 (by simpa using ha);exact Y6 rfl ((congrFun ZgB _).trans ((ZL a1).trans ((ZL (V7 ei e)).trans (X1 ((Y9 (Zt rfl nil_of)).trans rfl)))))
theorem Zbs{os:List D}(h:∀o∈os,Sg ms o)(hl:os.length<=100):ZiB [YG ms os]=some (.tup (os.map b0)):=by
 refine Y6 rfl (X1 ((Y9 (Zt (X9 (xs:=os) (ys:=os.map b0) rfl rfl ?_ (by rw [List.length_map];omega)) nil_of)).trans rfl));exact XD b0 os λx hx=>⟨_,rfl,(XE rfl nil_of).trans (h x hx).b0_⟩
theorem Zdf{os:List D}{a:DL.Env->Option D}{δ:DL.Env}(h:a δ=some (YG ms os)):Zq fc_marks "marks" a δ=some (.str ms):=by
 unfold Zq;rw [h];rfl
theorem Zfb(h4:ms.length<=4){os:List D}(h:∀o∈os,Sg ms o)(hl:os.length<=100):Mv ms (YG ms os) (λs=>∃ss,s = .tup ss/\Ws os ss):=by
 refine⟨⟨_,(XA (ks:=["marks", "rules"]) (by decide) rfl rfl).trans (Zbs h hl),_,rfl,Ws.b0 h⟩,?_,?_⟩
 · rintro s ⟨ss,rfl,w⟩ c hc
   refine⟨_,(XA (ks:=["marks", "rules"]) (by decide) rfl rfl).trans (ZbO h4 hc Zdf ((XA (ks:=["marks", "rules"]) (by decide) rfl rfl).trans (ZaP hc h w hl))),?_⟩
   by_cases ha:(nxs os ss c).any Zp=true
   · rw [if_pos ha];exact .inl rfl
   · rw [if_neg ha];exact .inr ⟨_,rfl,Ws.n hc h w (by simpa using ha)⟩
 · rintro s ⟨ss,rfl,_⟩
   rfl
theorem Zfc(h4:ms.length<=4){os ss:List D}{c:Nat}(hc:c∈ms)(h:∀o∈os,Sg ms o)(w:Ws os ss)(hl:os.length<=100):nx (YG ms os) (.tup ss) c=if(nxs os ss c).any Zp=true then .non else .tup (nxs os ss c):=by
 unfold nx;rw [(XA (ks:=["marks", "rules"]) (by decide) rfl rfl).trans (ZbO h4 hc Zdf ((XA (ks:=["marks", "rules"]) (by decide) rfl rfl).trans (ZaP hc h w hl)))];rfl
theorem Zhg{os:List D}(h:∀o∈os,Sg ms o)(hl:os.length<=100):b0 (YG ms os) = .tup (os.map b0):=by
 unfold b0;rw [(XA (ks:=["marks", "rules"]) (by decide) rfl rfl).trans (Zbs h hl)];rfl
end
end K04
namespace K04
open DL L2
def Vr(mk:Nat)(lo:Int)(mo:Option Int):D := .tup [.str [103,97,112],.str [mk],.int lo,Va mo]
def ZiH(wd:List Nat):D := .tup [.str [110,101,118,101,114],.str wd]
def Qp(mk:Nat)(ev at_:Int):D := .tup [.str [116,117,114,110],.str [mk],.int ev,.int at_]
def Jj(mo:Int):D := .tup [.str [97,108,105,107,101],.int mo]
inductive Ru(ms:List Nat):D->D->Prop
 |gap (mk:Nat) (lo:Int) (mo:Option Int) (h1:mk∈ms) (h2:0<=lo) (h3:lo<=8) (h4:∀m,mo=some m->lo<=m/\m<=8):Ru ms (Vr mk lo mo) (K04.gap ms mk lo mo)
 |never (wd:List Nat) (h1:1<=wd.length) (h2:wd.length<=6) (h3:∀c∈wd,c∈ms):Ru ms (ZiH wd) (nev ms wd)
 |sum (ws:List Int) (lo hi:Int) (h1:ws.length=ms.length) (h2:∀w∈ws,-3<=w/\w<=3) (h3 : -8<=lo) (h4:lo<=0) (h5:0<=hi) (h6:hi<=8):Ru ms (Qm ws lo hi) (Qk ms ws lo hi)
 |turn (mk:Nat) (ev at_:Int) (h1:mk∈ms) (h2:1<=ev) (h3:ev<=6) (h4:0<=at_) (h5:at_<=ev-1):Ru ms (Qp mk ev at_) (Qj ms mk ev at_)
 |alike (mo:Int) (h1:1<=mo) (h2:mo<=6):Ru ms (Jj mo) (Ui ms mo)
theorem Ru.sg{ms:List Nat}(h4:ms.length<=4){d o:D}(h:Ru ms d o):Sg ms o:=by
 cases h with
 |gap mk lo mo=>exact Zhb h4 mk lo mo
 |never wd h1 h2=>exact Zhd h4 h2
 |sum ws lo hi h1=>exact Zhe h4 h1
 |turn mk ev at_ h1 h2=>exact ZfZ h4 mk h2
 |alike mo=>exact ZeK h4 mo
theorem Zdg{ms:List Nat}(M:Ms ms){d o:D}(h:Ru ms d o):Xk [.str ms,d]=some o:=by
 cases h with
 |gap mk lo mo h1 h2 h3 h4=>
  have e:=ZeG M h1 h2 h3 mo h4;have e0:∀x:D,atI [D.str [103,97,112],.str [mk],.int lo,x] 0=some (.str [103,97,112]):=λ_=>rfl
  have e1:∀x:D,atI [D.str [103,97,112],.str [mk],.int lo,x] 1=some (.str [mk]):=λ_=>rfl
  have e2:∀x:D,atI [D.str [103,97,112],.str [mk],.int lo,x] 2=some (.int lo):=λ_=>rfl
  have e3:∀x:D,atI [D.str [103,97,112],.str [mk],.int lo,x] 3=some x:=λ_=>rfl
  cases mo with
  |none=>rw [Xy]at e;simp [Xk,VQ,Vr,e0,e1,e2,e3,e,Xy,DL.run,DL.runI,Zf,sIf,Zm,Z4,sNext,Zk,Zx,ZC,ZJ,sNever,xB,bD,Zz,ZD,xOr,Za,eC,eOp,ZM,eOr,ZN,eIf,Zy,ZH,Zp,ZP,eUn,ZI,eNil,Zb,ZA,ZE,eCB,lenD,minD,Z3,Zn,ZK,Zr,Zq,eSl,xP,xNoP,addD,subD,mulD,fdivD,modD,Zu,ixD,isD,eBM,ZF,ZO,kind,plainKinds,ZQ,ZS,ZU,ZV,ZW,ZX,ZY,Z5,ZZ,Z6,Z7,List.lookup,ZG,CMul,PySem.sizeLine_eq,List.replicate]
  |some m=>rw [Xz]at e;simp [Xk,VQ,Vr,e0,e1,e2,e3,e,Xz,DL.run,DL.runI,Zf,sIf,Zm,Z4,sNext,Zk,Zx,ZC,ZJ,sNever,xB,bD,Zz,ZD,xOr,Za,eC,eOp,ZM,eOr,ZN,eIf,Zy,ZH,Zp,ZP,eUn,ZI,eNil,Zb,ZA,ZE,eCB,lenD,minD,Z3,Zn,ZK,Zr,Zq,eSl,xP,xNoP,addD,subD,mulD,fdivD,modD,Zu,ixD,isD,eBM,ZF,ZO,kind,plainKinds,ZQ,ZS,ZU,ZV,ZW,ZX,ZY,Z5,ZZ,Z6,Z7,List.lookup,ZG,CMul,PySem.sizeLine_eq,List.replicate]
 |never wd h1 h2 h3=>
  have e:=ZcG M h1 h2 h3;have e0:atI [D.str [110,101,118,101,114],.str wd] 0=some (.str [110,101,118,101,114]):=rfl;have e1:atI [D.str [110,101,118,101,114],.str wd] 1=some (.str wd):=rfl;simp [Xk,VQ,ZiH,e0,e1,e,DL.run,DL.runI,Zf,sIf,Zm,Z4,sNext,Zk,Zx,ZC,ZJ,sNever,xB,bD,Zz,ZD,xOr,Za,eC,eOp,ZM,eOr,ZN,eIf,Zy,ZH,Zp,ZP,eUn,ZI,eNil,Zb,ZA,ZE,eCB,lenD,minD,Z3,Zn,ZK,Zr,Zq,eSl,xP,xNoP,addD,subD,mulD,fdivD,modD,Zu,ixD,isD,eBM,ZF,ZO,kind,plainKinds,ZQ,ZS,ZU,ZV,ZW,ZX,ZY,Z5,ZZ,Z6,Z7,List.lookup,ZG,CMul,PySem.sizeLine_eq,List.replicate]
 |sum ws lo hi h1 h2 h3 h4 h5 h6=>
  have e:=ZeJ M h1 h2 h3 h4 h5 h6;have e0:atI [D.str [115,117,109],.tup (ws.map D.int),.int lo,.int hi] 0=some (.str [115,117,109]):=rfl;have e1:atI [D.str [115,117,109],.tup (ws.map D.int),.int lo,.int hi] 1=some (.tup (ws.map D.int)):=rfl;have e2:atI [D.str [115,117,109],.tup (ws.map D.int),.int lo,.int hi] 2=some (.int lo):=rfl;have e3:atI [D.str [115,117,109],.tup (ws.map D.int),.int lo,.int hi] 3=some (.int hi):=rfl
  simp [Xk,VQ,e0,e1,e2,e3,e,DL.run,DL.runI,Zf,sIf,Zm,Z4,sNext,Zk,Zx,ZC,ZJ,sNever,xB,bD,Zz,ZD,xOr,Za,eC,eOp,ZM,eOr,ZN,eIf,Zy,ZH,Zp,ZP,eUn,ZI,eNil,Zb,ZA,ZE,eCB,lenD,minD,Z3,Zn,ZK,Zr,Zq,eSl,xP,xNoP,addD,subD,mulD,fdivD,modD,Zu,ixD,isD,eBM,ZF,ZO,kind,plainKinds,ZQ,ZS,ZU,ZV,ZW,ZX,ZY,Z5,ZZ,Z6,Z7,List.lookup,ZG,CMul,PySem.sizeLine_eq,List.replicate]
 |turn mk ev at_ h1 h2 h3 h4 h5=>
  have e:=ZdS M h1 h2 h3 h4 h5;have e0:atI [D.str [116,117,114,110],.str [mk],.int ev,.int at_] 0=some (.str [116,117,114,110]):=rfl;have e1:atI [D.str [116,117,114,110],.str [mk],.int ev,.int at_] 1=some (.str [mk]):=rfl;have e2:atI [D.str [116,117,114,110],.str [mk],.int ev,.int at_] 2=some (.int ev):=rfl;have e3:atI [D.str [116,117,114,110],.str [mk],.int ev,.int at_] 3=some (.int at_):=rfl
  simp [Xk,VQ,Qp,e0,e1,e2,e3,e,DL.run,DL.runI,Zf,sIf,Zm,Z4,sNext,Zk,Zx,ZC,ZJ,sNever,xB,bD,Zz,ZD,xOr,Za,eC,eOp,ZM,eOr,ZN,eIf,Zy,ZH,Zp,ZP,eUn,ZI,eNil,Zb,ZA,ZE,eCB,lenD,minD,Z3,Zn,ZK,Zr,Zq,eSl,xP,xNoP,addD,subD,mulD,fdivD,modD,Zu,ixD,isD,eBM,ZF,ZO,kind,plainKinds,ZQ,ZS,ZU,ZV,ZW,ZX,ZY,Z5,ZZ,Z6,Z7,List.lookup,ZG,CMul,PySem.sizeLine_eq,List.replicate]
 |alike mo h1 h2=>
  have e:=ZcI M h1 h2;have e0:atI [D.str [97,108,105,107,101],.int mo] 0=some (.str [97,108,105,107,101]):=rfl;have e1:atI [D.str [97,108,105,107,101],.int mo] 1=some (.int mo):=rfl;simp [Xk,VQ,Jj,e0,e1,e,DL.run,DL.runI,Zf,sIf,Zm,Z4,sNext,Zk,Zx,ZC,ZJ,sNever,xB,bD,Zz,ZD,xOr,Za,eC,eOp,ZM,eOr,ZN,eIf,Zy,ZH,Zp,ZP,eUn,ZI,eNil,Zb,ZA,ZE,eCB,lenD,minD,Z3,Zn,ZK,Zr,Zq,eSl,xP,xNoP,addD,subD,mulD,fdivD,modD,Zu,ixD,isD,eBM,ZF,ZO,kind,plainKinds,ZQ,ZS,ZU,ZV,ZW,ZX,ZY,Z5,ZZ,Z6,Z7,List.lookup,ZG,CMul,PySem.sizeLine_eq,List.replicate]
theorem ZdT(mk:Nat)(lo:Int)(x:D)(row:List Nat)(hl:row.length<=1000):∃i:Int,Q6 [.tup [.str [103,97,112],.str [mk],.int lo,x],.str row]=some (.int i):=by
 have e1:atI [D.str [103,97,112],.str [mk],.int lo,x] 1=some (.str [mk]):=rfl;have e2:atI [D.str [103,97,112],.str [mk],.int lo,x] 2=some (.int lo):=rfl;have hz:row.length<=16777216:=by omega
 by_cases h:X5 mk row<0
 · exact⟨row.length+lo,by simp [Q6,Q5,rfindD,e1,e2,h,hz,DL.run,DL.runI,Zf,sIf,Zm,Z4,sNext,Zk,Zx,ZC,ZJ,sNever,xB,bD,Zz,ZD,xOr,Za,eC,eOp,ZM,eOr,ZN,eIf,Zy,ZH,Zp,ZP,eUn,ZI,eNil,Zb,ZA,ZE,eCB,lenD,minD,Z3,Zn,ZK,Zr,Zq,eSl,xP,xNoP,addD,subD,mulD,fdivD,modD,Zu,ixD,isD,eBM,ZF,ZO,kind,plainKinds,ZQ,ZS,ZU,ZV,ZW,ZX,ZY,Z5,ZZ,Z6,Z7,List.lookup,ZG,CMul,PySem.sizeLine_eq,List.replicate]⟩
 · exact⟨row.length-1-X5 mk row,by simp [Q6,Q5,rfindD,e1,e2,h,hz,DL.run,DL.runI,Zf,sIf,Zm,Z4,sNext,Zk,Zx,ZC,ZJ,sNever,xB,bD,Zz,ZD,xOr,Za,eC,eOp,ZM,eOr,ZN,eIf,Zy,ZH,Zp,ZP,eUn,ZI,eNil,Zb,ZA,ZE,eCB,lenD,minD,Z3,Zn,ZK,Zr,Zq,eSl,xP,xNoP,addD,subD,mulD,fdivD,modD,Zu,ixD,isD,eBM,ZF,ZO,kind,plainKinds,ZQ,ZS,ZU,ZV,ZW,ZX,ZY,Z5,ZZ,Z6,Z7,List.lookup,ZG,CMul,PySem.sizeLine_eq,List.replicate]⟩
theorem ZeL{ms:List Nat}{ws:List Int}{lo hi:Int}(hw:ws.length=ms.length){row:List Nat}(hr:∀c∈row,c∈ms)(hl:row.length<=1000):ZiE [.str ms,Qm ws lo hi,.str row]=some (.int (row.map (wor ws ms)).sum):=by
 refine Y6 rfl (X1 ((Y9 (Zt (X9 rfl rfl (ZeI hw hr) (by rw [List.length_map,List.length_map];omega)) nil_of)).trans ?_));unfold sumLD;dsimp only;rw [Zbj]
theorem Zf0(r:List Nat)(c:Nat):atI (r++[c]) (-1)=some c:=Zd6 r c
theorem ZdU{ms:List Nat}{d o:D}(h:Ru ms d o){r:List Nat}{c:Nat}(hr:∀x∈r++[c],x∈ms)(hl:r.length<=200):∃b,Xe [.str ms,d,.str (r++[c])]=some (.bl b):=by
 have hz:r.length+1<=16777216:=by omega
 have hz':r.length<=16777215:=by omega
 have hat:=Zf0 r c;cases h with
 |gap mk lo mo h1 h2 h3 h4=>
  have hcut:=Zez r c;obtain⟨i,hi⟩:=ZdT mk lo (Va mo) r (by omega);have e0:∀x:D,atI [D.str [103,97,112],.str [mk],.int lo,x] 0=some (.str [103,97,112]):=λ_=>rfl
  have e1:∀x:D,atI [D.str [103,97,112],.str [mk],.int lo,x] 1=some (.str [mk]):=λ_=>rfl
  have e2:∀x:D,atI [D.str [103,97,112],.str [mk],.int lo,x] 2=some (.int lo):=λ_=>rfl
  have e3:∀x:D,atI [D.str [103,97,112],.str [mk],.int lo,x] 3=some x:=λ_=>rfl
  by_cases hc:c=mk
  · subst hc
    refine⟨decide (i<lo),?_⟩;cases mo with
    |none=>rw [Xy]at hi;simp [Xe,XR,Vr,slD,hcut,e0,e1,e2,e3,hi,hat,hz,hz',Xy,DL.run,DL.runI,Zf,sIf,Zm,Z4,sNext,Zk,Zx,ZC,ZJ,sNever,xB,bD,Zz,ZD,xOr,Za,eC,eOp,ZM,eOr,ZN,eIf,Zy,ZH,Zp,ZP,eUn,ZI,eNil,Zb,ZA,ZE,eCB,lenD,minD,Z3,Zn,ZK,Zr,Zq,eSl,xP,xNoP,addD,subD,mulD,fdivD,modD,Zu,ixD,isD,eBM,ZF,ZO,kind,plainKinds,ZQ,ZS,ZU,ZV,ZW,ZX,ZY,Z5,ZZ,Z6,Z7,List.lookup,ZG,CMul,PySem.sizeLine_eq,List.replicate]
    |some m=>rw [Xz]at hi;simp [Xe,XR,Vr,slD,hcut,e0,e1,e2,e3,hi,hat,hz,hz',Xz,DL.run,DL.runI,Zf,sIf,Zm,Z4,sNext,Zk,Zx,ZC,ZJ,sNever,xB,bD,Zz,ZD,xOr,Za,eC,eOp,ZM,eOr,ZN,eIf,Zy,ZH,Zp,ZP,eUn,ZI,eNil,Zb,ZA,ZE,eCB,lenD,minD,Z3,Zn,ZK,Zr,Zq,eSl,xP,xNoP,addD,subD,mulD,fdivD,modD,Zu,ixD,isD,eBM,ZF,ZO,kind,plainKinds,ZQ,ZS,ZU,ZV,ZW,ZX,ZY,Z5,ZZ,Z6,Z7,List.lookup,ZG,CMul,PySem.sizeLine_eq,List.replicate]
  · cases mo with
    |none=>
     rw [Xy]at hi;exact⟨false,by simp [Xe,XR,Vr,slD,hcut,e0,e1,e2,e3,hi,hat,hc,hz,hz',Xy,DL.run,DL.runI,Zf,sIf,Zm,Z4,sNext,Zk,Zx,ZC,ZJ,sNever,xB,bD,Zz,ZD,xOr,Za,eC,eOp,ZM,eOr,ZN,eIf,Zy,ZH,Zp,ZP,eUn,ZI,eNil,Zb,ZA,ZE,eCB,lenD,minD,Z3,Zn,ZK,Zr,Zq,eSl,xP,xNoP,addD,subD,mulD,fdivD,modD,Zu,ixD,isD,eBM,ZF,ZO,kind,plainKinds,ZQ,ZS,ZU,ZV,ZW,ZX,ZY,Z5,ZZ,Z6,Z7,List.lookup,ZG,CMul,PySem.sizeLine_eq,List.replicate]⟩
    |some m=>
     rw [Xz]at hi;exact⟨decide (m<i+1),by simp [Xe,XR,Vr,slD,hcut,e0,e1,e2,e3,hi,hat,hc,hz,hz',Xz,DL.run,DL.runI,Zf,sIf,Zm,Z4,sNext,Zk,Zx,ZC,ZJ,sNever,xB,bD,Zz,ZD,xOr,Za,eC,eOp,ZM,eOr,ZN,eIf,Zy,ZH,Zp,ZP,eUn,ZI,eNil,Zb,ZA,ZE,eCB,lenD,minD,Z3,Zn,ZK,Zr,Zq,eSl,xP,xNoP,addD,subD,mulD,fdivD,modD,Zu,ixD,isD,eBM,ZF,ZO,kind,plainKinds,ZQ,ZS,ZU,ZV,ZW,ZX,ZY,Z5,ZZ,Z6,Z7,List.lookup,ZG,CMul,PySem.sizeLine_eq,List.replicate]⟩
 |never wd h1 h2 h3=>
  have e0:atI [D.str [110,101,118,101,114],.str wd] 0=some (.str [110,101,118,101,114]):=rfl;have e1:atI [D.str [110,101,118,101,114],.str wd] 1=some (.str wd):=rfl;exact⟨wd.isSuffixOf (r++[c]),by simp [Xe,XR,ZiH,endsD,e0,e1,DL.run,DL.runI,Zf,sIf,Zm,Z4,sNext,Zk,Zx,ZC,ZJ,sNever,xB,bD,Zz,ZD,xOr,Za,eC,eOp,ZM,eOr,ZN,eIf,Zy,ZH,Zp,ZP,eUn,ZI,eNil,Zb,ZA,ZE,eCB,lenD,minD,Z3,Zn,ZK,Zr,Zq,eSl,xP,xNoP,addD,subD,mulD,fdivD,modD,Zu,ixD,isD,eBM,ZF,ZO,kind,plainKinds,ZQ,ZS,ZU,ZV,ZW,ZX,ZY,Z5,ZZ,Z6,Z7,List.lookup,ZG,CMul,PySem.sizeLine_eq,List.replicate]⟩
 |sum ws lo hi h1 h2 h3 h4 h5 h6=>
  have ht:=ZeL (lo:=lo) (hi:=hi) h1 hr (by rw [List.length_append,List.length_singleton];omega);generalize ((r++[c]).map (wor ws ms)).sum=t at ht;have e0:atI [D.str [115,117,109],.tup (ws.map D.int),.int lo,.int hi] 0=some (.str [115,117,109]):=rfl;have e2:atI [D.str [115,117,109],.tup (ws.map D.int),.int lo,.int hi] 2=some (.int lo):=rfl;have e3:atI [D.str [115,117,109],.tup (ws.map D.int),.int lo,.int hi] 3=some (.int hi):=rfl
  simp only [Qm]at ht
  by_cases h:t<lo
  · exact⟨true,by simp [Xe,XR,e0,e2,e3,ht,h,DL.run,DL.runI,Zf,sIf,Zm,Z4,sNext,Zk,Zx,ZC,ZJ,sNever,xB,bD,Zz,ZD,xOr,Za,eC,eOp,ZM,eOr,ZN,eIf,Zy,ZH,Zp,ZP,eUn,ZI,eNil,Zb,ZA,ZE,eCB,lenD,minD,Z3,Zn,ZK,Zr,Zq,eSl,xP,xNoP,addD,subD,mulD,fdivD,modD,Zu,ixD,isD,eBM,ZF,ZO,kind,plainKinds,ZQ,ZS,ZU,ZV,ZW,ZX,ZY,Z5,ZZ,Z6,Z7,List.lookup,ZG,CMul,PySem.sizeLine_eq,List.replicate]⟩
  · exact⟨decide (hi<t),by simp [Xe,XR,e0,e2,e3,ht,h,DL.run,DL.runI,Zf,sIf,Zm,Z4,sNext,Zk,Zx,ZC,ZJ,sNever,xB,bD,Zz,ZD,xOr,Za,eC,eOp,ZM,eOr,ZN,eIf,Zy,ZH,Zp,ZP,eUn,ZI,eNil,Zb,ZA,ZE,eCB,lenD,minD,Z3,Zn,ZK,Zr,Zq,eSl,xP,xNoP,addD,subD,mulD,fdivD,modD,Zu,ixD,isD,eBM,ZF,ZO,kind,plainKinds,ZQ,ZS,ZU,ZV,ZW,ZX,ZY,Z5,ZZ,Z6,Z7,List.lookup,ZG,CMul,PySem.sizeLine_eq,List.replicate]⟩
 |turn mk ev at_ h1 h2 h3 h4 h5=>
  have e0:atI [D.str [116,117,114,110],.str [mk],.int ev,.int at_] 0=some (.str [116,117,114,110]):=rfl;have e1:atI [D.str [116,117,114,110],.str [mk],.int ev,.int at_] 1=some (.str [mk]):=rfl;have e2:atI [D.str [116,117,114,110],.str [mk],.int ev,.int at_] 2=some (.int ev):=rfl;have e3:atI [D.str [116,117,114,110],.str [mk],.int ev,.int at_] 3=some (.int at_):=rfl
  have h0:0<ev:=by omega
  by_cases hc:c=mk
  · subst hc
    exact⟨!decide ((r.length:Int) % ev=at_),by simp [Xe,XR,Qp,e0,e1,e2,e3,hat,hz,hz',h0,DL.run,DL.runI,Zf,sIf,Zm,Z4,sNext,Zk,Zx,ZC,ZJ,sNever,xB,bD,Zz,ZD,xOr,Za,eC,eOp,ZM,eOr,ZN,eIf,Zy,ZH,Zp,ZP,eUn,ZI,eNil,Zb,ZA,ZE,eCB,lenD,minD,Z3,Zn,ZK,Zr,Zq,eSl,xP,xNoP,addD,subD,mulD,fdivD,modD,Zu,ixD,isD,eBM,ZF,ZO,kind,plainKinds,ZQ,ZS,ZU,ZV,ZW,ZX,ZY,Z5,ZZ,Z6,Z7,List.lookup,ZG,CMul,PySem.sizeLine_eq,List.replicate]⟩
  · exact⟨false,by simp [Xe,XR,Qp,e0,e1,e2,e3,hat,hc,hz,hz',DL.run,DL.runI,Zf,sIf,Zm,Z4,sNext,Zk,Zx,ZC,ZJ,sNever,xB,bD,Zz,ZD,xOr,Za,eC,eOp,ZM,eOr,ZN,eIf,Zy,ZH,Zp,ZP,eUn,ZI,eNil,Zb,ZA,ZE,eCB,lenD,minD,Z3,Zn,ZK,Zr,Zq,eSl,xP,xNoP,addD,subD,mulD,fdivD,modD,Zu,ixD,isD,eBM,ZF,ZO,kind,plainKinds,ZQ,ZS,ZU,ZV,ZW,ZX,ZY,Z5,ZZ,Z6,Z7,List.lookup,ZG,CMul,PySem.sizeLine_eq,List.replicate]⟩
 |alike mo h1 h2=>
  have e0:atI [D.str [97,108,105,107,101],.int mo] 0=some (.str [97,108,105,107,101]):=rfl;have e1:atI [D.str [97,108,105,107,101],.int mo] 1=some (.int mo):=rfl;have g1:mo+1<9223372036854775808:=by omega
  have g2 : -9223372036854775808<=mo+1:=by omega
  have g3:(mo+1).toNat<=16777216:=by omega
  exact⟨(UR [c] (mo+1)).isSuffixOf (r++[c]),by simp [Xe,XR,Jj,endsD,e0,e1,hat,hz,hz',g1,g2,g3,DL.run,DL.runI,Zf,sIf,Zm,Z4,sNext,Zk,Zx,ZC,ZJ,sNever,xB,bD,Zz,ZD,xOr,Za,eC,eOp,ZM,eOr,ZN,eIf,Zy,ZH,Zp,ZP,eUn,ZI,eNil,Zb,ZA,ZE,eCB,lenD,minD,Z3,Zn,ZK,Zr,Zq,eSl,xP,xNoP,addD,subD,mulD,fdivD,modD,Zu,ixD,isD,eBM,ZF,ZO,kind,plainKinds,ZQ,ZS,ZU,ZV,ZW,ZX,ZY,Z5,ZZ,Z6,Z7,List.lookup,ZG,CMul,PySem.sizeLine_eq,List.replicate]⟩
end K04
namespace K04
open DL L2
noncomputable def wE:DL.Env->Option D:=(eOp ixD (Za 1) (eOp modD (eOp fdivD (Za 2) (eOp ixD (ZA (Zb (eC (.int 1)) (Zb (eC (.int 3)) (Zb (eC (.int 7)) (Zb (eC (.int 11)) (Zb (eC (.int 17)) (Zb (eC (.int 23)) eNil))))))) (Za 0))) (eCB lenD (Zb (Za 1) eNil))))
def prm:List Int:=[1,3,7,11,17,23]
def wF(ms:List Nat)(one:Int)(k:Nat):Nat:=(atI ms (one / prm.getD k 1 % ms.length)).getD 0
theorem Zhh:∀k:Fin 6,0<prm.getD k.val 1/\prm.getD k.val 1<30:=by decide
theorem ZgC{ms:List Nat}(h2:2<=ms.length)(h4:ms.length<=4)(one:Int)(k:Nat)(hk:k<6):wE [some (.int (k:Nat)),some (.str ms),some (.int one)]=some (.str [wF ms one k])/\wF ms one k∈ms:=by
 obtain⟨p1,p2⟩:=Zhh ⟨k,hk⟩;dsimp only at p1 p2;obtain⟨z,h5,h6⟩:=ZcR (ms:=ms) (by omega) (one / prm.getD k 1);have e:wF ms one k=z:=by unfold wF;rw [h5];rfl
 rw [e];refine⟨?_,h6⟩
 have hp:ixD (.lst (prm.map D.int)) (.int (k:Int))=some (.int (prm.getD k 1)):=by
  refine VL ?_;rw [List.getElem?_map,List.getD_eq_getElem?_getD,List.getElem?_eq_getElem (show k<prm.length from hk)];rfl
 exact(Ye rfl ((Ye ((Ye (x:=.int one) rfl ((Ye (U8 (Zt rfl (Zt rfl (Zt rfl (Zt rfl (Zt rfl (Zt rfl nil_of)))))) (by decide)) rfl).trans hp)).trans (JZ ⟨p1,by omega⟩)) ((Y9 (Zt rfl nil_of)).trans (len_str (by omega)))).trans (V6 (by omega)))).trans (QV (by rw [PySem.sizeLine_eq];omega) h5)
def wD(ms:List Nat)(one:Int):D->D
 | .int k => .str [wF ms one k.toNat]
 |_ => .non
theorem Zhi{ms:List Nat}(h2:2<=ms.length)(h4:ms.length<=4)(one:Int)(n:Nat)(hn:n<=6):YX (Z9 0) (λ_=>some true) wE [none,some (.str ms),some (.int one)] (YA 0 1 n)=some ((List.range n).map λk => .str [wF ms one k]):=by
 rw [XD (wD ms one)]
 · unfold YA
   rw [List.map_map]
   congr 1
   refine List.map_congr_left λk _ => ?_
   have e:(0+(k:Int)*1)=k:=by omega
   show wD ms one (.int (0+(k:Int)*1))=_;rw [e];rfl
 · intro x hx
   obtain⟨i,hi,rfl⟩:=Za3 hx;have e:(0+(i:Int)*1)=i:=by omega
   rw [e];exact⟨_,rfl,(ZgC h2 h4 one i (by omega)).1⟩
theorem Zf1:∃A0 A2 A3 A4,ZhF=Zf (Zk 5 (eOp ixD (Za 0) (eOp modD (Za 2) (eCB lenD (Zb (Za 0) eNil)))))
 (Zf (sIf (xB (eOp eqD (eOp modD (Za 1) (eC (.int 5))) (eC (.int 0)))) A0 sNext)
 (Zf (sIf (xB (eOp eqD (eOp modD (Za 1) (eC (.int 5))) (eC (.int 1)))) (Zf (Zk 7 (eOp addD (eC (.int 1)) (eOp modD (Za 3) (eC (.int 6)))))
   (Zm (ZE (Zb (eC (.str [110,101,118,101,114])) (Zb (eBM joinD (eC (.str [])) (Zb (Yo (Y5 (Zb (Za 7) eNil)) (Z9 0) (λ_=>some true) wE 1 [0,2]) eNil)) eNil))))) sNext)
 (Zf (sIf (xB (eOp eqD (eOp modD (Za 1) (eC (.int 5))) (eC (.int 2)))) A2 sNext)
 (Zf (sIf (xB (eOp eqD (eOp modD (Za 1) (eC (.int 5))) (eC (.int 3)))) A3 sNext) A4)))) /\
 (∀(ms:List Nat)(k o t u:Int)(mk:Nat),∃lo mo,0<=lo/\lo<=8/\(∀m,mo=some m->lo<=m/\m<=8)/\A0 [some (.str ms),some (.int k),some (.int o),some (.int t),some (.int u),some (.str [mk]),none,none,none,none]=some (.rt (Vr mk lo mo))) /\
 (∀(ms:List Nat)(k o t u:Int)(mk:Nat),2<=ms.length->ms.length<=4->∃ws lo hi,ws.length=ms.length/\(∀w∈ws,-3<=w/\w<=3) /\ -8<=lo/\lo<=0/\0<=hi/\hi<=8/\A2 [some (.str ms),some (.int k),some (.int o),some (.int t),some (.int u),some (.str [mk]),none,none,none,none]=some (.rt (Qm ws lo hi))) /\
 (∀(ms:List Nat)(k o t u:Int)(mk:Nat),∃ev at_,1<=ev/\ev<=6/\0<=at_/\at_<=ev-1/\A3 [some (.str ms),some (.int k),some (.int o),some (.int t),some (.int u),some (.str [mk]),none,none,none,none]=some (.rt (Qp mk ev at_))) /\
 (∀(ms:List Nat)(k o t u:Int)(mk:Nat),∃mo,1<=mo/\mo<=6/\A4 [some (.str ms),some (.int k),some (.int o),some (.int t),some (.int u),some (.str [mk]),none,none,none,none]=some (.rt (Jj mo))):=by
 refine⟨_,_,_,_,rfl,λms k o t u mk => ?_,λms k o t u mk h2 h4 => ?_,λms k o t u mk => ?_,λms k o t u mk => ?_⟩
 · obtain ⟨lo, l1, l2, l3⟩ : ∃ lo : Int, 0 <= lo /\ lo <= 8 /\ atI [D.int (t % 3), .int (t % 9)] (u % 2) = some (.int lo) := by
    rcases(show u % 2=0\/u % 2=1 by omega)with e|e
    · exact⟨t % 3,by omega,by omega,by rw [e];rfl⟩
    · exact⟨t % 9,by omega,by omega,by rw [e];rfl⟩
   have d2:ZG u 2:=⟨by omega,by omega⟩
   have d6:ZG u 6:=⟨by omega,by omega⟩
   by_cases hu:u / 2 % 3=0
   · exact⟨lo,none,l1,l2,λm hm=>(by cases hm),by simp [l3,hu,Vr,Xy,DL.run,DL.runI,Zf,sIf,Zm,Z4,sNext,Zk,Zx,ZC,ZJ,sNever,xB,bD,Zz,ZD,xOr,Za,eC,eOp,ZM,eOr,ZN,eIf,Zy,ZH,Zp,ZP,eUn,ZI,eNil,Zb,ZA,ZE,eCB,lenD,minD,Z3,Zn,ZK,Zr,Zq,eSl,xP,xNoP,addD,subD,mulD,fdivD,modD,Zu,ixD,isD,eBM,ZF,ZO,kind,plainKinds,ZQ,ZS,ZU,ZV,ZW,ZX,ZY,Z5,ZZ,Z6,Z7,List.lookup,ZG,CMul,PySem.sizeLine_eq,List.replicate]⟩
   · refine⟨lo,some (if lo+u / 6 % 5<8 then lo+u / 6 % 5 else 8),l1,l2,λm hm => ?_,by simp [l3,hu,Vr,Xz,DL.run,DL.runI,Zf,sIf,Zm,Z4,sNext,Zk,Zx,ZC,ZJ,sNever,xB,bD,Zz,ZD,xOr,Za,eC,eOp,ZM,eOr,ZN,eIf,Zy,ZH,Zp,ZP,eUn,ZI,eNil,Zb,ZA,ZE,eCB,lenD,minD,Z3,Zn,ZK,Zr,Zq,eSl,xP,xNoP,addD,subD,mulD,fdivD,modD,Zu,ixD,isD,eBM,ZF,ZO,kind,plainKinds,ZQ,ZS,ZU,ZV,ZW,ZX,ZY,Z5,ZZ,Z6,Z7,List.lookup,ZG,CMul,PySem.sizeLine_eq,List.replicate]⟩
     cases hm
     split<;>omega
 · have hcut : ∀ a b c d : Int, cutL [D.int a, .int b, .int c, .int d] none (some (ms.length : Int)) = ([a, b, c, d].take ms.length).map D.int := fun a b c d => by
    rw [ZbP,List.map_take];rfl
   have hz:ms.length<=16777216:=by omega
   refine⟨[o % 7-3,t % 7-3,o / 7 % 7-3,t / 7 % 7-3].take ms.length,-(u % 9),u / 9 % 9,by rw [List.length_take];simp;omega,λw hw => ?_,by omega,by omega,by omega,by omega,?_⟩
   · have:=List.mem_of_mem_take hw
     simp only [List.mem_cons,List.mem_nil_iff,or_false]at this;omega
   · simp [slD,hcut,hz,Vj,Qm,DL.run,DL.runI,Zf,sIf,Zm,Z4,sNext,Zk,Zx,ZC,ZJ,sNever,xB,bD,Zz,ZD,xOr,Za,eC,eOp,ZM,eOr,ZN,eIf,Zy,ZH,Zp,ZP,eUn,ZI,eNil,Zb,ZA,ZE,eCB,lenD,minD,Z3,Zn,ZK,Zr,Zq,eSl,xP,xNoP,addD,subD,mulD,fdivD,modD,Zu,ixD,isD,eBM,ZF,ZO,kind,plainKinds,ZQ,ZS,ZU,ZV,ZW,ZX,ZY,Z5,ZZ,Z6,Z7,List.lookup,ZG,CMul,PySem.sizeLine_eq,List.replicate]
 · have h0:0<1+t % 6:=by omega
   have hb:=Int.emod_lt_of_pos u h0;have hb0:=Int.emod_nonneg u (show 1+t % 6≠0 by omega);exact⟨1+t % 6,u % (1+t % 6),by omega,by omega,hb0,by omega,by simp [h0,Qp,DL.run,DL.runI,Zf,sIf,Zm,Z4,sNext,Zk,Zx,ZC,ZJ,sNever,xB,bD,Zz,ZD,xOr,Za,eC,eOp,ZM,eOr,ZN,eIf,Zy,ZH,Zp,ZP,eUn,ZI,eNil,Zb,ZA,ZE,eCB,lenD,minD,Z3,Zn,ZK,Zr,Zq,eSl,xP,xNoP,addD,subD,mulD,fdivD,modD,Zu,ixD,isD,eBM,ZF,ZO,kind,plainKinds,ZQ,ZS,ZU,ZV,ZW,ZX,ZY,Z5,ZZ,Z6,Z7,List.lookup,ZG,CMul,PySem.sizeLine_eq,List.replicate]⟩
 · exact⟨1+u % 6,by omega,by omega,by simp [Jj,DL.run,DL.runI,Zf,sIf,Zm,Z4,sNext,Zk,Zx,ZC,ZJ,sNever,xB,bD,Zz,ZD,xOr,Za,eC,eOp,ZM,eOr,ZN,eIf,Zy,ZH,Zp,ZP,eUn,ZI,eNil,Zb,ZA,ZE,eCB,lenD,minD,Z3,Zn,ZK,Zr,Zq,eSl,xP,xNoP,addD,subD,mulD,fdivD,modD,Zu,ixD,isD,eBM,ZF,ZO,kind,plainKinds,ZQ,ZS,ZU,ZV,ZW,ZX,ZY,Z5,ZZ,Z6,Z7,List.lookup,ZG,CMul,PySem.sizeLine_eq,List.replicate]⟩
theorem Zf2{ms:List Nat}(h2:2<=ms.length)(h4:ms.length<=4)(k o t u:Int):∃d ob,Ru ms d ob/\ZhG [.str ms,.int k,.int o,.int t,.int u]=some d:=by
 obtain⟨A0,A2,A3,A4,e,a0,a2,a3,a4⟩:=Zf1;obtain⟨mk,hm,hmm⟩:=ZcR (ms:=ms) (by omega) o
 have s1:Zk 5 (eOp ixD (Za 0) (eOp modD (Za 2) (eCB lenD (Zb (Za 0) eNil)))) [some (.str ms),some (.int k),some (.int o),some (.int t),some (.int u),none,none,none,none,none]=some (.nx [some (.str ms),some (.int k),some (.int o),some (.int t),some (.int u),some (.str [mk]),none,none,none,none]):=
  Yy ((Ye rfl ((Ye (x:=.int o) rfl ((Y9 (Zt rfl nil_of)).trans (len_str (by omega)))).trans (V6 (by omega)))).trans (QV (by rw [PySem.sizeLine_eq];omega) hm))
 have cd:∀j:Int,eOp eqD (eOp modD (Za 1) (eC (.int 5))) (eC (.int j)) [some (.str ms),some (.int k),some (.int o),some (.int t),some (.int u),some (.str [mk]),none,none,none,none]=some (.bl (decide (k % 5=j))):=λj=>(Ye ((Ye (x:=.int k) (y:=.int 5) rfl rfl).trans (V6 (by decide))) rfl).trans (ZQ _ _)
 have no:∀{j:Int}{A:DL.Env->Option Out},k % 5≠j->sIf (xB (eOp eqD (eOp modD (Za 1) (eC (.int 5))) (eC (.int j)))) A sNext [some (.str ms),some (.int k),some (.int o),some (.int t),some (.int u),some (.str [mk]),none,none,none,none]=some (.nx [some (.str ms),some (.int k),some (.int o),some (.int t),some (.int u),some (.str [mk]),none,none,none,none]):=λ{j A} h=>(Xv (YF ((cd j).trans (by rw [decide_eq_false h])))).trans rfl
 have yes:∀{j:Int}{A:DL.Env->Option Out}{d:D},k % 5=j->A [some (.str ms),some (.int k),some (.int o),some (.int t),some (.int u),some (.str [mk]),none,none,none,none]=some (.rt d)->sIf (xB (eOp eqD (eOp modD (Za 1) (eC (.int 5))) (eC (.int j)))) A sNext [some (.str ms),some (.int k),some (.int o),some (.int t),some (.int u),some (.str [mk]),none,none,none,none]=some (.rt d):=λ{j A d} h ha=>(U7 (YF ((cd j).trans (by rw [decide_eq_true h])))).trans ha
 rcases(show k % 5=0\/k % 5=1\/k % 5=2\/k % 5=3\/k % 5=4 by omega)with hk|hk|hk|hk|hk
 · obtain⟨lo,mo,l1,l2,l3,l4⟩:=a0 ms k o t u mk
   exact⟨_,_,.gap mk lo mo hmm l1 l2 l3,Y6 rfl ((congrFun e _).trans ((ZL s1).trans (UA (yes hk l4))))⟩
 · obtain⟨n,hn⟩:=Ze7 (show 0<=1+t % 6 by omega)
   have hn6:1<=n/\n<=6:=by omega
   have hw:=Zhi h2 h4 o n hn6.2;have hj:=Zbo (wF ms o) (List.range n) (by rw [List.length_range,PySem.sizeLine_eq];omega);refine⟨_,_,.never ((List.range n).map (wF ms o)) (by simp;omega) (by simp;omega) (λc hc => ?_),Y6 rfl ((congrFun e _).trans ((ZL s1).trans ((ZL (no (by omega))).trans (UA (yes hk ?_)))))⟩
   · obtain⟨i,hi,rfl⟩:=List.mem_map.mp hc
     exact(ZgC h2 h4 o i (by have:=List.mem_range.mp hi;omega)).2
   · refine(ZL (Yy (d:=.int (n:Int)) ?_)).trans (X1 ((Zg8 (Zt rfl (Zt ((ZiU rfl (Zt (X9 (QX (j:=(n:Int)) (Zt rfl nil_of) (by omega) (by omega)) rfl (by rw [Int.toNat_natCast];exact hw) (by rw [List.length_map,List.length_range];omega)) nil_of)).trans hj) nil_of)) (by simp)).trans rfl))
     exact(Ye (x:=.int 1) rfl ((Ye (x:=.int t) (y:=.int 6) rfl rfl).trans (V6 (by decide)))).trans (by rw [<-hn];rfl)
 · obtain⟨ws,lo,hi,q1,q2,q3,q4,q5,q6,q7⟩:=a2 ms k o t u mk h2 h4
   exact⟨_,_,.sum ws lo hi q1 q2 q3 q4 q5 q6,Y6 rfl ((congrFun e _).trans ((ZL s1).trans ((ZL (no (by omega))).trans ((ZL (no (by omega))).trans (UA (yes hk q7))))))⟩
 · obtain⟨ev,at_,q1,q2,q3,q4,q5⟩:=a3 ms k o t u mk
   exact⟨_,_,.turn mk ev at_ hmm q1 q2 q3 q4,Y6 rfl ((congrFun e _).trans ((ZL s1).trans ((ZL (no (by omega))).trans ((ZL (no (by omega))).trans ((ZL (no (by omega))).trans (UA (yes hk q5)))))))⟩
 · obtain⟨mo,q1,q2,q3⟩:=a4 ms k o t u mk
   exact⟨_,_,.alike mo q1 q2,Y6 rfl ((congrFun e _).trans ((ZL s1).trans ((ZL (no (by omega))).trans ((ZL (no (by omega))).trans ((ZL (no (by omega))).trans ((ZL (no (by omega))).trans q3))))))⟩
end K04
namespace K04
open DL L2
theorem Zif{γ:D->DL.Env->Option DL.Env}{φ:DL.Env->Option Out}(I:Nat->DL.Env->Prop)(J:DL.Env->Prop):∀(xs:List D)(k:Nat)(δ:DL.Env),I k δ ->
 (∀(j:Nat)x δ,xs[j]? = some x->I (k+j) δ->∃δ1,γ x δ=some δ1/\((∃δ2,φ δ1=some (.nx δ2)/\I (k+j+1) δ2)\/∃δ2,φ δ1=some (.bk δ2)/\J δ2))->∃δ',YO γ φ xs δ=some (.nx δ')/\(I (k+xs.length) δ'\/J δ')
 | [],k,δ,h,_=>⟨δ,rfl,.inl h⟩
 |x::xs,k,δ,h,step=>by
  obtain⟨δ1,h1,h2⟩:=step 0 x δ rfl h;rcases h2 with⟨δ2,h2,h3⟩|⟨δ2,h2,h3⟩
  · obtain ⟨δ', h4, h5⟩ := Zif I J xs (k + 1) δ2 h3 fun j y δ hy hI => by
     have:=step (j+1) y δ (by simpa using hy) (by rwa [show k+(j+1)=k+1+j by omega])
     rwa [show k+(j+1)+1=k+1+j+1 by omega]at this
    exact⟨δ',(ZcV h1 h2).trans h4,by rwa [List.length_cons,show k+(xs.length+1)=k+1+xs.length by omega]⟩
  · exact⟨δ2,Zhf h1 h2,.inr h3⟩
noncomputable def clE:DL.Env->Option D:=(Zn 2 Vp [] (Zb (Za 1) (Zb (eOp addD (eOp addD (eC (.int 3)) (eOp mulD (eC (.int 3)) (Za 2))) (Za 0)) eNil)))
noncomputable def rsB:DL.Env->Option Out:=(Zf (Zk 4 (Yo (Y5 (Zb (eC (.int 3)) eNil)) (Z9 0) (λ_=>some true) clE 1 [0,3]))
 (Zf (Zk 5 (eOp addD (eOp fdivD (eOp ixD (Za 4) (eC (.int 0))) (eC (.int 7))) (eOp fdivD (eOp ixD (Za 4) (eC (.int 1))) (eC (.int 60)))))
 (V2 2 (Zn 5 ZhG [] (Zb (Za 1) (Zb (Za 5) (Zb (eOp ixD (Za 4) (eC (.int 0))) (Zb (eOp ixD (Za 4) (eC (.int 1))) (Zb (eOp ixD (Za 4) (eC (.int 2))) eNil)))))))))
theorem ZjW:ZhH=(Zf (Zk 2 (ZA eNil)) (Zf (Y8 (Y5 (Zb (eOp modD (Zn 2 Vp [] (Zb (Za 0) (Zb (eC (.int 1)) eNil))) (eC (.int 7))) eNil)) (Z9 3) rsB) (Zm (Za 2)))):=rfl
def clF(ns:List Int)(k:Nat):D->D
 | .int s => .int (ns.getD (3+3*k+s.toNat) 0)
 |_ => .non
theorem ZeM(ns:List Int)(k:Nat)(x2 x3 x4 x5:Option D):∃a b c:Int,Yo (Y5 (Zb (eC (.int 3)) eNil)) (Z9 0) (λ_=>some true) clE 1 [0,3] [some (.lst (ns.map D.int)),x2,x3,some (.int (k:Nat)),x4,x5]=some (.lst [.int a,.int b,.int c]):=by
 have hc:YX (Z9 0) (λ_=>some true) clE [none,some (.lst (ns.map D.int)),some (.int (k:Nat))] (YA 0 1 3)=some ((YA 0 1 3).map (clF ns k)):=XD (clF ns k) _ λx hx=>by
  obtain⟨i,hi,rfl⟩:=Za3 hx;have e:(0+(i:Int)*1)=i:=by omega
  rw [e];refine⟨_,rfl,(Xj (Zt rfl (Zt ((Ye (x:=.int (3+3*(k:Int))) (y:=.int (i:Int)) ((Ye (x:=.int 3) (y:=.int (3*(k:Int))) rfl ((Ye (x:=.int 3) (y:=.int (k:Int)) rfl rfl).trans (Zcl (ZaO (by decide) (by decide))))).trans rfl) rfl).trans rfl) nil_of)) rfl).trans ?_⟩;have:=ZbN ns (3+3*k+i);rw [show((3+3*k+i:Nat):Int)=3+3*(k:Int)+i by omega]at this
  exact this
 exact⟨_,_,_,X9 (QX (j:=3) (Zt rfl nil_of) (by decide) (by decide)) rfl hc (show 3<=1000000 by decide)⟩
theorem ZeN{ms:List Nat}(h2:2<=ms.length)(h4:ms.length<=4)(ns:List Int):∃ps:List (D×D),(∀p∈ps,Ru ms p.1 p.2)/\ps.length<=6/\ZhI [.lst (ns.map D.int),.str ms]=some (.lst (ps.map Prod.fst)):=by
 obtain⟨n,hn⟩:=Ze7 (show 0<=ns.getD 1 0 % 7 by omega);have hn6:n<=6:=by omega
 obtain⟨δ',h1,ps,hp,hl,v3,v4,v5,rfl⟩:=Zck (γ:=Z9 3) (φ:=rsB) (λk δ=>∃ps:List (D×D),(∀p∈ps,Ru ms p.1 p.2)/\ps.length=k/\∃v3 v4 v5:Option D,δ=[some (.lst (ns.map D.int)),some (.str ms),some (.lst (ps.map Prod.fst)),v3,v4,v5]) (YA 0 1 n) 0 [some (.lst (ns.map D.int)),some (.str ms),some (.lst []),none,none,none] ⟨[],λp hp=>(by cases hp),rfl,none,none,none,rfl⟩ (by
  rintro j x δ hx ⟨ps,hp,hl,v3,v4,v5,rfl⟩
  obtain⟨hj,rfl⟩:=ZbM hx;obtain⟨a,b,c,hc⟩:=ZeM ns j (some (.str ms)) (some (.lst (ps.map Prod.fst))) v4 v5;obtain⟨d,ob,hr,hd⟩:=Zf2 h2 h4 (a / 7+b / 60) a b c;refine⟨[some (.lst (ns.map D.int)),some (.str ms),some (.lst (ps.map Prod.fst)),some (.int (j:Nat)),v4,v5],rfl,_,(ZL (Yy hc)).trans ((ZL (Yy (d:=.int (a / 7+b / 60)) ?_)).trans (Ze5 (xs:=ps.map Prod.fst) rfl ((Xj (Zt rfl (Zt rfl (Zt ((Ye rfl rfl).trans (VL (a:=0) rfl)) (Zt ((Ye rfl rfl).trans (VL (a:=1) rfl)) (Zt ((Ye rfl rfl).trans (VL (a:=2) rfl)) nil_of))))) rfl).trans hd) (by rw [List.length_map];omega))),ps++[(d,ob)],λp hp' => ?_,by rw [List.length_append,hl];rfl,some (.int (j:Nat)),some (.lst [.int a,.int b,.int c]),some (.int (a / 7+b / 60)),?_⟩
  · exact(Ye ((Ye (x:=.int a) ((Ye rfl rfl).trans (VL (a:=0) rfl)) rfl).trans (JZ ⟨by decide,by decide⟩)) ((Ye (x:=.int b) ((Ye rfl rfl).trans (VL (a:=1) rfl)) rfl).trans (JZ ⟨by decide,by decide⟩))).trans rfl
  · rcases List.mem_append.mp hp' with h|h
    · exact hp p h
    · cases List.mem_singleton.mp h
      exact hr
  · rw [List.map_append];rfl)
 refine⟨ps,hp,by rw [hl,Zdc];omega,Y6 rfl ((congrFun ZjW _).trans ((ZL (Yy (U8 nil_of (by decide)))).trans ((ZL (V7 ?_ h1)).trans (X1 rfl))))⟩;exact(QX (j:=(n:Int)) (Zt ((Ye ((Xj (Zt rfl (Zt rfl nil_of)) rfl).trans (ZbN ns 1)) rfl).trans ((V6 (by decide)).trans (by rw [hn]))) nil_of) (by omega) (by omega)).trans (by rw [Int.toNat_natCast])
theorem ZaQ{α:Type}{f:α->D}:∀{ds:List α},(∀d∈ds,∃b,f d = .bl b)->∃bs,XM (ds.map f)=some bs
 | [],_=>⟨[],rfl⟩
 |d::ds,h=>by
  obtain⟨b,hb⟩:=h d List.mem_cons_self;obtain⟨bs,hbs⟩:=ZaQ λx hx=>h x (List.mem_cons_of_mem _ hx)
  exact⟨b::bs,by rw [List.map_cons,hb,XM,hbs]⟩
theorem Zfd{ms:List Nat}{ps:List (D×D)}(hp:∀p∈ps,Ru ms p.1 p.2)(hl:ps.length<=100){r:List Nat}{c:Nat}(hr:∀x∈r++[c],x∈ms)(hr2:r.length<=200):∃b,Ug [.str ms,.lst (ps.map Prod.fst),.str (r++[c])]=some (.bl b):=by
 have key:∀d∈ps.map Prod.fst,∃b,Xe [.str ms,d,.str (r++[c])]=some (.bl b):=λd hd=>by
  obtain⟨p,h1,rfl⟩:=List.mem_map.mp hd;exact ZdU (hp p h1) hr hr2
 obtain⟨bs,hb⟩:=ZaQ (f:=λd=>(Xe [.str ms,d,.str (r++[c])]).getD .non) (ds:=ps.map Prod.fst) λd hd=>by
  obtain⟨b,h⟩:=key d hd;exact⟨b,by rw [h];rfl⟩
 refine⟨bs.any id,Y6 rfl (X1 ((Y9 (Zt (X9 rfl rfl (XD (λd=>(Xe [.str ms,d,.str (r++[c])]).getD .non) (ps.map Prod.fst) λd hd => ?_) (by rw [List.length_map,List.length_map];omega)) nil_of)).trans ?_))⟩
 · obtain⟨b,h⟩:=key d hd
   refine⟨_,rfl,(Xj (Zt rfl (Zt rfl (Zt rfl nil_of))) rfl).trans ?_⟩;show Xe [.str ms,d,.str (r++[c])]=_;rw [h];rfl
 · unfold Xg
   dsimp only;rw [hb]
noncomputable def inB:DL.Env->Option Out:=(Zf (Zk 7 (eOp addD (Za 3) (eOp ixD (Za 1) (eOp modD (eOp addD (eOp fdivD (Za 4) (eC (.int 7))) (Za 6)) (eCB lenD (Zb (Za 1) eNil))))))
 (sIf (ZD (xB (eOp (Zu λi j=>decide (j<i)) (eOp modD (Za 4) (eC (.int 6))) (eC (.int 0)))) (Zz (xB (Zn 3 Ug [] (Zb (Za 1) (Zb (Za 2) (Zb (Za 7) eNil))))))) (Zf (Zk 5 (Za 7)) sBreak) sNext))
noncomputable def rwB:DL.Env->Option Out:=(Zf (Zk 5 (eOp addD (Za 3) (eOp ixD (Za 1) (eOp modD (eOp fdivD (Za 4) (eC (.int 7))) (eCB lenD (Zb (Za 1) eNil))))))
 (Zf (Y8 (Y5 (Zb (eCB lenD (Zb (Za 1) eNil)) eNil)) (Z9 6) inB)
 (Zf (Zk 3 (Za 5))
 (sIf (xB (Zn 3 Ug [] (Zb (Za 1) (Zb (Za 2) (Zb (Za 3) eNil))))) sBreak sNext))))
theorem ZjX:ZhJ=(Zf (Zk 3 (eC (.str []))) (Zf (Y8 (Yz (eSl (Za 0) xNoP (xP (eC (.int 80))))) (Z9 4) rwB) (Zm (Za 3)))):=rfl
theorem Zcm{ms row:List Nat}(h2:2<=ms.length)(h4:ms.length<=4)(hl:row.length<=100)(i:Int){e:DL.Env->Option D}{δ:DL.Env}(he:e δ=some (.int i))(h3:Za 3 δ=some (.str row))(h1:Za 1 δ=some (.str ms)):∃c∈ms,eOp addD (Za 3) (eOp ixD (Za 1) (eOp modD e (eCB lenD (Zb (Za 1) eNil)))) δ=some (.str (row++[c])):=by
 obtain⟨z,hz,hm⟩:=ZcR (ms:=ms) (by omega) i;refine⟨z,hm,(Ye h3 ((Ye h1 ((Ye he ((Y9 (Zt h1 nil_of)).trans (len_str (by omega)))).trans (V6 (by omega)))).trans (QV (by rw [PySem.sizeLine_eq];omega) hz))).trans ?_⟩;show(if row.length+[z].length<=PySem.sizeLine then _ else _)=_;rw [if_pos (by rw [PySem.sizeLine_eq,List.length_singleton];omega)]
theorem Zhj{ms:List Nat}(h2:2<=ms.length)(h4:ms.length<=4){ps:List (D×D)}(hp:∀p∈ps,Ru ms p.1 p.2)(hl:ps.length<=100)(ns:List Int)(hns:ns.length<=63):∃row:List Nat,(∀c∈row,c∈ms)/\row.length<=100/\ZhK [.lst (ns.map D.int),.str ms,.lst (ps.map Prod.fst)]=some (.str row):=by
 generalize hS:D.lst (ns.map D.int)=sc;generalize hD:D.lst (ps.map Prod.fst)=dd
 have hxs:Yz (eSl (Za 0) xNoP (xP (eC (.int 80)))) [some sc,some (.str ms),some dd,some (.str []),none,none,none,none]=some ((cutL ns none (some 80)).map D.int):=by
  subst hS;show some (cutL (ns.map D.int) none (some 80))=_;rw [ZfX]
 have hcl:(cutL ns none (some 80)).length<=63:=Nat.le_trans (ZfY _ _ _) hns;generalize cutL ns none (some 80)=cs at hxs hcl
 obtain⟨δ',h1,h3⟩:=Zif (γ:=Z9 4) (φ:=rwB) (λk δ=>∃(row:List Nat) (v4 v5 v6 v7:Option D),(∀c∈row,c∈ms)/\row.length=k/\δ=[some sc,some (.str ms),some dd,some (.str row),v4,v5,v6,v7]) (λδ=>∃(row:List Nat) (v4 v5 v6 v7:Option D),(∀c∈row,c∈ms)/\row.length<=100/\δ=[some sc,some (.str ms),some dd,some (.str row),v4,v5,v6,v7]) (cs.map D.int) 0 [some sc,some (.str ms),some dd,some (.str []),none,none,none,none] ⟨[],none,none,none,none,λc hc=>(by cases hc),rfl,rfl⟩ (by
  rintro j x δ hx ⟨row,v4,v5,v6,v7,hr,hrl,rfl⟩
  have hjl:j<cs.length:=by
   have:=(List.getElem?_eq_some_iff.mp hx).1
   rwa [List.length_map]at this
  rw [List.getElem?_map,List.getElem?_eq_getElem hjl]at hx;cases hx;generalize cs[j]=cell;have dv:∀{v5 v6 v7:Option D},eOp fdivD (Za 4) (eC (.int 7)) [some sc,some (.str ms),some dd,some (.str row),some (.int cell),v5,v6,v7]=some (.int (cell / 7)):=λ{v5 v6 v7}=>(Ye (x:=.int cell) (y:=.int 7) rfl rfl).trans (JZ ⟨by decide,by decide⟩)
  obtain⟨c,hc,a1⟩:=Zcm (row:=row) h2 h4 (by omega) (cell / 7) (dv (v5:=v5) (v6:=v6) (v7:=v7)) rfl rfl
  have rin:∀{c:Nat},c∈ms->∀x∈row++[c],x∈ms:=λ{c} hc x hx=>by
   rcases List.mem_append.mp hx with h|h
   · exact hr x h
   · rw [List.mem_singleton.mp h];exact hc
  obtain⟨δi,i1,i2⟩:=Zif (γ:=Z9 6) (φ:=inB) (λ_ δ=>∃(c:Nat) (v6 v7:Option D),c∈ms/\δ=[some sc,some (.str ms),some dd,some (.str row),some (.int cell),some (.str (row++[c])),v6,v7]) (λδ=>∃(c:Nat) (v6 v7:Option D),c∈ms/\δ=[some sc,some (.str ms),some dd,some (.str row),some (.int cell),some (.str (row++[c])),v6,v7]) (YA 0 1 ms.length) 0 [some sc,some (.str ms),some dd,some (.str row),some (.int cell),some (.str (row++[c])),v6,v7] ⟨c,v6,v7,hc,rfl⟩ (by
   rintro i x δ hx ⟨c',w6,w7,hc',rfl⟩
   obtain⟨hi,rfl⟩:=ZbM hx;refine⟨[some sc,some (.str ms),some dd,some (.str row),some (.int cell),some (.str (row++[c'])),some (.int (i:Nat)),w7],rfl,?_⟩;obtain⟨c2,hc2,a2⟩:=Zcm (row:=row) h2 h4 (by omega) (cell / 7+i) (e:=eOp addD (eOp fdivD (Za 4) (eC (.int 7))) (Za 6)) (δ:=[some sc,some (.str ms),some dd,some (.str row),some (.int cell),some (.str (row++[c'])),some (.int (i:Nat)),w7]) ((Ye dv rfl).trans rfl) rfl rfl
   obtain⟨b,hb⟩:=Zfd hp hl (rin hc2) (by omega);rw [hD]at hb;have t1:∀{v5 v6 v7:Option D},eOp (Zu λi j=>decide (j<i)) (eOp modD (Za 4) (eC (.int 6))) (eC (.int 0)) [some sc,some (.str ms),some dd,some (.str row),some (.int cell),v5,v6,v7]=some (.bl (decide (0<cell % 6))):=λ{v5 v6 v7}=>(Ye ((Ye (x:=.int cell) (y:=.int 6) rfl rfl).trans (V6 (by decide))) rfl).trans rfl
   have t2:∀{v5 v6:Option D},Zn 3 Ug [] (Zb (Za 1) (Zb (Za 2) (Zb (Za 7) eNil))) [some sc,some (.str ms),some dd,some (.str row),some (.int cell),v5,v6,some (.str (row++[c2]))]=some (.bl b):=λ{v5 v6}=>(Xj (Zt rfl (Zt rfl (Zt rfl nil_of))) rfl).trans hb
   by_cases hq:0<cell % 6
   · cases b with
     |false=>exact .inr ⟨_,(ZL (Yy a2)).trans ((U7 (J0 (YF (t1.trans (by rw [decide_eq_true hq]))) (QW (YF t2)))).trans ((ZL (Yy rfl)).trans rfl)),c2,_,_,hc2,rfl⟩
     |true=>exact .inl ⟨_,(ZL (Yy a2)).trans ((Xv (J0 (YF (t1.trans (by rw [decide_eq_true hq]))) (QW (YF t2)))).trans rfl),c',_,_,hc',rfl⟩
   · exact .inl ⟨_,(ZL (Yy a2)).trans ((Xv (ZbL (YF (t1.trans (by rw [decide_eq_false hq]))))).trans rfl),c',_,_,hc',rfl⟩)
  obtain⟨c3,w6,w7,hc3,rfl⟩:∃(c:Nat) (v6 v7:Option D),c∈ms/\δi=[some sc,some (.str ms),some dd,some (.str row),some (.int cell),some (.str (row++[c])),v6,v7]:=i2.elim id id;obtain⟨b,hb⟩:=Zfd hp hl (rin hc3) (by omega);rw [hD]at hb;refine⟨_,rfl,?_⟩
  have main:∀{X:DL.Env->Option Out},Zf (Zk 5 (eOp addD (Za 3) (eOp ixD (Za 1) (eOp modD (eOp fdivD (Za 4) (eC (.int 7))) (eCB lenD (Zb (Za 1) eNil)))))) (Zf (Y8 (Y5 (Zb (eCB lenD (Zb (Za 1) eNil)) eNil)) (Z9 6) inB) (Zf (Zk 3 (Za 5)) X)) [some sc,some (.str ms),some dd,some (.str row),some (.int cell),v5,v6,v7]=X [some sc,some (.str ms),some dd,some (.str (row++[c3])),some (.int cell),some (.str (row++[c3])),w6,w7]:=λ{X}=>
   (ZL (Yy a1)).trans ((ZL (V7 ((QX (j:=(ms.length:Int)) (Zt ((Y9 (Zt rfl nil_of)).trans (len_str (by omega))) nil_of) (by omega) (by omega)).trans (by rw [Int.toNat_natCast])) i1)).trans (ZL (Yy rfl)))
  have t3:Zn 3 Ug [] (Zb (Za 1) (Zb (Za 2) (Zb (Za 3) eNil))) [some sc,some (.str ms),some dd,some (.str (row++[c3])),some (.int cell),some (.str (row++[c3])),w6,w7]=some (.bl b):=(Xj (Zt rfl (Zt rfl (Zt rfl nil_of))) rfl).trans hb;cases b with
  |true=>exact .inr ⟨_,main.trans ((U7 (YF t3)).trans rfl),row++[c3],_,_,_,_,rin hc3,by rw [List.length_append,List.length_singleton];omega,rfl⟩
  |false=>exact .inl ⟨_,main.trans ((Xv (YF t3)).trans rfl),row++[c3],_,_,_,_,rin hc3,by rw [List.length_append,hrl];rfl,rfl⟩)
 obtain⟨row,v4,v5,v6,v7,g1,g2,rfl⟩:∃(row:List Nat) (v4 v5 v6 v7:Option D),(∀c∈row,c∈ms)/\row.length<=100/\δ'=[some sc,some (.str ms),some dd,some (.str row),v4,v5,v6,v7]:=by
  rcases h3 with⟨row,v4,v5,v6,v7,g1,g2,g3⟩|h3
  · exact⟨row,v4,v5,v6,v7,g1,by rw [g2,List.length_map];omega,g3⟩
  · exact h3
 exact⟨row,g1,g2,Y6 rfl ((congrFun ZjX _).trans ((ZL (Yy rfl)).trans ((ZL (V7 hxs h1)).trans (X1 rfl))))⟩
end K04
namespace K04
open DL L2
noncomputable def YB(r:List Nat)(k:Nat):List D->List D->List Nat
 |o::os,s::ss=>match brk o k s r with
  |some j=>j::YB r k os ss
  |none=>YB r k os ss
 |_,_=>[]
theorem Zcn(k:Nat):∀os ss:List D,YB [] k os ss=[]
 | [],_=>rfl
 |_::_,[]=>rfl
 |o::os,s::ss=>Zcn k os ss
theorem ZaT(r:List Nat)(k:Nat):∀os ss:List D,∀x∈YB r k os ss,k<=x/\x<k+r.length
 | [],_,x,h=>by cases h
 |_::_,[],x,h=>by cases h
 |o::os,s::ss,x,h=>by
  unfold YB at h;cases hb:brk o k s r with
  |none=>rw [hb]at h;exact ZaT r k os ss x h
  |some j=>
   rw [hb]at h;rcases List.mem_cons.mp h with rfl|h
   · exact Zfa o r k s _ hb
   · exact ZaT r k os ss x h
theorem Za5(r:List Nat)(k:Nat):∀os ss:List D,(YB r k os ss).length<=os.length
 | [],_=>Nat.le_refl _
 |_::_,[]=>Nat.zero_le _
 |o::os,s::ss=>by
  have:=Za5 r k os ss;unfold YB
  split<;>simp only [List.length_cons]<;>omega
theorem Zco(c:Nat)(r:List Nat)(k:Nat):∀os ss:List D,(nxs os ss c).any Zp=true->k∈YB (c::r) k os ss
 | [],_,h=>by cases h
 |_::_,[],h=>by cases h
 |o::os,s::ss,h=>by
  have h':(Zp (nx o s c)||(nxs os ss c).any Zp)=true:=h;unfold YB;rw [Qn]
  by_cases hn:Zp (nx o s c)=true
  · rw [if_pos hn];exact List.mem_cons_self
  · have:Zp (nx o s c)=false:=by simpa using hn
    rw [this,Bool.false_or]at h';have ih:=Zco c r k os ss h';rw [if_neg hn]
    split
    · exact List.mem_cons_of_mem _ ih
    · exact ih
theorem Zbt(c:Nat)(r:List Nat)(k:Nat):∀os ss:List D,(nxs os ss c).any Zp=false->YB (c::r) k os ss=YB r (k+1) os (nxs os ss c)
 | [],_,_=>rfl
 |_::_,[],_=>rfl
 |o::os,s::ss,h=>by
  have h':(Zp (nx o s c)||(nxs os ss c).any Zp)=false:=h;rw [Bool.or_eq_false_iff]at h';show _=YB r (k+1) (o::os) (nx o s c::nxs os ss c);unfold YB;rw [Qn,if_neg (by rw [h'.1];exact Bool.false_ne_true),Zbt c r k os ss h'.2]
theorem Zdh{ms:List Nat}(h4:ms.length<=4){os:List D}(h:∀o∈os,Sg ms o)(hl:os.length<=100):∀(r:List Nat)(k:Nat)(ss:List D),Ws os ss->(∀c∈r,c∈ms) ->
 (brk (YG ms os) k (.tup ss) r=none->YB r k os ss=[])/\(∀j,brk (YG ms os) k (.tup ss) r=some j->j∈YB r k os ss/\∀x∈YB r k os ss,j<=x)
 | [],k,ss,_,_=>⟨λ_=>Zcn k os ss,λj z=>by cases z⟩
 |c::r,k,ss,w,hr=>by
  have hc:=hr c List.mem_cons_self;rw [Qn,Zfc h4 hc h w hl]
  by_cases ha:(nxs os ss c).any Zp=true
  · rw [if_pos ha,if_pos (show Zp D.non=true from rfl)]
    refine⟨λz=>(by cases z),λj z => ?_⟩;cases z;exact⟨Zco c r k os ss ha,λx hx=>(ZaT _ k os ss x hx).1⟩
  · have ha':(nxs os ss c).any Zp=false:=by simpa using ha
    rw [if_neg ha,if_neg (show ¬Zp (D.tup (nxs os ss c))=true from Bool.false_ne_true),Zbt c r k os ss ha'];exact Zdh h4 h hl r (k+1) (nxs os ss c) (Ws.n hc h w ha') λx hx=>hr x (List.mem_cons_of_mem _ hx)
theorem ZaR(row:List Nat):∀os:List D,(os.filter λo => !Zp (oz (brk o 0 (b0 o) row))).map (λo=>oz (brk o 0 (b0 o) row))=(YB row 0 os (os.map b0)).map λj=>D.int (j:Nat)
 | []=>rfl
 |o::os=>by
  have ih:=ZaR row os;rw [List.map_cons];unfold YB;cases hb:brk o 0 (b0 o) row with
  |none=>
   rw [List.filter_cons_of_neg (by rw [hb];simp [oz,Zp])];exact ih
  |some j=>
   rw [List.filter_cons_of_pos (by rw [hb];rfl),List.map_cons,List.map_cons,ih,hb];rfl
def Sh(s:D):Prop:=PySem.SeqAt.shaped (toP s)=true/\eqP .non s=Zp s
theorem Sh.non:Sh .non:=⟨rfl,rfl⟩
theorem Sh.of{o s:D}(h:W o s):Sh s:=by
 unfold W at h
 split at h
 · split at h
   · obtain⟨i,j,rfl⟩:=h
     exact⟨by simp [PySem.SeqAt.shaped,toP,Xf,PySem.PyData.canLay0,PySem.PyData.canLayAll0,PySem.PyData.depth,PySem.PyData.depthAll],by simp [eqP,toP,PySem.PyData.eqv,Zp]⟩
   · split at h
     · obtain⟨n,rfl⟩:=h;exact⟨rfl,rfl⟩
     · obtain⟨n,rfl⟩:=h;exact⟨rfl,rfl⟩
 · exact h.elim
theorem Ws.sh:∀{os ss:List D},Ws os ss->∀s∈ss,∃o,W o s
 | [],_,h,s,hs=>by rw [show _=[]from h]at hs;cases hs
 |o::os,_,h,s,hs=>by
  obtain⟨s',r,rfl,w1,w2⟩:=h;rcases List.mem_cons.mp hs with rfl|hs
  · exact⟨o,w1⟩
  · exact Ws.sh w2 s hs
theorem Zf3{o s:D}(h:W o s):(toP s).canLay0=true/\(toP s).depth<=1:=by
 unfold W at h
 split at h
 · split at h
   · obtain⟨i,j,rfl⟩:=h
     exact⟨by simp [toP,Xf,PySem.PyData.canLay0,PySem.PyData.canLayAll0],by simp [toP,Xf,PySem.PyData.depth,PySem.PyData.depthAll]⟩
   · split at h
     · obtain⟨n,rfl⟩:=h;exact⟨rfl,by simp [toP,PySem.PyData.depth]⟩
     · obtain⟨n,rfl⟩:=h;exact⟨rfl,by simp [toP,PySem.PyData.depth]⟩
 · exact h.elim
theorem Zdi:∀{ss:List D},(∀s∈ss,∃o,W o s)->PySem.PyData.canLayAll0 (Xf ss)=true/\PySem.PyData.depthAll (Xf ss)<=1
 | [],_=>⟨rfl,by simp [Xf,PySem.PyData.depthAll]⟩
 |s::ss,h=>by
  obtain⟨o,w⟩:=h s List.mem_cons_self;obtain⟨d1,d2⟩:=Zf3 w;obtain⟨i1,i2⟩:=Zdi λx hx=>h x (List.mem_cons_of_mem _ hx)
  refine⟨?_,?_⟩
  · rw [Xf,PySem.PyData.canLayAll0,d1,i1];rfl
  · rw [Xf,PySem.PyData.depthAll];omega
theorem Zf4{os ss:List D}(w:Ws os ss):neD (.lst ss) (.lst ss)=some (.bl false):=by
 obtain⟨h1,h2⟩:=Zdi (Ws.sh w);refine ZeB rfl ?_;have e1:(toP (.lst ss)).canLay0=true:=h1
 have e2:(toP (.lst ss)).depth<=64:=by
  show PySem.PyData.depthAll (Xf ss)+1<=64;omega
 unfold PySem.SeqAt.shaped;rw [e1,decide_eq_true e2];rfl
theorem Zfe{ms:List Nat}{c:Nat}(hc:c∈ms):∀{os ss:List D},(∀o∈os,Sg ms o)->Ws os ss->∀s∈nxs os ss c,Sh s
 | [],_,_,_,s,hs=>by cases hs
 |o::os,_,h,w,s,hs=>by
  obtain⟨s',r,rfl,w1,w2⟩:=w;rcases List.mem_cons.mp (show s∈nx o s' c::nxs os r c from hs)with rfl|hs
  · obtain⟨_,h2,h3⟩:=(h o List.mem_cons_self).mv.n w1 hc
    cases hn:Zp (nx o s' c)with
    |true=>rw [h2 hn];exact Sh.non
    |false=>exact Sh.of (h3 hn)
  · exact Zfe hc (λx hx=>h x (List.mem_cons_of_mem _ hx)) w2 s hs
theorem Zhk{ms:List Nat}{c:Nat}(hc:c∈ms){os ss:List D}(h:∀o∈os,Sg ms o)(w:Ws os ss):inL .non (.lst (nxs os ss c))=some (.bl ((nxs os ss c).any Zp)):=by
 have hs:=Zfe hc h w;unfold inL;dsimp only
 rw [if_pos (by
  simp only [Bool.and_eq_true,List.all_eq_true,decide_eq_true_eq];exact⟨⟨rfl,λd hd=>(hs d hd).1⟩,by simp [toP,PySem.PyData.depth]⟩)]
 congr 2
 rw [Bool.eq_iff_iff,List.any_eq_true,List.any_eq_true];constructor
 · rintro⟨d,hd,e⟩;exact⟨d,hd,(hs d hd).2.symm.trans e⟩
 · rintro⟨d,hd,e⟩;exact⟨d,hd,(hs d hd).2.trans e⟩
noncomputable def bhE:DL.Env->Option D:=(Zr "step" tab_step (Za 1) (Zb (eOp ixD (Za 2) (Za 0)) (Zb (Za 3) eNil)))
theorem Zdj{ms:List Nat}{c:Nat}(hc:c∈ms)(S:List D):∀(os ss:List D)(k:Nat),(∀o∈os,Sg ms o)->Ws os ss->(∀i s,ss[i]? = some s->S[k+i]? = some s)->YX (Xr 2 (YC 0 (YC 1 gsNil))) (λ_=>some true) bhE [none,none,some (.lst S),some (.str [c])] (Xc k os)=some (nxs os ss c)
 | [],ss,k,_,_,_=>rfl
 |o::os,_,k,h,w,hS=>by
  obtain⟨s,r,rfl,w1,w2⟩:=w;have n1:=((h o List.mem_cons_self).mv.n w1 hc).1
  have ih:=Zdj hc S os r (k+1) (λx hx=>h x (List.mem_cons_of_mem _ hx)) w2 λi s hi=>by
   have:=hS (i+1) s (by simpa using hi)
   rwa [show k+(i+1)=k+1+i by omega]at this
  have e1:bhE [some (.int (k:Nat)),some o,some (.lst S),some (.str [c])]=some (nx o s c):=(XE rfl (Zt ((Ye rfl rfl).trans (VL (hS 0 s rfl))) (Zt rfl nil_of))).trans n1;rw [Xc];unfold YX;rw [show Xr 2 (YC 0 (YC 1 gsNil)) (.tup [.int (k:Nat),o]) [none,none,some (.lst S),some (.str [c])]=some [some (.int (k:Nat)),some o,some (.lst S),some (.str [c])]from rfl];dsimp only;rw [e1,ih]
  rfl
theorem ZdV{ms:List Nat}{c:Nat}(hc:c∈ms){os ss:List D}(h:∀o∈os,Sg ms o)(w:Ws os ss)(hl:os.length<=100):ZhL [.lst os,.lst ss,.str [c]]=some (.lst (nxs os ss c)):=
 Y6 rfl (X1 (X9 rfl rfl (Zdj hc ss os ss 0 h w λi s hi=>by rwa [Nat.zero_add]) (by
  have:(nxs os ss c).length<=os.length:=by unfold nxs;rw [List.length_zipWith];omega
  omega)))
end K04
namespace K04
open DL L2
theorem Zf5{e:DL.Env->Option D}{δ:DL.Env}{d:D}(h:e δ=some d):Zx e δ=some (.nx δ):=by
 unfold Zx;rw [h]
theorem Zf6{e:DL.Env->Option D}{δ:DL.Env}{b:Bool}(h:e δ=some (.bl b)):ZN e δ=some (.bl (!b)):=by
 unfold ZN;rw [h]
theorem ZeO{ms:List Nat}(M:Ms ms){os:List D}(h:∀o∈os,Sg ms o)(hl:os.length<=6):Q2 [.obj "All" [] [],.str ms,.lst os]=some (.obj "All" ["marks"] [.str ms]):=by
 have hr:=Qi M "All" rfl
 have b1:ZJ 0 2 Vm [] (Zb (Za 1) eNil) [some (.obj "All" [] []),some (.str ms),some (.lst os)]=some (.nx [some (.obj "All" ["marks"] [.str ms]),some (.str ms),some (.lst os)]):=by
  simp [hr,DL.run,DL.runI,Zf,sIf,Zm,Z4,sNext,Zk,Zx,ZC,ZJ,sNever,xB,bD,Zz,ZD,xOr,Za,eC,eOp,ZM,eOr,ZN,eIf,Zy,ZH,Zp,ZP,eUn,ZI,eNil,Zb,ZA,ZE,eCB,lenD,minD,Z3,Zn,ZK,Zr,Zq,eSl,xP,xNoP,addD,subD,mulD,fdivD,modD,Zu,ixD,isD,eBM,ZF,ZO,kind,plainKinds,ZQ,ZS,ZU,ZV,ZW,ZX,ZY,Z5,ZZ,Z6,Z7,List.lookup,ZG,CMul,PySem.sizeLine_eq,List.replicate]
 have d1:eOp (Zu λi j=>decide (i<=j)) (eCB lenD (Zb (Za 2) eNil)) (eC (.int 6)) [some (.obj "All" ["marks"] [.str ms]),some (.str ms),some (.lst os)]=some (.bl true):=by
  refine(Ye ((Y9 (Zt rfl nil_of)).trans ZfV) rfl).trans ?_;show some (D.bl (decide ((os.length:Int)<=6)))=_;rw [decide_eq_true (by omega)]
 have d2:ZN (eCB (Xg λbs=>bs.any id) (Zb (Yo (Yz (Za 2)) (Z9 0) (λ_=>some true) (ZF it_All (Za 0)) 1 []) eNil)) [some (.obj "All" ["marks"] [.str ms]),some (.str ms),some (.lst os)]=some (.bl true):=by
  refine Zf6 (b:=false) ((Y9 (Zt (X9 (xs:=os) (ys:=os.map λ_=>D.bl false) rfl rfl ?_ (by rw [List.length_map];omega)) nil_of)).trans ?_)
  · exact XD (λ_ => .bl false) os λx hx=>⟨_,rfl,Ze6 rfl (h x hx).al⟩
  unfold Xg;dsimp only;have e:=JI (os.map λ_=>false);rw [List.map_map]at e;rw [show(os.map λ_=>D.bl false)=os.map (D.bl∘λ_=>false)from rfl,e];dsimp only
  congr 2
  rw [List.any_eq_false];intro b hb;obtain⟨_,_,rfl⟩:=List.mem_map.mp hb;exact Bool.false_ne_true
 have d3:eCB (Xg λbs=>bs.all id) (Zb (Yo (Yz (Za 2)) (Z9 0) (λ_=>some true) (eOp eqD (Zq fc_marks "marks" (Za 0)) (Za 1)) 1 [1]) eNil) [some (.obj "All" ["marks"] [.str ms]),some (.str ms),some (.lst os)]=some (.bl true):=by
  refine(Y9 (Zt (X9 (xs:=os) (ys:=os.map λ_=>D.bl true) rfl rfl ?_ (by rw [List.length_map];omega)) nil_of)).trans ?_
  · exact XD (λ_ => .bl true) os λx hx=>⟨_,rfl,(Ye ((h x hx).fm rfl) rfl).trans ((ZS _ _).trans (by rw [decide_eq_true rfl]))⟩
  unfold Xg;dsimp only;rw [(ZcU os).1];dsimp only;rw [(ZcU os).2]
 have dm:∀{e:DL.Env->Option D}{w:List Nat}{δ:DL.Env},e δ=some (.bl true)->Zx (Zn 2 Y1 [] (Zb e (Zb (eC (.str w)) eNil))) δ=some (.nx δ):=λ{e w δ} he=>Zf5 ((Xj (Zt he (Zt rfl nil_of)) rfl).trans (demand w))
 have hf:Q1 [some (.obj "All" [] []),some (.str ms),some (.lst os)]=some (.nx [some (.obj "All" ["marks"] [.str ms]),some (.str ms),some (.lst os)]):=(ZL b1).trans ((ZL (dm d1)).trans ((ZL (dm d2)).trans (dm d3)));show(match Q1 [some (.obj "All" [] []),some (.str ms),some (.lst os)]with|some (.nx δ)=>Za 0 δ|_=>none)=_;rw [hf];rfl
theorem ZeP {im ih id ik jf:Nat} {C:String} {m:List D->Option D} {φ:DL.Env->Option Out} {ε:DL.Env->Option D} {δ δ':DL.Env} {mk:List Nat} {objs:List D} {b:Bool} (h1:Za im δ=some (.str mk)) (h2:Za ih δ=some (.lst objs)) (h3:objs.all isObj=true/\objs.length<1000/\id<δ.length/\ik<δ.length/\jf<δ.length)
 (h4:m [.obj C [] [],.str mk,.lst objs]=some (.obj C ["marks"] [.str mk])) (h5:φ (QU ih id ik jf C mk objs δ)=some (.nx δ')) (h6:ε δ'=some (.bl b)):U6 im ih id ik jf C m φ ε δ=some (.rt (.bl b)):=by
 unfold U6;rw [h1,h2];dsimp only;rw [if_pos h3,h4];dsimp only;rw [if_pos ⟨rfl,rfl,rfl⟩,h5];dsimp only;rw [h6]
theorem ZeQ {ms:List Nat} {o:D} {V:D->Prop} (M:Mv ms o V) (br:YY tab_broken_at "broken_at" o [.str row]=XQ [o,.str row]) (h:∀c∈row,c∈ms):VP [o,.str row]=some (.bl (Zp (oz (brk o 0 (b0 o) row)))):=
 Y6 rfl (X1 (Vq ((XE rfl (Zt rfl nil_of)).trans (br.trans (broken_at M h)))))
noncomputable def lwB:DL.Env->Option Out:=(Zf (sIf (xOr (Zz (xB (ZF UB (Za 9)))) (xB (eOp neD (eCB V4 (Zb (Za 9) eNil)) (Za 10)))) (Zm (eC (.bl false))) sNext)
 (Zf (Zk 10 (Zn 3 ZhL [] (Zb (Za 5) (Zb (Za 10) (Zb (eOp ixD (Za 3) (Za 12)) eNil)))))
 (Zf (Zk 9 (Zr "step" tab_step (Za 6) (Zb (Za 9) (Zb (eOp ixD (Za 3) (Za 12)) eNil))))
 (sIf (xB (eOp inL (eC .non) (Za 10))) (Zf (Zk 11 (Za 12)) sBreak) sNext))))
noncomputable def lwL:DL.Env->Option D:=(eOp eqD (eCB minQD (Zb (eOp U5 (Za 13) (ZA (Zb (eCB lenD (Zb (Za 3) eNil)) eNil))) eNil)) (eOp ixD (ZA (Zb (Za 11) (Zb (eCB lenD (Zb (Za 3) eNil)) eNil))) (eCB intD (Zb (Zy (Za 11)) eNil))))
noncomputable def lwC:DL.Env->Option D:=(Yo (Yz (Za 5)) (Z9 0) (xB (ZH (Zr "broken_at" tab_broken_at (Za 0) (Zb (Za 1) eNil)))) (Zr "broken_at" tab_broken_at (Za 0) (Zb (Za 1) eNil)) 1 [3])
noncomputable def lwM:DL.Env->Option Out:=(Zf (Zk 9 (Zr "begin" tab_begin (Za 6) eNil))
 (Zf (Zk 10 (Yo (Yz (Za 5)) (Z9 0) (λ_=>some true) (Zr "begin" tab_begin (Za 0) eNil) 1 []))
 (Zf (Zk 11 (eC .non))
 (Zf (Y8 (Y5 (Zb (eCB lenD (Zb (Za 3) eNil)) eNil)) (Z9 12) lwB)
 (Zf (sIf (ZD (xB (Zy (Za 11))) (xOr (Zz (xB (ZF UB (Za 9)))) (xB (eOp neD (eCB V4 (Zb (Za 9) eNil)) (Za 10))))) (Zm (eC (.bl false))) sNext)
 (Zf (sIf (ZD (xB (ZH (Za 11))) (xB (ZH (Za 9)))) (Zm (eC (.bl false))) sNext)
 (Zf (sIf (xOr (xB (eOp neD (Zr "broken_at" tab_broken_at (Za 6) (Zb (Za 3) eNil)) (Za 11))) (xB (eOp neD (Zr "keeps" Zaj (Za 6) (Zb (Za 3) eNil)) (Zy (Za 11))))) (Zm (eC (.bl false))) sNext)
 (Zk 13 lwC))))))))
theorem Zhl:ZhM=(Zf (Zk 1 (Zn 1 Q4 [] (Zb (Zn 2 Vp [] (Zb (Za 0) (Zb (eC (.int 0)) eNil))) eNil)))
 (Zf (Zk 2 (Zn 2 ZhI [] (Zb (Za 0) (Zb (Za 1) eNil))))
 (Zf (Zk 3 (Zn 3 ZhK [] (Zb (Za 0) (Zb (Za 1) (Zb (Za 2) eNil)))))
 (Zf (Zk 4 (Yo (Yz (Za 2)) (Z9 0) (λ_=>some true) (Zn 2 Xk [] (Zb (Za 1) (Zb (Za 0) eNil))) 1 [1]))
 (Zf (Zk 5 (Yo (Yz (Za 2)) (Z9 0) (λ_=>some true) (Zn 2 Xk [] (Zb (Za 1) (Zb (Za 0) eNil))) 1 [1]))
 (U6 1 4 6 7 8 "All" Q2 lwM lwL)))))):=rfl
theorem Zhm(o:Option Nat):neD (oz o) (oz o)=some (.bl false):=by
 cases o with
 |none=>rw [ozN,ZZ]
 |some n=>rw [ozS,ZY,decide_eq_true rfl];rfl
theorem Zhn(b:Bool):neD (.bl b) (.bl b)=some (.bl false):=by
 unfold neD;rw [ZU,decide_eq_true rfl];rfl
section
variable{ms row:List Nat}{os:List D}{sc rl:D}
abbrev E4(ms row:List Nat)(os:List D)(sc rl:D)(v9 v10 v11 v12 v13:Option D):DL.Env:=[some sc,some (.str ms),some rl,some (.str row),none,some (.lst os),some (YG ms os),some (.lst os),none,v9,v10,v11,v12,v13]
theorem Zdk{os ss:List D}(w:Ws os ss){δ:DL.Env}(h9:Za 9 δ=some (.tup ss))(h10:Za 10 δ=some (.lst ss)):xOr (Zz (xB (ZF UB (Za 9)))) (xB (eOp neD (eCB V4 (Zb (Za 9) eNil)) (Za 10))) δ=some false:=
 Ze4 (QW (YF (Ze6 h9 (b:=true) rfl))) (YF ((Ye ((Y9 (Zt h9 nil_of)).trans rfl) h10).trans (Zf4 w)))
theorem ZjY(h4:ms.length<=4)(h:∀o∈os,Sg ms o)(hl:os.length<=100)(hr:∀c∈row,c∈ms)(hrl:row.length<=100):∃δ',YO (Z9 12) lwB (YA 0 1 row.length) (E4 ms row os sc rl (some (.tup (os.map b0))) (some (.lst (os.map b0))) (some .non) none none)=some (.nx δ') /\
 ((∃ss v12,Ws os ss/\brk (YG ms os) 0 (.tup (os.map b0)) row=none/\δ'=E4 ms row os sc rl (some (.tup ss)) (some (.lst ss)) (some .non) v12 none)\/∃(j:Nat) (s v10 v12:Option D),brk (YG ms os) 0 (.tup (os.map b0)) row=some j/\δ'=E4 ms row os sc rl (some .non) v10 (some (.int (j:Nat))) v12 none):=by
 have M:=Zfb h4 h hl
 obtain⟨δ',h1,h2⟩:=Zif (γ:=Z9 12) (φ:=lwB) (λk δ=>∃(ss:List D) (v12:Option D),Ws os ss/\brk (YG ms os) 0 (.tup (os.map b0)) row=brk (YG ms os) k (.tup ss) (row.drop k)/\δ=E4 ms row os sc rl (some (.tup ss)) (some (.lst ss)) (some .non) v12 none) (λδ=>∃(j:Nat) (s v10 v12:Option D),brk (YG ms os) 0 (.tup (os.map b0)) row=some j/\δ=E4 ms row os sc rl (some .non) v10 (some (.int (j:Nat))) v12 none) (YA 0 1 row.length) 0 (E4 ms row os sc rl (some (.tup (os.map b0))) (some (.lst (os.map b0))) (some .non) none none) ⟨_,none,Ws.b0 h,rfl,rfl⟩ (by
  rintro j x δ hx ⟨ss,v12,w,hb,rfl⟩
  obtain⟨hj,rfl⟩:=ZbM hx;rw [Nat.zero_add]at hb ⊢;rw [List.drop_eq_getElem_cons hj]at hb;have hc:row[j]∈ms:=hr _ (List.getElem_mem hj);have hg:row[j]? = some row[j]:=List.getElem?_eq_getElem hj;generalize row[j]=c at hb hc hg;have ix:∀{v9 v10 v11:Option D},eOp ixD (Za 3) (Za 12) (E4 ms row os sc rl v9 v10 v11 (some (.int (j:Nat))) none)=some (.str [c]):=λ{v9 v10 v11}=>(Ye (x:=.str row) (y:=.int (j:Nat)) rfl rfl).trans (ix_str hg (by omega))
  have n1:=(M.n ⟨ss,rfl,w⟩ hc).1;have hnx:=Zfc h4 hc h w hl
  have main:lwB (E4 ms row os sc rl (some (.tup ss)) (some (.lst ss)) (some .non) (some (.int (j:Nat))) none)=sIf (xB (eOp inL (eC .non) (Za 10))) (Zf (Zk 11 (Za 12)) sBreak) sNext (E4 ms row os sc rl (some (nx (YG ms os) (.tup ss) c)) (some (.lst (nxs os ss c))) (some .non) (some (.int (j:Nat))) none):=
   (ZL ((Xv (Zdk w rfl rfl)).trans rfl)).trans ((ZL (Yy ((Xj (Zt rfl (Zt rfl (Zt ix nil_of))) rfl).trans (ZdV hc h w hl)))).trans (ZL (Yy ((XE rfl (Zt rfl (Zt ix nil_of))).trans n1))))
  have ti:xB (eOp inL (eC .non) (Za 10)) (E4 ms row os sc rl (some (nx (YG ms os) (.tup ss) c)) (some (.lst (nxs os ss c))) (some .non) (some (.int (j:Nat))) none)=some ((nxs os ss c).any Zp):=YF ((Ye rfl rfl).trans (Zhk hc h w));rw [Qn,hnx]at hb;refine⟨_,rfl,?_⟩;cases ha:(nxs os ss c).any Zp with
  |true=>
   rw [ha]at ti hb;rw [ha,if_pos rfl]at hnx;rw [if_pos rfl,if_pos (show Zp D.non=true from rfl)]at hb;refine .inr ⟨_,main.trans ((U7 ti).trans ((ZL (Yy rfl)).trans rfl)),j,none,some (.lst (nxs os ss c)),some (.int (j:Nat)),hb,?_⟩;rw [hnx];rfl
  |false=>
   rw [ha]at ti hb;rw [ha,if_neg Bool.false_ne_true]at hnx;rw [if_neg Bool.false_ne_true,if_neg (show ¬Zp (D.tup (nxs os ss c))=true from Bool.false_ne_true)]at hb;refine .inl ⟨_,main.trans ((Xv ti).trans rfl),nxs os ss c,some (.int (j:Nat)),Ws.n hc h w ha,hb,?_⟩;rw [hnx])
 refine⟨δ',h1,?_⟩;rcases h2 with⟨ss,v12,w,hb,rfl⟩|h2
 · rw [Nat.zero_add,Zdc,List.drop_length]at hb
   exact .inl ⟨ss,v12,w,hb,rfl⟩
 · exact .inr h2
theorem Zho(h4:ms.length<=4)(h:∀o∈os,Sg ms o)(hl:os.length<=100)(hr:∀c∈row,c∈ms)(hrl:row.length<=100):∃δ',lwM (E4 ms row os sc rl none none none none none)=some (.nx δ')/\lwL δ'=some (.bl true):=by
 have M:=Zfb h4 h hl;have eb:=M.b.1;have hb0:=Zhg h hl;rw [hb0]at eb;have hba:=broken_at M hr;rw [hb0]at hba;have hal:∀ds:List D,ds.length=1->YY tab_broken_at "broken_at" (YG ms os) ds=XQ (YG ms os::ds):=λds hd=>XA (ks:=["marks", "rules"]) (by decide) rfl (by rw [hd])
 have hke:=ZeQ M (hal _ rfl) hr;rw [hb0]at hke;obtain⟨lz1,lz2⟩:=Zdh h4 h hl row 0 (os.map b0) (Ws.b0 h) hr;obtain⟨δ',hw,hd⟩:=ZjY (sc:=sc) (rl:=rl) h4 h hl hr hrl;have a1:Zk 9 (Zr "begin" tab_begin (Za 6) eNil) (E4 ms row os sc rl none none none none none)=some (.nx (E4 ms row os sc rl (some (.tup (os.map b0))) none none none none)):=Yy ((XE rfl nil_of).trans eb)
 have a2:Zk 10 (Yo (Yz (Za 5)) (Z9 0) (λ_=>some true) (Zr "begin" tab_begin (Za 0) eNil) 1 []) (E4 ms row os sc rl (some (.tup (os.map b0))) none none none none)=some (.nx (E4 ms row os sc rl (some (.tup (os.map b0))) (some (.lst (os.map b0))) none none none)):=
  Yy (X9 rfl rfl (XD b0 os λx hx=>⟨_,rfl,(XE rfl nil_of).trans (h x hx).mv.b.1⟩) (by rw [List.length_map];omega))
 have a4:Y8 (Y5 (Zb (eCB lenD (Zb (Za 3) eNil)) eNil)) (Z9 12) lwB (E4 ms row os sc rl (some (.tup (os.map b0))) (some (.lst (os.map b0))) (some .non) none none)=some (.nx δ'):=
  V7 ((QX (j:=(row.length:Int)) (Zt ((Y9 (Zt rfl nil_of)).trans (len_str (by omega))) nil_of) (by omega) (by omega)).trans (by rw [Int.toNat_natCast])) hw
 have lc:∀{v9 v10 v11 v12:Option D},lwC (E4 ms row os sc rl v9 v10 v11 v12 none)=some (.lst ((YB row 0 os (os.map b0)).map λj=>D.int (j:Nat))):=λ{v9 v10 v11 v12}=>by
  have e1:∀x∈os,Zr "broken_at" tab_broken_at (Za 0) (Zb (Za 1) eNil) [some x,some (.str row)]=some (oz (brk x 0 (b0 x) row)):=λx hx=>(XE rfl (Zt rfl nil_of)).trans (((h x hx).br _ rfl).trans (broken_at (h x hx).mv hr))
  refine X9 (xs:=os) rfl rfl ?_ ?_
  · rw [<-ZaR]
    exact Zaq (λx => !Zp (oz (brk x 0 (b0 x) row))) (λx=>oz (brk x 0 (b0 x) row)) os λx hx=>⟨_,rfl,YF (ZaS (e1 x hx)),λ_=>e1 x hx⟩
  · rw [List.length_map]
    have:=Za5 row 0 os (os.map b0);omega
 have tail:∀{v9 v10 v12:Option D},sIf (xOr (xB (eOp neD (Zr "broken_at" tab_broken_at (Za 6) (Zb (Za 3) eNil)) (Za 11))) (xB (eOp neD (Zr "keeps" Zaj (Za 6) (Zb (Za 3) eNil)) (Zy (Za 11))))) (Zm (eC (.bl false))) sNext (E4 ms row os sc rl v9 v10 (some (oz (brk (YG ms os) 0 (.tup (os.map b0)) row))) v12 none)=some (.nx (E4 ms row os sc rl v9 v10 (some (oz (brk (YG ms os) 0 (.tup (os.map b0)) row))) v12 none)):=λ{v9 v10 v12}=>
  (Xv (Ze4 (YF ((Ye ((XE rfl (Zt rfl nil_of)).trans ((hal _ rfl).trans hba)) rfl).trans (Zhm _))) (YF ((Ye ((XE rfl (Zt rfl nil_of)).trans ((XA (ks:=["marks", "rules"]) (by decide) rfl rfl).trans hke)) (Vq rfl)).trans (Zhn _))))).trans rfl
 have fin:∀{v9 v10 v12:Option D},lwL (E4 ms row os sc rl v9 v10 (some (oz (brk (YG ms os) 0 (.tup (os.map b0)) row))) v12 (some (.lst ((YB row 0 os (os.map b0)).map λj=>D.int (j:Nat)))))=some (.bl true):=λ{v9 v10 v12}=>by
  have hll:=Za5 row 0 os (os.map b0);have ln:∀{v9 v10 v11 v12 v13:Option D},eCB lenD (Zb (Za 3) eNil) (E4 ms row os sc rl v9 v10 v11 v12 v13)=some (.int (row.length:Int)):=λ{v9 v10 v11 v12 v13}=>(Y9 (Zt rfl nil_of)).trans (len_str (by omega))
  have mn:∀m:Int,m∈((YB row 0 os (os.map b0)).map (λj:Nat=>(j:Int))++[(row.length:Int)])->(∀a∈((YB row 0 os (os.map b0)).map (λj:Nat=>(j:Int))++[(row.length:Int)]),m<=a)->minQD [.lst ((YB row 0 os (os.map b0)).map (λj=>D.int (j:Nat))++[.int (row.length:Int)])]=some (.int m):=λm m1 m2=>by
   have e:(YB row 0 os (os.map b0)).map (λj=>D.int (j:Nat))++[.int (row.length:Int)]=((YB row 0 os (os.map b0)).map (λj:Nat=>(j:Int))++[(row.length:Int)]).map D.int:=by
    rw [List.map_append,List.map_map];rfl
   rw [e,show ∀xs,minQD [D.lst xs]=minLD [D.lst xs]from λ_=>rfl];unfold minLD;dsimp only;rw [Zbj];dsimp only;rw [if_pos (List.length_pos_of_mem m1),<-ZaA m1 m2]
  have ad:∀{v9 v10 v11 v12:Option D},eOp U5 (Za 13) (ZA (Zb (eCB lenD (Zb (Za 3) eNil)) eNil)) (E4 ms row os sc rl v9 v10 v11 v12 (some (.lst ((YB row 0 os (os.map b0)).map λj=>D.int (j:Nat)))))=some (.lst ((YB row 0 os (os.map b0)).map (λj=>D.int (j:Nat))++[.int (row.length:Int)])):=λ{v9 v10 v11 v12}=>(Ye (x:=.lst ((YB row 0 os (os.map b0)).map λj=>D.int (j:Nat))) rfl (U8 (Zt ln nil_of) (show 1<=1000 by decide))).trans ((show U5 (.lst _) (.lst _)=JU (.lst _) (.lst _)from rfl).trans (ZfU (by rw [List.length_map,List.length_singleton];omega)))
  cases hb:brk (YG ms os) 0 (.tup (os.map b0)) row with
  |none=>
   have e0:=lz1 hb;refine(Ye ((Y9 (Zt ad nil_of)).trans (mn (row.length:Int) (List.mem_append_right _ (List.mem_singleton.mpr rfl)) λa ha => ?_)) ((Ye (U8 (Zt rfl (Zt ln nil_of)) (show 2<=1000 by decide)) ((Y9 (Zt (Vq rfl) nil_of)).trans rfl)).trans (VL (a:=1) rfl))).trans ((ZQ _ _).trans (by rw [decide_eq_true rfl]));rw [e0]at ha;rw [List.mem_singleton.mp ha];exact Int.le_refl _
  |some j=>
   obtain⟨g1,g2⟩:=lz2 j hb;refine(Ye ((Y9 (Zt ad nil_of)).trans (mn (j:Int) (List.mem_append_left _ (List.mem_map.mpr ⟨j,g1,rfl⟩)) λa ha => ?_)) ((Ye (U8 (Zt rfl (Zt ln nil_of)) (show 2<=1000 by decide)) ((Y9 (Zt (Vq rfl) nil_of)).trans rfl)).trans (VL (a:=0) rfl))).trans ((ZQ _ _).trans (by rw [decide_eq_true rfl]));rcases List.mem_append.mp ha with ha|ha
   · obtain⟨x,hx,rfl⟩:=List.mem_map.mp ha
     have:=g2 x hx;omega
   · rw [List.mem_singleton.mp ha]
     have:=(ZaT row 0 os (os.map b0) j g1).2;omega
 rcases hd with⟨ss,v12,w,hb,rfl⟩|⟨j,s,v10,v12,hb,rfl⟩
 · rw [hb]at tail fin
   exact⟨_,(ZL a1).trans ((ZL a2).trans ((ZL (Yy rfl)).trans ((ZL a4).trans ((ZL ((Xv (J0 (YF (Vq (d:=.non) rfl)) (Zdk w rfl rfl))).trans rfl)).trans ((ZL ((Xv (ZbL (YF (ZaS (d:=.non) rfl)))).trans rfl)).trans ((ZL tail).trans (Yy lc))))))),fin⟩
 · rw [hb]at tail fin
   exact⟨_,(ZL a1).trans ((ZL a2).trans ((ZL (Yy rfl)).trans ((ZL a4).trans ((ZL ((Xv (ZbL (YF (Vq (d:=.int (j:Nat)) rfl)))).trans rfl)).trans ((ZL ((Xv (J0 (YF (ZaS (d:=.int (j:Nat)) rfl)) (YF (ZaS (d:=.non) rfl)))).trans rfl)).trans ((ZL tail).trans (Yy lc))))))),fin⟩
end
theorem all_true(ns:List Int)(hns:ns.length<=63):ZhN [.lst (ns.map D.int)]=some (.bl true):=by
 have MS:=ZeE (ns.getD 0 0);have hm:=ZeC (ns.getD 0 0);generalize VU (ns.getD 0 0)=ms at MS hm;obtain⟨ps,hp,hpl,hrs⟩:=ZeN MS.lo MS.hi ns;obtain⟨row,hr,hrl,hrow⟩:=Zhj MS.lo MS.hi hp (by omega) ns hns;have hc0:=ZbN ns 0
 have hsg:∀o∈ps.map Prod.snd,Sg ms o:=λo ho=>by
  obtain⟨p,h1,rfl⟩:=List.mem_map.mp ho;exact(hp p h1).sg MS.hi
 have hol:(ps.map Prod.snd).length<=6:=by rw [List.length_map];exact hpl
 have hob:(ps.map Prod.snd).all isObj=true:=List.all_eq_true.mpr λo ho=>(hsg o ho).ob
 have hmd:∀{v0 v3 v4 v5 v6 v7 v8 v9 v10 v11 v12 v13:Option D},Yo (Yz (Za 2)) (Z9 0) (λ_=>some true) (Zn 2 Xk [] (Zb (Za 1) (Zb (Za 0) eNil))) 1 [1] [v0,some (.str ms),some (.lst (ps.map Prod.fst)),v3,v4,v5,v6,v7,v8,v9,v10,v11,v12,v13]=some (.lst (ps.map Prod.snd)):=λ{_ _ _ _ _ _ _ _ _ _ _ _}=>by
  refine X9 rfl rfl ((XD (λd=>(Xk [.str ms,d]).getD .non) (ps.map Prod.fst) λd hd => ?_).trans ?_) (by omega)
  · obtain⟨p,h1,rfl⟩:=List.mem_map.mp hd
    refine⟨_,rfl,(Xj (Zt rfl (Zt rfl nil_of)) rfl).trans ?_⟩;show Xk [.str ms,p.1]=_;rw [Zdg MS (hp p h1)];rfl
  · rw [List.map_map]
    congr 1
    refine List.map_congr_left λp h1 => ?_
    show(Xk [.str ms,p.1]).getD .non=p.2;rw [Zdg MS (hp p h1)];rfl
 obtain⟨δ',m1,m2⟩:=Zho (sc:=.lst (ns.map D.int)) (rl:=.lst (ps.map Prod.fst)) (row:=row) MS.hi hsg (by omega) hr hrl;exact Y6 rfl ((congrFun Zhl _).trans ((ZL (Yy ((Xj (Zt ((Xj (Zt rfl (Zt rfl nil_of)) rfl).trans hc0) nil_of) rfl).trans hm))).trans ((ZL (Yy ((Xj (Zt rfl (Zt rfl nil_of)) rfl).trans hrs))).trans ((ZL (Yy ((Xj (Zt rfl (Zt rfl (Zt rfl nil_of))) rfl).trans hrow))).trans ((ZL (Yy hmd)).trans ((ZL (Yy hmd)).trans (ZeP (mk:=ms) (objs:=ps.map Prod.snd) rfl rfl ⟨hob,by omega,(show 6<14 by decide),(show 7<14 by decide),(show 8<14 by decide)⟩ (ZeO MS hsg hol) m1 m2)))))))
end K04
namespace K04
open PySem PySem.Spec L2 DL
def ZdX(K:PySem.W.Frag):Sp:=λvs H Q _=>∃(a:Addr) (ns:List Int),vs=[.ref a]/\SqL K H a (ns.map V.int)/\ns.length<=63/\∀H',Q (.bl true) H'
theorem Zhp(hall:∀ns:List Int,ns.length<=63->ZhN [.lst (ns.map D.int)]=some (.bl true)){P:Program}{w:World}{K:PySem.W.Frag}{mg:Str->Option Value}{base:Heap}{t:Adr}(T:Txt K mg t):FnOk P w K mg base CX0 7 t.a_Qc t.d_Qc ["script"] (ZdX K):=
 (ZjT T).imp λvs H Q E ⟨a,ns,hv,hr,hl,q⟩=>by
   subst hv;refine⟨λ_=>False,[.lst (ns.map D.int)],.bl true,λ_ z=>z.elim,.cons ?_ .nil,rfl,hall ns hl,λv H' _ r => ?_⟩
   · unfold Rep
     refine⟨a,_,rfl,λz=>z.elim,hr,?_⟩;have:=RepL.of_vals (cA:=⟨t.c,K⟩) (av:=λ_=>False) (H:=H) (xs:=ns.map D.int) (by rw [List.all_map];exact List.all_eq_true.mpr λ_ _=>rfl);rw [List.map_map]at this;exact this
   · cases(show v=_ from r)
     exact q H'
theorem all_mk (hall:∀ns:List Int,ns.length<=63->ZhN [.lst (ns.map D.int)]=some (.bl true)) {l:PySem.W.OpenLaw} {w:World} {K:PySem.W.Frag} {h:Heap} {mg:Str->Option Value} {fa:Addr} (X:K.In h) (G:h.Ns mainGlobals mg) (hfa:mg "law" = some (.ref fa))
 {c_Rule:Addr}
 {c_Gap:Addr}
 {c_Never:Addr}
 {c_Sum:Addr}
 {c_Turn:Addr}
 {c_Alike:Addr}
 {c_All:Addr}
 {f0 f1 f2 f3 f4 f5 f6 f7 f8 f9 f10 f11 f12 f13 f14 f15 f16 f17 f18 f20 f21 f22 f23 f24 f25 f26 f27 f28 f29 f30 f31 f32 f33 f34 f35 f36 f37:Addr} {d0 d1 d2 d3 d4 d5 d6 d7 d8 d9 d10 d11 d12 d13 d14 d15 d16 d17 d18 d20 d21 d22 d23 d24 d25 d26 d27 d28 d29 d30 d31 d32 d33 d34 d35 d36 d37:FuncData}
 {f19:Addr} {od19 an19:Option Addr} {sl19:Array (Option Value)} {oc19 kV19 dc19 pm19 cd19 ct19:Value}
 {dt19:Addr} {do19:Obj} {dn19:Nat}
 {x_MARK_SIGNS:Str} {t_MARK_SIGNS:Tok}
 (Zon:nsIn K mainGlobals "Rule" = some (some (.ref c_Rule)))
 (Zol:nsIn K mainGlobals "Gap" = some (some (.ref c_Gap)))
 (Zom:nsIn K mainGlobals "Never" = some (some (.ref c_Never)))
 (Zoo:nsIn K mainGlobals "Sum" = some (some (.ref c_Sum)))
 (Zop:nsIn K mainGlobals "Turn" = some (some (.ref c_Turn)))
 (Zoj:nsIn K mainGlobals "Alike" = some (some (.ref c_Alike)))
 (Zok:nsIn K mainGlobals "All" = some (some (.ref c_All)))
 (l0:Fg K "marks_stand" Q7 f0 d0)
 (l1:Fg K "is_mark" ZhO f1 d1)
 (l2:Fg K "is_whole" ZhP f2 d2)
 (l3:Fg K "demand" ZhQ f3 d3)
 (a4:PySem.W.findIn K (.ref c_Rule) "__init__" = some (some (.ref f4)))
 (l4:Fun K "__init__" "Rule.__init__" ZhR f4 d4)
 (a5:PySem.W.findIn K (.ref c_Rule) "begin" = some (some (.ref f5)))
 (l5:Fun K "begin" "Rule.begin" ZhS f5 d5)
 (a6:PySem.W.findIn K (.ref c_Rule) "behind" = some (some (.ref f6)))
 (l6:Fun K "behind" "Rule.behind" ZhT f6 d6)
 (a7:PySem.W.findIn K (.ref c_Gap) "behind" = some (some (.ref f7)))
 (l7:Fun K "behind" "Gap.behind" ZhU f7 d7)
 (a8:PySem.W.findIn K (.ref c_Never) "behind" = some (some (.ref f8)))
 (l8:Fun K "behind" "Never.behind" ZhV f8 d8)
 (a9:PySem.W.findIn K (.ref c_Sum) "behind" = some (some (.ref f9)))
 (l9:Fun K "behind" "Sum.behind" ZhW f9 d9)
 (a10:PySem.W.findIn K (.ref c_Turn) "behind" = some (some (.ref f10)))
 (l10:Fun K "behind" "Turn.behind" ZhX f10 d10)
 (a11:PySem.W.findIn K (.ref c_Alike) "behind" = some (some (.ref f11)))
 (l11:Fun K "behind" "Alike.behind" ZhY f11 d11)
 (a12:PySem.W.findIn K (.ref c_All) "behind" = some (some (.ref f12)))
 (l12:Fun K "behind" "All.behind" ZhZ f12 d12)
 (a13:PySem.W.findIn K (.ref c_Rule) "step" = some (some (.ref f13)))
 (l13:Fun K "step" "Rule.step" Zh0 f13 d13)
 (a14:PySem.W.findIn K (.ref c_Gap) "begin" = some (some (.ref f14)))
 (l14:Fun K "begin" "Gap.begin" Zh1 f14 d14)
 (a15:PySem.W.findIn K (.ref c_Alike) "begin" = some (some (.ref f15)))
 (l15:Fun K "begin" "Alike.begin" Zh2 f15 d15)
 (a16:PySem.W.findIn K (.ref c_All) "begin" = some (some (.ref f16)))
 (l16:Fun K "begin" "All.begin" Q8 f16 d16)
 (a17:PySem.W.findIn K (.ref c_Rule) "broken_at" = some (some (.ref f17)))
 (l17:Fun K "broken_at" "Rule.broken_at" Zh3 f17 d17)
 (a18:PySem.W.findIn K (.ref c_Rule) "keeps" = some (some (.ref f18)))
 (l18:Fun K "keeps" "Rule.keeps" Zh4 f18 d18)
 (a19:PySem.W.findIn K (.ref c_Gap) "__init__" = some (some (.ref f19)))
 (l19:K.lookup f19=some ⟨oc19,od19,.func (fnOf "__init__" "Gap.__init__" (defArgs VR) (defBody VR) (defScope VR) (.ref dt19) kV19 dc19 pm19 an19 cd19 ct19),sl19⟩)
 (c19:codeIn K cd19 "Gap.__init__" = true)
 (k19:keepIn K (.ref f19)=true)
 (y19:K.lookup dt19=some do19)
 (yd19:do19.data = .seq ([.none]:List Value).toArray dn19)
 (a20:PySem.W.findIn K (.ref c_Never) "__init__" = some (some (.ref f20)))
 (l20:Fun K "__init__" "Never.__init__" Q9 f20 d20)
 (a21:PySem.W.findIn K (.ref c_Sum) "__init__" = some (some (.ref f21)))
 (l21:Fun K "__init__" "Sum.__init__" Ja f21 d21)
 (a22:PySem.W.findIn K (.ref c_Turn) "__init__" = some (some (.ref f22)))
 (l22:Fun K "__init__" "Turn.__init__" Zh5 f22 d22)
 (a23:PySem.W.findIn K (.ref c_Alike) "__init__" = some (some (.ref f23)))
 (l23:Fun K "__init__" "Alike.__init__" Zh6 f23 d23)
 (a24:PySem.W.findIn K (.ref c_All) "__init__" = some (some (.ref f24)))
 (l24:Fun K "__init__" "All.__init__" Qf f24 d24)
 (a25:PySem.W.findIn K (.ref c_All) "rules_told" = some (some (.ref f25)))
 (l25:Fun K "rules_told" "All.rules_told" Zh7 f25 d25)
 (l26:Fg K "_law_cell_at" Zh8 f26 d26)
 (l27:Fg K "_law_marks" Jb f27 d27)
 (l28:Fg K "_law_others" Zh9 f28 d28)
 (l29:Fg K "_law_total" Jc f29 d29)
 (l30:Fg K "_law_breaks" Zia f30 d30)
 (l31:Fg K "_law_rule" Jd f31 d31)
 (l32:Fg K "_law_made" Zib f32 d32)
 (l33:Fg K "_law_rules" Je f33 d33)
 (l34:Fg K "_law_any" Jf f34 d34)
 (l35:Fg K "_law_row" Zic f35 d35)
 (l36:Fg K "_law_behind" Jg f36 d36)
 (l37:Fg K "law" Uh f37 d37)
 (Zoq:nsIn K mainGlobals "ValueError" = some none)
 (Zor:nsIn K mainGlobals "all" = some none)
 (Zos:nsIn K mainGlobals "any" = some none)
 (Zot:nsIn K mainGlobals "bool" = some none)
 (Zou:nsIn K mainGlobals "enumerate" = some none)
 (Zov:nsIn K mainGlobals "int" = some none)
 (Zow:nsIn K mainGlobals "isinstance" = some none)
 (Zox:nsIn K mainGlobals "len" = some none)
 (Zoy:nsIn K mainGlobals "list" = some none)
 (Zoz:nsIn K mainGlobals "min" = some none)
 (ZoA:nsIn K mainGlobals "range" = some none)
 (ZoB:nsIn K mainGlobals "sum" = some none)
 (ZoC:nsIn K mainGlobals "tuple" = some none)
 (ZoD:nsIn K mainGlobals "zip" = some none)
 (Zoh:nsIn K mainGlobals "MARK_SIGNS" = some (some (.str x_MARK_SIGNS t_MARK_SIGNS)))
 (Zoi:x_MARK_SIGNS=tx cs_MARK_SIGNS)
 (ZnZ:PySem.W.plainGet K c_Rule Str.empty=true)
 (ZkN:PySem.W.hasDictIn K c_Rule=true)
 (Zn6:PySem.W.plainOver K c_Rule=true)
 (Zoe:PySem.W.findIn K (.ref c_Rule) "__setattr__" = some (some (.builtin "object.__setattr__")))
 (ZkG:PySem.W.findIn K (.ref c_Rule) "__class__" = some (some (.builtin "object.__class__")))
 (ZkU:PySem.W.mroIn K c_Rule (.type "object")=some true)
 (ZmZ:PySem.W.makesIn K c_Rule=true)
 (Zl4:keepIn K (.ref c_Rule)=true)
 (ZmS:PySem.W.findIn K (.ref c_Rule) "__init__" = some (some (.ref f4)))
 (ZmL:isFn K (.ref f4)=true)
 (ZnX:PySem.W.plainGet K c_Gap Str.empty=true)
 (ZkL:PySem.W.hasDictIn K c_Gap=true)
 (Zn4:PySem.W.plainOver K c_Gap=true)
 (Zoc:PySem.W.findIn K (.ref c_Gap) "__setattr__" = some (some (.builtin "object.__setattr__")))
 (ZkE:PySem.W.findIn K (.ref c_Gap) "__class__" = some (some (.builtin "object.__class__")))
 (ZkS:PySem.W.mroIn K c_Gap (.type "object")=some true)
 (ZmX:PySem.W.makesIn K c_Gap=true)
 (Zl2:keepIn K (.ref c_Gap)=true)
 (ZmQ:PySem.W.findIn K (.ref c_Gap) "__init__" = some (some (.ref f19)))
 (ZmJ:isFn K (.ref f19)=true)
 (ZnY:PySem.W.plainGet K c_Never Str.empty=true)
 (ZkM:PySem.W.hasDictIn K c_Never=true)
 (Zn5:PySem.W.plainOver K c_Never=true)
 (Zod:PySem.W.findIn K (.ref c_Never) "__setattr__" = some (some (.builtin "object.__setattr__")))
 (ZkF:PySem.W.findIn K (.ref c_Never) "__class__" = some (some (.builtin "object.__class__")))
 (ZkT:PySem.W.mroIn K c_Never (.type "object")=some true)
 (ZmY:PySem.W.makesIn K c_Never=true)
 (Zl3:keepIn K (.ref c_Never)=true)
 (ZmR:PySem.W.findIn K (.ref c_Never) "__init__" = some (some (.ref f20)))
 (ZmK:isFn K (.ref f20)=true)
 (Zn0:PySem.W.plainGet K c_Sum Str.empty=true)
 (ZkO:PySem.W.hasDictIn K c_Sum=true)
 (Zn7:PySem.W.plainOver K c_Sum=true)
 (Zof:PySem.W.findIn K (.ref c_Sum) "__setattr__" = some (some (.builtin "object.__setattr__")))
 (ZkH:PySem.W.findIn K (.ref c_Sum) "__class__" = some (some (.builtin "object.__class__")))
 (ZkV:PySem.W.mroIn K c_Sum (.type "object")=some true)
 (Zm0:PySem.W.makesIn K c_Sum=true)
 (Zl5:keepIn K (.ref c_Sum)=true)
 (ZmT:PySem.W.findIn K (.ref c_Sum) "__init__" = some (some (.ref f21)))
 (ZmM:isFn K (.ref f21)=true)
 (Zn1:PySem.W.plainGet K c_Turn Str.empty=true)
 (ZkP:PySem.W.hasDictIn K c_Turn=true)
 (Zn8:PySem.W.plainOver K c_Turn=true)
 (Zog:PySem.W.findIn K (.ref c_Turn) "__setattr__" = some (some (.builtin "object.__setattr__")))
 (ZkI:PySem.W.findIn K (.ref c_Turn) "__class__" = some (some (.builtin "object.__class__")))
 (ZkW:PySem.W.mroIn K c_Turn (.type "object")=some true)
 (Zm1:PySem.W.makesIn K c_Turn=true)
 (Zl6:keepIn K (.ref c_Turn)=true)
 (ZmU:PySem.W.findIn K (.ref c_Turn) "__init__" = some (some (.ref f22)))
 (ZmN:isFn K (.ref f22)=true)
 (ZnV:PySem.W.plainGet K c_Alike Str.empty=true)
 (ZkJ:PySem.W.hasDictIn K c_Alike=true)
 (Zn2:PySem.W.plainOver K c_Alike=true)
 (Zoa:PySem.W.findIn K (.ref c_Alike) "__setattr__" = some (some (.builtin "object.__setattr__")))
 (ZkC:PySem.W.findIn K (.ref c_Alike) "__class__" = some (some (.builtin "object.__class__")))
 (ZkQ:PySem.W.mroIn K c_Alike (.type "object")=some true)
 (ZmV:PySem.W.makesIn K c_Alike=true)
 (Zl0:keepIn K (.ref c_Alike)=true)
 (ZmO:PySem.W.findIn K (.ref c_Alike) "__init__" = some (some (.ref f23)))
 (ZmH:isFn K (.ref f23)=true)
 (ZnW:PySem.W.plainGet K c_All Str.empty=true)
 (ZkK:PySem.W.hasDictIn K c_All=true)
 (Zn3:PySem.W.plainOver K c_All=true)
 (Zob:PySem.W.findIn K (.ref c_All) "__setattr__" = some (some (.builtin "object.__setattr__")))
 (ZkD:PySem.W.findIn K (.ref c_All) "__class__" = some (some (.builtin "object.__class__")))
 (ZkR:PySem.W.mroIn K c_All (.type "object")=some true)
 (ZmW:PySem.W.makesIn K c_All=true)
 (Zl1:keepIn K (.ref c_All)=true)
 (ZmP:PySem.W.findIn K (.ref c_All) "__init__" = some (some (.ref f24)))
 (ZmI:isFn K (.ref f24)=true)
 (hn_:PySem.W.specialIn K (.builtin "object.__class__") "__get__" = some (some (.builtin "getset_descriptor.__get__")))
 (htk_:PySem.W.takesIn K (.builtin "object.__class__")=some true)
 (ZnR:PySem.W.findIn K (.ref c_Turn) "at" = some none)
 (ZnS:PySem.W.findIn K (.ref c_Turn) "every" = some none)
 (ZnN:PySem.W.findIn K (.ref c_Sum) "high" = some none)
 (ZnG:PySem.W.findIn K (.ref c_Gap) "least" = some none)
 (ZnO:PySem.W.findIn K (.ref c_Sum) "low" = some none)
 (ZnH:PySem.W.findIn K (.ref c_Gap) "mark" = some none)
 (ZnT:PySem.W.findIn K (.ref c_Turn) "mark" = some none)
 (ZnM:PySem.W.findIn K (.ref c_Rule) "marks" = some none)
 (ZnI:PySem.W.findIn K (.ref c_Gap) "marks" = some none)
 (ZnK:PySem.W.findIn K (.ref c_Never) "marks" = some none)
 (ZnP:PySem.W.findIn K (.ref c_Sum) "marks" = some none)
 (ZnU:PySem.W.findIn K (.ref c_Turn) "marks" = some none)
 (ZnC:PySem.W.findIn K (.ref c_Alike) "marks" = some none)
 (ZnE:PySem.W.findIn K (.ref c_All) "marks" = some none)
 (ZnJ:PySem.W.findIn K (.ref c_Gap) "most" = some none)
 (ZnD:PySem.W.findIn K (.ref c_Alike) "most" = some none)
 (ZnF:PySem.W.findIn K (.ref c_All) "rules" = some none)
 (ZnL:PySem.W.findIn K (.ref c_Never) "word" = some none)
 (ZnQ:PySem.W.findIn K (.ref c_Sum) "worths" = some none)
 (Zms:PySem.W.findIn K (.ref c_Rule) "begin" = some (some (.ref f5)))
 (Znn:isFn K (.ref f5)=true)
 (Zmi:PySem.W.findIn K (.ref c_Gap) "begin" = some (some (.ref f14)))
 (Znd:isFn K (.ref f14)=true)
 (Zmn:PySem.W.findIn K (.ref c_Never) "begin" = some (some (.ref f5)))
 (Zni:isFn K (.ref f5)=true)
 (Zmx:PySem.W.findIn K (.ref c_Sum) "begin" = some (some (.ref f5)))
 (Zns:isFn K (.ref f5)=true)
 (ZmC:PySem.W.findIn K (.ref c_Turn) "begin" = some (some (.ref f5)))
 (Znx:isFn K (.ref f5)=true)
 (Zl7:PySem.W.findIn K (.ref c_Alike) "begin" = some (some (.ref f15)))
 (Zm2:isFn K (.ref f15)=true)
 (Zmc:PySem.W.findIn K (.ref c_All) "begin" = some (some (.ref f16)))
 (Zm7:isFn K (.ref f16)=true)
 (Zmt:PySem.W.findIn K (.ref c_Rule) "behind" = some (some (.ref f6)))
 (Zno:isFn K (.ref f6)=true)
 (Zmj:PySem.W.findIn K (.ref c_Gap) "behind" = some (some (.ref f7)))
 (Zne:isFn K (.ref f7)=true)
 (Zmo:PySem.W.findIn K (.ref c_Never) "behind" = some (some (.ref f8)))
 (Znj:isFn K (.ref f8)=true)
 (Zmy:PySem.W.findIn K (.ref c_Sum) "behind" = some (some (.ref f9)))
 (Znt:isFn K (.ref f9)=true)
 (ZmD:PySem.W.findIn K (.ref c_Turn) "behind" = some (some (.ref f10)))
 (Zny:isFn K (.ref f10)=true)
 (Zl8:PySem.W.findIn K (.ref c_Alike) "behind" = some (some (.ref f11)))
 (Zm3:isFn K (.ref f11)=true)
 (Zmd:PySem.W.findIn K (.ref c_All) "behind" = some (some (.ref f12)))
 (Zm8:isFn K (.ref f12)=true)
 (Zmu:PySem.W.findIn K (.ref c_Rule) "broken_at" = some (some (.ref f17)))
 (Znp:isFn K (.ref f17)=true)
 (Zmk:PySem.W.findIn K (.ref c_Gap) "broken_at" = some (some (.ref f17)))
 (Znf:isFn K (.ref f17)=true)
 (Zmp:PySem.W.findIn K (.ref c_Never) "broken_at" = some (some (.ref f17)))
 (Znk:isFn K (.ref f17)=true)
 (Zmz:PySem.W.findIn K (.ref c_Sum) "broken_at" = some (some (.ref f17)))
 (Znu:isFn K (.ref f17)=true)
 (ZmE:PySem.W.findIn K (.ref c_Turn) "broken_at" = some (some (.ref f17)))
 (Znz:isFn K (.ref f17)=true)
 (Zl9:PySem.W.findIn K (.ref c_Alike) "broken_at" = some (some (.ref f17)))
 (Zm4:isFn K (.ref f17)=true)
 (Zme:PySem.W.findIn K (.ref c_All) "broken_at" = some (some (.ref f17)))
 (Zm9:isFn K (.ref f17)=true)
 (Zmv:PySem.W.findIn K (.ref c_Rule) "keeps" = some (some (.ref f18)))
 (Znq:isFn K (.ref f18)=true)
 (Zml:PySem.W.findIn K (.ref c_Gap) "keeps" = some (some (.ref f18)))
 (Zng:isFn K (.ref f18)=true)
 (Zmq:PySem.W.findIn K (.ref c_Never) "keeps" = some (some (.ref f18)))
 (Znl:isFn K (.ref f18)=true)
 (ZmA:PySem.W.findIn K (.ref c_Sum) "keeps" = some (some (.ref f18)))
 (Znv:isFn K (.ref f18)=true)
 (ZmF:PySem.W.findIn K (.ref c_Turn) "keeps" = some (some (.ref f18)))
 (ZnA:isFn K (.ref f18)=true)
 (Zma:PySem.W.findIn K (.ref c_Alike) "keeps" = some (some (.ref f18)))
 (Zm5:isFn K (.ref f18)=true)
 (Zmf:PySem.W.findIn K (.ref c_All) "keeps" = some (some (.ref f18)))
 (Zna:isFn K (.ref f18)=true)
 (Zmg:PySem.W.findIn K (.ref c_All) "rules_told" = some (some (.ref f25)))
 (Znb:isFn K (.ref f25)=true)
 (Zmw:PySem.W.findIn K (.ref c_Rule) "step" = some (some (.ref f13)))
 (Znr:isFn K (.ref f13)=true)
 (Zmm:PySem.W.findIn K (.ref c_Gap) "step" = some (some (.ref f13)))
 (Znh:isFn K (.ref f13)=true)
 (Zmr:PySem.W.findIn K (.ref c_Never) "step" = some (some (.ref f13)))
 (Znm:isFn K (.ref f13)=true)
 (ZmB:PySem.W.findIn K (.ref c_Sum) "step" = some (some (.ref f13)))
 (Znw:isFn K (.ref f13)=true)
 (ZmG:PySem.W.findIn K (.ref c_Turn) "step" = some (some (.ref f13)))
 (ZnB:isFn K (.ref f13)=true)
 (Zmb:PySem.W.findIn K (.ref c_Alike) "step" = some (some (.ref f13)))
 (Zm6:isFn K (.ref f13)=true)
 (Zmh:PySem.W.findIn K (.ref c_All) "step" = some (some (.ref f13)))
 (Znc:isFn K (.ref f13)=true)
 (ZkB:PySem.W.specialIn K (.ref c_Rule) "__getattribute__" = some (some (.builtin "type.__getattribute__")))
 (Zn9:PySem.W.readsIn K c_Rule (.type "type")=true)
 (ZkA:PySem.W.findCls K (.ref c_Rule) (.type "type") "__init__" = some (.val (.ref f4)))
 (Zlh:kitOne K (.type "NoneType") (.ref c_All)=some false)
 (ZlB:kitOne K (.type "bool") (.ref c_All)=some false)
 (ZlG:kitOne K (.type "int") (.ref c_All)=some false)
 (ZlQ:kitOne K (.type "str") (.ref c_All)=some false)
 (ZlL:kitOne K (.type "list") (.ref c_All)=some false)
 (ZlV:kitOne K (.type "tuple") (.ref c_All)=some false)
 (Zlm:kitOne K (.ref c_Rule) (.ref c_All)=some false)
 (Zk7:kitOne K (.ref c_Gap) (.ref c_All)=some false)
 (Zlc:kitOne K (.ref c_Never) (.ref c_All)=some false)
 (Zlr:kitOne K (.ref c_Sum) (.ref c_All)=some false)
 (Zlw:kitOne K (.ref c_Turn) (.ref c_All)=some false)
 (ZkX:kitOne K (.ref c_Alike) (.ref c_All)=some false)
 (Zk2:kitOne K (.ref c_All) (.ref c_All)=some true)
 (Zli:kitOne K (.type "NoneType") (.type "bool")=some false)
 (ZlC:kitOne K (.type "bool") (.type "bool")=some true)
 (ZlH:kitOne K (.type "int") (.type "bool")=some false)
 (ZlR:kitOne K (.type "str") (.type "bool")=some false)
 (ZlM:kitOne K (.type "list") (.type "bool")=some false)
 (ZlW:kitOne K (.type "tuple") (.type "bool")=some false)
 (Zln:kitOne K (.ref c_Rule) (.type "bool")=some false)
 (Zk8:kitOne K (.ref c_Gap) (.type "bool")=some false)
 (Zld:kitOne K (.ref c_Never) (.type "bool")=some false)
 (Zls:kitOne K (.ref c_Sum) (.type "bool")=some false)
 (Zlx:kitOne K (.ref c_Turn) (.type "bool")=some false)
 (ZkY:kitOne K (.ref c_Alike) (.type "bool")=some false)
 (Zk3:kitOne K (.ref c_All) (.type "bool")=some false)
 (Zlj:kitOne K (.type "NoneType") (.type "int")=some false)
 (ZlD:kitOne K (.type "bool") (.type "int")=some true)
 (ZlI:kitOne K (.type "int") (.type "int")=some true)
 (ZlS:kitOne K (.type "str") (.type "int")=some false)
 (ZlN:kitOne K (.type "list") (.type "int")=some false)
 (ZlX:kitOne K (.type "tuple") (.type "int")=some false)
 (Zlo:kitOne K (.ref c_Rule) (.type "int")=some false)
 (Zk9:kitOne K (.ref c_Gap) (.type "int")=some false)
 (Zle:kitOne K (.ref c_Never) (.type "int")=some false)
 (Zlt:kitOne K (.ref c_Sum) (.type "int")=some false)
 (Zly:kitOne K (.ref c_Turn) (.type "int")=some false)
 (ZkZ:kitOne K (.ref c_Alike) (.type "int")=some false)
 (Zk4:kitOne K (.ref c_All) (.type "int")=some false)
 (Zlk:kitOne K (.type "NoneType") (.type "list")=some false)
 (ZlE:kitOne K (.type "bool") (.type "list")=some false)
 (ZlJ:kitOne K (.type "int") (.type "list")=some false)
 (ZlT:kitOne K (.type "str") (.type "list")=some false)
 (ZlO:kitOne K (.type "list") (.type "list")=some true)
 (ZlY:kitOne K (.type "tuple") (.type "list")=some false)
 (Zlp:kitOne K (.ref c_Rule) (.type "list")=some false)
 (Zla:kitOne K (.ref c_Gap) (.type "list")=some false)
 (Zlf:kitOne K (.ref c_Never) (.type "list")=some false)
 (Zlu:kitOne K (.ref c_Sum) (.type "list")=some false)
 (Zlz:kitOne K (.ref c_Turn) (.type "list")=some false)
 (Zk0:kitOne K (.ref c_Alike) (.type "list")=some false)
 (Zk5:kitOne K (.ref c_All) (.type "list")=some false)
 (Zll:kitOne K (.type "NoneType") (.type "tuple")=some false)
 (ZlF:kitOne K (.type "bool") (.type "tuple")=some false)
 (ZlK:kitOne K (.type "int") (.type "tuple")=some false)
 (ZlU:kitOne K (.type "str") (.type "tuple")=some false)
 (ZlP:kitOne K (.type "list") (.type "tuple")=some false)
 (ZlZ:kitOne K (.type "tuple") (.type "tuple")=some true)
 (Zlq:kitOne K (.ref c_Rule) (.type "tuple")=some false)
 (Zlb:kitOne K (.ref c_Gap) (.type "tuple")=some false)
 (Zlg:kitOne K (.ref c_Never) (.type "tuple")=some false)
 (Zlv:kitOne K (.ref c_Sum) (.type "tuple")=some false)
 (ZlA:kitOne K (.ref c_Turn) (.type "tuple")=some false)
 (Zk1:kitOne K (.ref c_Alike) (.type "tuple")=some false)
 (Zk6:kitOne K (.ref c_All) (.type "tuple")=some false)
 : ∃fd:FuncData,(∀(s:Shared)(v:Value),BindsTo s fd ⟨[v],[]⟩ [("script",v)])/\∀base:Heap,K.In base->base.Ns mainGlobals mg->FnOk l.prog w K mg base CX0 7 fa fd ["script"] (ZdX K):=by
 cases hfa.symm.trans (mg_of X G l37.a);have F19:FunX K "__init__" "Gap.__init__" VR f19 _:=⟨_,_,_,_,_,_,_,_,_,_,rfl,l19,c19⟩
 have b19_0:Binds K _ ["self", "marks", "mark", "least", "most"] []:=ZaK ["self", "marks", "mark", "least", "most"] (x:="__init__") (qual:="Gap.__init__") (st:=VR) (kV:=kV19) (doc:=dc19) (pm:=pm19) (an:=an19) (cdv:=cd19) (ct:=ct19) y19 yd19 rfl λus hl=>match us,hl with|[_,_,_,_,_],_=>⟨_,rfl,rfl⟩
 have b19_1:Binds K _ ["self", "marks", "mark", "least", "most"] [.none]:=ZaK ["self", "marks", "mark", "least"] (x:="__init__") (qual:="Gap.__init__") (st:=VR) (kV:=kV19) (doc:=dc19) (pm:=pm19) (an:=an19) (cdv:=cd19) (ct:=ct19) y19 yd19 rfl λus hl=>match us,hl with|[_,_,_,_],_=>⟨_,rfl,rfl⟩
 have T:Txt K mg ⟨f0,f1,f2,f3,f4,f5,f6,f7,f8,f9,f10,f11,f12,f13,f14,f15,f16,f17,f18,f19,f20,f21,f22,f23,f24,f25,f26,f27,f28,f29,f30,f31,f32,f33,f34,f35,f36,fa,c_Rule,c_Gap,c_Never,c_Sum,c_Turn,c_Alike,c_All,d0,d1,d2,d3,d4,d5,d6,d7,d8,d9,d10,d11,d12,d13,d14,d15,d16,d17,d18,_,d20,d21,d22,d23,d24,d25,d26,d27,d28,d29,d30,d31,d32,d33,d34,d35,d36,d37,.str x_MARK_SIGNS t_MARK_SIGNS⟩:=⟨l0.dg X G l0.l.df,l1.dg X G l1.l.df,l2.dg X G l2.l.df,l3.dg X G l3.l.df,l4.df,l5.df,l6.df,l7.df,l8.df,l9.df,l10.df,l11.df,l12.df,l13.df,l14.df,l15.df,l16.df,l17.df,l18.df,F19,b19_0,b19_1,k19,l20.df,l21.df,l22.df,l23.df,l24.df,l25.df,l26.dg X G l26.l.df,l27.dg X G l27.l.df,l28.dg X G l28.l.df,l29.dg X G l29.l.df,l30.dg X G l30.l.df,l31.dg X G l31.l.df,l32.dg X G l32.l.df,l33.dg X G l33.l.df,l34.dg X G l34.l.df,l35.dg X G l35.l.df,l36.dg X G l36.l.df,l37.dg X G l37.l.df,mg_none_of X G Zoq,mg_none_of X G Zor,mg_none_of X G Zos,mg_none_of X G Zot,mg_none_of X G Zou,mg_none_of X G Zov,mg_none_of X G Zow,mg_none_of X G Zox,mg_none_of X G Zoy,mg_none_of X G Zoz,mg_none_of X G ZoA,mg_none_of X G ZoB,mg_none_of X G ZoC,mg_none_of X G ZoD,mg_of X G Zoh,⟨_,by rw [Zoi]⟩,mg_of X G Zon,⟨ZnZ,ZkN,Zn6,Zoe⟩,⟨⟨ZnZ,ZkN,Zn6,Zoe⟩,ZkG,hn_,htk_,ZkU⟩,⟨ZmZ,ZmS,ZmL,Zl4⟩,mg_of X G Zol,⟨ZnX,ZkL,Zn4,Zoc⟩,⟨⟨ZnX,ZkL,Zn4,Zoc⟩,ZkE,hn_,htk_,ZkS⟩,⟨ZmX,ZmQ,ZmJ,Zl2⟩,mg_of X G Zom,⟨ZnY,ZkM,Zn5,Zod⟩,⟨⟨ZnY,ZkM,Zn5,Zod⟩,ZkF,hn_,htk_,ZkT⟩,⟨ZmY,ZmR,ZmK,Zl3⟩,mg_of X G Zoo,⟨Zn0,ZkO,Zn7,Zof⟩,⟨⟨Zn0,ZkO,Zn7,Zof⟩,ZkH,hn_,htk_,ZkV⟩,⟨Zm0,ZmT,ZmM,Zl5⟩,mg_of X G Zop,⟨Zn1,ZkP,Zn8,Zog⟩,⟨⟨Zn1,ZkP,Zn8,Zog⟩,ZkI,hn_,htk_,ZkW⟩,⟨Zm1,ZmU,ZmN,Zl6⟩,mg_of X G Zoj,⟨ZnV,ZkJ,Zn2,Zoa⟩,⟨⟨ZnV,ZkJ,Zn2,Zoa⟩,ZkC,hn_,htk_,ZkQ⟩,⟨ZmV,ZmO,ZmH,Zl0⟩,mg_of X G Zok,⟨ZnW,ZkK,Zn3,Zob⟩,⟨⟨ZnW,ZkK,Zn3,Zob⟩,ZkD,hn_,htk_,ZkR⟩,⟨ZmW,ZmP,ZmI,Zl1⟩,(by intro c hc;simp only [V8,List.mem_cons,List.mem_nil_iff,or_false]at hc;rcases hc with rfl<;>first|exact⟨⟨Zn1,ZkP,Zn8,Zog⟩,ZnR⟩),(by intro c hc;simp only [V9,List.mem_cons,List.mem_nil_iff,or_false]at hc;rcases hc with rfl<;>first|exact⟨⟨Zn1,ZkP,Zn8,Zog⟩,ZnS⟩),(by intro c hc;simp only [Ua,List.mem_cons,List.mem_nil_iff,or_false]at hc;rcases hc with rfl<;>first|exact⟨⟨Zn0,ZkO,Zn7,Zof⟩,ZnN⟩),(by intro c hc;simp only [X2,List.mem_cons,List.mem_nil_iff,or_false]at hc;rcases hc with rfl<;>first|exact⟨⟨ZnX,ZkL,Zn4,Zoc⟩,ZnG⟩),(by intro c hc;simp only [Ub,List.mem_cons,List.mem_nil_iff,or_false]at hc;rcases hc with rfl<;>first|exact⟨⟨Zn0,ZkO,Zn7,Zof⟩,ZnO⟩),(by intro c hc;simp only [Xw,List.mem_cons,List.mem_nil_iff,or_false]at hc;rcases hc with rfl|rfl<;>first|exact⟨⟨ZnX,ZkL,Zn4,Zoc⟩,ZnH⟩|exact⟨⟨Zn1,ZkP,Zn8,Zog⟩,ZnT⟩),(by intro c hc;simp only [fc_marks,List.mem_cons,List.mem_nil_iff,or_false]at hc;rcases hc with rfl|rfl|rfl|rfl|rfl|rfl|rfl<;>first|exact⟨⟨ZnZ,ZkN,Zn6,Zoe⟩,ZnM⟩|exact⟨⟨ZnX,ZkL,Zn4,Zoc⟩,ZnI⟩|exact⟨⟨ZnY,ZkM,Zn5,Zod⟩,ZnK⟩|exact⟨⟨Zn0,ZkO,Zn7,Zof⟩,ZnP⟩|exact⟨⟨Zn1,ZkP,Zn8,Zog⟩,ZnU⟩|exact⟨⟨ZnV,ZkJ,Zn2,Zoa⟩,ZnC⟩|exact⟨⟨ZnW,ZkK,Zn3,Zob⟩,ZnE⟩),(by intro c hc;simp only [Xd,List.mem_cons,List.mem_nil_iff,or_false]at hc;rcases hc with rfl|rfl<;>first|exact⟨⟨ZnX,ZkL,Zn4,Zoc⟩,ZnJ⟩|exact⟨⟨ZnV,ZkJ,Zn2,Zoa⟩,ZnD⟩),(by intro c hc;simp only [U9,List.mem_cons,List.mem_nil_iff,or_false]at hc;rcases hc with rfl<;>first|exact⟨⟨ZnW,ZkK,Zn3,Zob⟩,ZnF⟩),(by intro c hc;simp only [XO,List.mem_cons,List.mem_nil_iff,or_false]at hc;rcases hc with rfl<;>first|exact⟨⟨ZnY,ZkM,Zn5,Zod⟩,ZnL⟩),(by intro c hc;simp only [Uc,List.mem_cons,List.mem_nil_iff,or_false]at hc;rcases hc with rfl<;>first|exact⟨⟨Zn0,ZkO,Zn7,Zof⟩,ZnQ⟩),⟨Zms,Znn,l5.kp⟩,⟨Zmi,Znd,l14.kp⟩,⟨Zmn,Zni,l5.kp⟩,⟨Zmx,Zns,l5.kp⟩,⟨ZmC,Znx,l5.kp⟩,⟨Zl7,Zm2,l15.kp⟩,⟨Zmc,Zm7,l16.kp⟩,⟨Zmt,Zno,l6.kp⟩,⟨Zmj,Zne,l7.kp⟩,⟨Zmo,Znj,l8.kp⟩,⟨Zmy,Znt,l9.kp⟩,⟨ZmD,Zny,l10.kp⟩,⟨Zl8,Zm3,l11.kp⟩,⟨Zmd,Zm8,l12.kp⟩,⟨Zmu,Znp,l17.kp⟩,⟨Zmk,Znf,l17.kp⟩,⟨Zmp,Znk,l17.kp⟩,⟨Zmz,Znu,l17.kp⟩,⟨ZmE,Znz,l17.kp⟩,⟨Zl9,Zm4,l17.kp⟩,⟨Zme,Zm9,l17.kp⟩,⟨Zmv,Znq,l18.kp⟩,⟨Zml,Zng,l18.kp⟩,⟨Zmq,Znl,l18.kp⟩,⟨ZmA,Znv,l18.kp⟩,⟨ZmF,ZnA,l18.kp⟩,⟨Zma,Zm5,l18.kp⟩,⟨Zmf,Zna,l18.kp⟩,⟨Zmg,Znb,l25.kp⟩,⟨Zmw,Znr,l13.kp⟩,⟨Zmm,Znh,l13.kp⟩,⟨Zmr,Znm,l13.kp⟩,⟨ZmB,Znw,l13.kp⟩,⟨ZmG,ZnB,l13.kp⟩,⟨Zmb,Zm6,l13.kp⟩,⟨Zmh,Znc,l13.kp⟩,⟨ZkB,Zn9,ZkA,l4.kp⟩,QL (by intro p hp;simp only [it_All,List.mem_cons,List.mem_nil_iff,or_false]at hp;rcases hp with rfl|rfl|rfl|rfl|rfl|rfl|rfl|rfl|rfl|rfl|rfl|rfl|rfl<;>first|exact Zlh|exact ZlB|exact ZlG|exact ZlQ|exact ZlL|exact ZlV|exact⟨Zlm,⟨ZnZ,ZkN,Zn6,Zoe⟩,ZkG,hn_,htk_,ZkU⟩|exact⟨Zk7,⟨ZnX,ZkL,Zn4,Zoc⟩,ZkE,hn_,htk_,ZkS⟩|exact⟨Zlc,⟨ZnY,ZkM,Zn5,Zod⟩,ZkF,hn_,htk_,ZkT⟩|exact⟨Zlr,⟨Zn0,ZkO,Zn7,Zof⟩,ZkH,hn_,htk_,ZkV⟩|exact⟨Zlw,⟨Zn1,ZkP,Zn8,Zog⟩,ZkI,hn_,htk_,ZkW⟩|exact⟨ZkX,⟨ZnV,ZkJ,Zn2,Zoa⟩,ZkC,hn_,htk_,ZkQ⟩|exact⟨Zk2,⟨ZnW,ZkK,Zn3,Zob⟩,ZkD,hn_,htk_,ZkR⟩),QL (by intro p hp;simp only [J4,List.mem_cons,List.mem_nil_iff,or_false]at hp;rcases hp with rfl|rfl|rfl|rfl|rfl|rfl|rfl|rfl|rfl|rfl|rfl|rfl|rfl<;>first|exact Zli|exact ZlC|exact ZlH|exact ZlR|exact ZlM|exact ZlW|exact⟨Zln,⟨ZnZ,ZkN,Zn6,Zoe⟩,ZkG,hn_,htk_,ZkU⟩|exact⟨Zk8,⟨ZnX,ZkL,Zn4,Zoc⟩,ZkE,hn_,htk_,ZkS⟩|exact⟨Zld,⟨ZnY,ZkM,Zn5,Zod⟩,ZkF,hn_,htk_,ZkT⟩|exact⟨Zls,⟨Zn0,ZkO,Zn7,Zof⟩,ZkH,hn_,htk_,ZkV⟩|exact⟨Zlx,⟨Zn1,ZkP,Zn8,Zog⟩,ZkI,hn_,htk_,ZkW⟩|exact⟨ZkY,⟨ZnV,ZkJ,Zn2,Zoa⟩,ZkC,hn_,htk_,ZkQ⟩|exact⟨Zk3,⟨ZnW,ZkK,Zn3,Zob⟩,ZkD,hn_,htk_,ZkR⟩),QL (by intro p hp;simp only [J5,List.mem_cons,List.mem_nil_iff,or_false]at hp;rcases hp with rfl|rfl|rfl|rfl|rfl|rfl|rfl|rfl|rfl|rfl|rfl|rfl|rfl<;>first|exact Zlj|exact ZlD|exact ZlI|exact ZlS|exact ZlN|exact ZlX|exact⟨Zlo,⟨ZnZ,ZkN,Zn6,Zoe⟩,ZkG,hn_,htk_,ZkU⟩|exact⟨Zk9,⟨ZnX,ZkL,Zn4,Zoc⟩,ZkE,hn_,htk_,ZkS⟩|exact⟨Zle,⟨ZnY,ZkM,Zn5,Zod⟩,ZkF,hn_,htk_,ZkT⟩|exact⟨Zlt,⟨Zn0,ZkO,Zn7,Zof⟩,ZkH,hn_,htk_,ZkV⟩|exact⟨Zly,⟨Zn1,ZkP,Zn8,Zog⟩,ZkI,hn_,htk_,ZkW⟩|exact⟨ZkZ,⟨ZnV,ZkJ,Zn2,Zoa⟩,ZkC,hn_,htk_,ZkQ⟩|exact⟨Zk4,⟨ZnW,ZkK,Zn3,Zob⟩,ZkD,hn_,htk_,ZkR⟩),QL (by intro p hp;simp only [Zdd,List.mem_cons,List.mem_nil_iff,or_false]at hp;rcases hp with rfl|rfl|rfl|rfl|rfl|rfl|rfl|rfl|rfl|rfl|rfl|rfl|rfl<;>first|exact Zlk|exact ZlE|exact ZlJ|exact ZlT|exact ZlO|exact ZlY|exact⟨Zlp,⟨ZnZ,ZkN,Zn6,Zoe⟩,ZkG,hn_,htk_,ZkU⟩|exact⟨Zla,⟨ZnX,ZkL,Zn4,Zoc⟩,ZkE,hn_,htk_,ZkS⟩|exact⟨Zlf,⟨ZnY,ZkM,Zn5,Zod⟩,ZkF,hn_,htk_,ZkT⟩|exact⟨Zlu,⟨Zn0,ZkO,Zn7,Zof⟩,ZkH,hn_,htk_,ZkV⟩|exact⟨Zlz,⟨Zn1,ZkP,Zn8,Zog⟩,ZkI,hn_,htk_,ZkW⟩|exact⟨Zk0,⟨ZnV,ZkJ,Zn2,Zoa⟩,ZkC,hn_,htk_,ZkQ⟩|exact⟨Zk5,⟨ZnW,ZkK,Zn3,Zob⟩,ZkD,hn_,htk_,ZkR⟩),QL (by intro p hp;simp only [UB,List.mem_cons,List.mem_nil_iff,or_false]at hp;rcases hp with rfl|rfl|rfl|rfl|rfl|rfl|rfl|rfl|rfl|rfl|rfl|rfl|rfl<;>first|exact Zll|exact ZlF|exact ZlK|exact ZlU|exact ZlP|exact ZlZ|exact⟨Zlq,⟨ZnZ,ZkN,Zn6,Zoe⟩,ZkG,hn_,htk_,ZkU⟩|exact⟨Zlb,⟨ZnX,ZkL,Zn4,Zoc⟩,ZkE,hn_,htk_,ZkS⟩|exact⟨Zlg,⟨ZnY,ZkM,Zn5,Zod⟩,ZkF,hn_,htk_,ZkT⟩|exact⟨Zlv,⟨Zn0,ZkO,Zn7,Zof⟩,ZkH,hn_,htk_,ZkV⟩|exact⟨ZlA,⟨Zn1,ZkP,Zn8,Zog⟩,ZkI,hn_,htk_,ZkW⟩|exact⟨Zk1,⟨ZnV,ZkJ,Zn2,Zoa⟩,ZkC,hn_,htk_,ZkQ⟩|exact⟨Zk6,⟨ZnW,ZkK,Zn3,Zob⟩,ZkD,hn_,htk_,ZkR⟩)⟩
 obtain⟨_,_,_,_,_,_,_,_,_,rfl,_⟩:=l37.l.ex;exact⟨_,λs v => .of_eq rfl,λbase _ _=>Zhp hall T⟩
theorem walk {l:PySem.W.OpenLaw} {q:Program} {loose:List Str} {XP:(Str->Option Value)->Heap->Prop} {YP:World->Heap->Prop} {d:DefRec} {K:Params->PySem.W.Frag} (hn:l.most=some 63) (hdf:d.params.defaults=[])
 (hY:∀(w:World)(h:Heap),YP w h->(K w.params).In h)
 (F:∀(w:World)(mg:Str->Option Value)(fa:Addr)(h:Heap),(K w.params).In h->h.Ns mainGlobals mg->mg d.name=some (.ref fa) ->
   ∃fd:FuncData,(∀(s:Shared)(u:Value),BindsTo s fd ⟨[u],[]⟩ [("script",u)])/\∀base:Heap,(K w.params).In base->base.Ns mainGlobals mg->FnOk l.prog w (K w.params) mg base CX0 7 fa fd ["script"] (ZdX (K w.params))) :
 PySem.W.WalkO q loose XP YP l.row.toRowW d [] (λf vs=>PySem.call f vs):=
 L2.walk_of (n:=63) (k:=7) (x:="script") (CX:=λ_=>CX0) (sp:=λw=>ZdX (K w.params)) hn (by decide) hdf ⟨rfl,by decide,by decide⟩ hY F (λ_ _ a ns hl _ hS=>⟨a,ns,rfl,hS,hl,λ_=>rfl⟩) λ_ _ _ _ _ z=>z
end K04
open PySem PySem.W PyProof.Rows
set_option maxRecDepth 100000 in
set_option maxHeartbeats 0 in
theorem PySem.Challenge.cw_grooveway_k04_all_at_once_holds : PySem.Challenge.rw_grooveway_k04_all_at_once.Holds := by
 w_on;o_law
 refine holds_open (r:=PySem.Challenge.rw_grooveway_k04_all_at_once.row) (q:=(view PySem.Challenge.pw_grooveway_k04_all_at_once [1,2,3,4,6,7,8,9,10,11,12,13,14,15,16,17,19,20,21,22,23,24,25,26,27,28,29,30])) (loose:=["Gap"]) (XP:=XL (view PySem.Challenge.pw_grooveway_k04_all_at_once [1,2,3,4,6,7,8,9,10,11,12,13,14,15,16,17,19,20,21,22,23,24,25,26,27,28,29,30]) []) (YP:=InK K04.kP) K04.left (InK.of K04.kP_as) InK.keeps (λs e=>xl_of s (Bool.and_eq_true_iff.mp e).1) XL.keeps (by rfl) (by rfl) (by rfl) (λs e=>recFacts_of (Bool.and_eq_true_iff.mp e).2) (by rfl) (by assumption) (by decide +kernel) ⟨rfl,rfl,rfl,rfl,rfl,by decide +kernel⟩ ?hw ?hc
 case hw=>w_witness2
 k_fill
 refine K04.walk (l:=PySem.Challenge.rw_grooveway_k04_all_at_once) rfl rfl (λw h Y=>Y) ?F
 case F=>
  intro w mg fa h KX G hmg;refine' K04.all_mk K04.all_true KX G hmg ..
  any_goals first|k_is|kit_is|rfl|kernel_rfl|decide +kernel|(refine' L2.Fg.of ?_ ?_ ?_ ?_<;>first|k_is|skip)|(refine' L2.fun_mk ?_ ?_ ?_<;>first|k_is|skip)|skip
