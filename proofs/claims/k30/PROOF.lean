import PyProof.Rows.All
import Wide.All
import OpenK.AllK
import Wide.FinOn
import Lean
import PyProof.EqAt
import PyProof.EqKinds
import PyProof.TupleCall
import PyProof.Rows.StrCountLaw
import PyProof.Rows.StrFirst
import PyProof.Rows.StrLast
import PyProof.Rows.StrNews2
import PyProof.Rows.StrSplitCount
import PyProof.StrBlockI
import PyProof.StrLawsIn
import PyProof.StrLawsLast
import PyProof.EnumMake
import PyProof.FString
import PyProof.ReprStr
import PyProof.StrLawsRepr
import PyProof.ListStr
import PyProof.ListRange
import PySem.Challenge.RW_grooveway_k30_whole_verdict
set_option Elab.async false
set_option linter.all false
set_option maxRecDepth 100000
set_option maxHeartbeats 4000000
open PySem.W (keepIn nsIn mg_of fnOf codeIn kitOne mg_none_of isFn instObj emptyDict)
namespace L2
open PySem PySem.Spec PyProof.Rows
abbrev Key:=Sum Int Str
def ZgG:Key->Value->Bool
 | .inl k,v=>Value.isInt k v
 | .inr x,v=>Value.isStrOf x v
def Zkk(w:World):Key->Int
 | .inl k=>hashInt k
 | .inr x=>hashStr w x
theorem Vq:∀{k:Key}{v:Value},ZgG k v=true->(∃i t,k=Sum.inl i/\v=Value.int i t)\/(∃x t,k=Sum.inr x/\v=Value.str x t)
 | .inl i,v,h=>by
  obtain⟨t,e⟩:=Value.isInt_shape (k:=i) (v:=v) h;exact .inl ⟨i,t,rfl,e⟩
 | .inr x,v,h=>by
  obtain⟨t,e⟩:=Value.isStrOf_shape (x:=x) (v:=v) h;exact .inr ⟨x,t,rfl,e⟩
theorem Zg4(a b:Int):decide ((Sum.inl a:Key)=Sum.inl b)=(a == b):=by
 by_cases e:a=b
 · subst e;simp
 · have h:¬(Sum.inl a:Key)=Sum.inl b:=λq=>e (Sum.inl.inj q)
   rw [decide_eq_false h];exact(beq_eq_false_iff_ne.mpr e).symm
theorem Zg5(a b:Str):decide ((Sum.inr a:Key)=Sum.inr b)=decide (a=b):=by
 by_cases e:a=b
 · subst e;simp
 · have h:¬(Sum.inr a:Key)=Sum.inr b:=λq=>e (Sum.inr.inj q)
   rw [decide_eq_false h,decide_eq_false e]
theorem Zg6(a:Int)(b:Str):decide ((Sum.inl a:Key)=Sum.inr b)=false:=decide_eq_false (λq=>nomatch q)
theorem Zg7(a:Str)(b:Int):decide ((Sum.inr a:Key)=Sum.inl b)=false:=decide_eq_false (λq=>nomatch q)
def Zdb(prog:Program)(w:World):PySem.KeyKind prog w Key where
 is:=ZgG
 hash:=Zkk w
 inj:=λv a b ha hb=>by
  rcases Vq ha with⟨i,t,rfl,rfl⟩|⟨x,t,rfl,rfl⟩
  · rcases Vq hb with⟨j,u,rfl,e⟩|⟨y,u,rfl,e⟩
    · injection e with e1 _;rw [e1]
    · exact nomatch e
  · rcases Vq hb with⟨j,u,rfl,e⟩|⟨y,u,rfl,e⟩
    · exact nomatch e
    · injection e with e1 _;rw [e1]
 byValue:=λk v h=>by
  rcases Vq h with⟨i,t,rfl,rfl⟩|⟨x,t,rfl,rfl⟩<;>rfl
 pyHash:=λhv h=>by
  rcases Vq hv with⟨i,t,rfl,rfl⟩|⟨x,t,rfl,rfl⟩
  · exact wpAny_pyHash_int h
  · exact wpAny_pyHash_str h
 eqBool:=λhu hv h=>by
  rcases Vq hu with⟨i,t,rfl,rfl⟩|⟨x,t,rfl,rfl⟩
  · rcases Vq hv with⟨j,u,rfl,rfl⟩|⟨y,u,rfl,rfl⟩
    · rw [Zg4]at h;exact wpAny_eqBool_int h
    · rw [Zg6]at h;exact SeqAt.EqAt.int_str i t y u _ _ _ _ h
  · rcases Vq hv with⟨j,u,rfl,rfl⟩|⟨y,u,rfl,rfl⟩
    · rw [Zg7]at h;exact SeqAt.EqAt.str_int x t j u _ _ _ _ h
    · rw [Zg5]at h;exact wpAny_eqBool_str h
 «strs» := λk x t v h=>by
  rcases Vq h with⟨i,u,rfl,e⟩|⟨y,u,rfl,e⟩
  · exact nomatch e
  · injection e with e1 _
    subst e1;cases v<;>rfl
end L2
namespace L2
open PySem PySem.Spec PyProof.Rows
inductive V where
 |non|bl (b:Bool)|int (i:Int)|str (x:Str)|byt (b:Array UInt8)|flt (b:UInt64)|ref (a:Addr)|ty (n:String)
 deriving DecidableEq
def RelV:V->Value->Prop
 | .non,u=>u=Value.none
 | .bl b,u=>u=Value.bool b
 | .int i,u=>∃t,u=Value.int i t
 | .str x,u=>∃t,u=Value.str x t
 | .byt b,u=>∃t,u=Value.bytes b t
 | .flt b,u=>∃t,u=Value.float b t
 | .ref a,u=>u=Value.ref a
 | .ty n,u=>u=Value.type n
abbrev Vals:List V->List Value->Prop:=Paired RelV
theorem Vals.length{xs:List V}{us:List Value}(r:Vals xs us):xs.length=us.length:=Paired.length r
theorem Vals.get:∀{xs:List V}{us:List Value}{i:Nat}{x:V},Vals xs us->xs[i]? = some x->∃u,us[i]? = some u/\RelV x u
 |_,_,_,_,.nil,e=>by simp at e
 |_,_,0,_,.cons r _,e=>by simp at e;subst e;exact⟨_,rfl,r⟩
 |_,_,i+1,x,.cons _ t,e=>by
  obtain⟨u,h1,h2⟩:=Vals.get (i:=i) (x:=x) t (by simpa using e);exact⟨u,by simpa using h1,h2⟩
theorem Vals.set{x:V}{u:Value}(r:RelV x u):∀{xs:List V}{us:List Value}(i:Nat),Vals xs us->Vals (xs.set i x) (us.set i u)
 |_,_,_,.nil => .nil
 |_,_,0,.cons _ t => .cons r t
 |_,_,i+1,.cons q t => .cons q (Vals.set r i t)
theorem Vals.append:∀{xs ys:List V}{us ws:List Value},Vals xs us->Vals ys ws->Vals (xs++ys) (us++ws)
 |_,_,_,_,.nil,s=>s
 |_,_,_,_,.cons r t,s => .cons r (Vals.append t s)
theorem Vals.take:∀{xs:List V}{us:List Value}(n:Nat),Vals xs us->Vals (xs.take n) (us.take n)
 |_,_,0,_ => .nil
 |_,_,_+1,.nil => .nil
 |_,_,n+1,.cons r t => .cons r (Vals.take n t)
theorem Vals.drop:∀{xs:List V}{us:List Value}(n:Nat),Vals xs us->Vals (xs.drop n) (us.drop n)
 |_,_,0,r=>r
 |_,_,_+1,.nil => .nil
 |_,_,n+1,.cons _ t=>Vals.drop n t
def RelO:Option V->Option Value->Prop
 |some v,some u=>RelV v u
 |none,none=>True
 |_,_=>False
def KV{κ:Type}:List (κ×V)->List (κ×Value)->Prop:=Paired λ(p:κ×V) (q:κ×Value)=>p.1=q.1/\RelV p.2 q.2
def kV:Key->V
 | .inl i => .int i
 | .inr x => .str x
inductive HO where
 |lst (xs:List V)
 |tup (xs:List V)
 |dK (kvs:List (Key×V))|dT (kvs:List (List Key×V))
 |set (S:Int->Bool) (n:Nat)
 |ins (C dx:Addr) (fs:List (Str×V))
 |own (x:Addr)
 |xd (fs:List (Str×V))
 |met (f x:Addr)
 |rng (lo hi:Int)
 |frz (o:Obj) (u:HO)
 |tbl (ps:Array Value)
 |ext (φ:Heap->Prop)
abbrev Hp:=Addr->Option HO
def upd(H:Hp)(a:Addr)(o:HO):Hp:=λb=>if b=a then some o else H b
theorem ZW{H:Hp}{a:Addr}{o:HO}:upd H a o a=some o:=by unfold upd;rw [if_pos rfl]
theorem ZA{H:Hp}{a b:Addr}{o:HO}(h:b≠a):upd H a o b=H b:=by unfold upd;rw [if_neg h]
theorem Yr{H:Hp}{a b:Addr}{o:HO}(h:H a=some o)(h':H b=none):a≠b:=by
 intro e;subst e;rw [h]at h';cases h'
def TupN(h:Heap)(a:Addr)(its:Array Value):Prop:=∃o,h.get? a=some o/\o.cls = .type "tuple" /\ (∃n,o.data = .seq its n)/\o.dict=none
theorem TupN.tup{h:Heap}{a:Addr}{its:Array Value}(x:TupN h a its):IsTup h a its:=let⟨o,e,c,d,_⟩:=x;⟨o,e,c,d⟩
theorem TupN.new(h:Heap)(its:Array Value):TupN (h.push { cls := .type "tuple",data := .seq its }) h.objs.size its:=⟨_,Heap.get?_push_size _ rfl,rfl,⟨_,rfl⟩,rfl⟩
section
variable(P:Program)(w:World)
def ObjOk(H:Hp)(h:Heap)(a:Addr):HO->Prop
 | .lst xs=>xs.length<=sizeLine/\∃(its:List Value) (n:Nat),Vals xs its/\h.get? a=some { cls := .type "list",data := .seq its.toArray n }
 | .tup xs=>xs.length<=sizeLine/\∃its:List Value,Vals xs its/\TupN h a its.toArray
 | .dK kvs=>kvs.length<=sizeLine/\(a == sysModules)=false/\∃vs,KV kvs vs/\h.DictOf (Zdb P w) a vs
 | .dT kvs=>kvs.length<=sizeLine/\(a == sysModules)=false/\∃xs:List (List Key×Addr×Value),
  Paired (λ(p:List Key×V) (q:List Key×Addr×Value)=>p.1=q.1/\H q.2.1=some (.tup (p.1.map kV))/\RelV p.2 q.2.2) kvs xs /\
  ∃o es ep,h.get? a=some o/\o.ExactDict/\o.data = .dict es ep/\es.toList=xs.map (entryOfKey (tupleKind (Zdb P w)))/\(xs.map (·.1)).Nodup
 | .set S n=>h.SetOf (intKind P w) a S n
 | .ins C dx fs=>H dx=some (.own a)/\fs.length<=1000/\dx≠a/\h.get? a=some (instObj C dx) /\
  ∃mA,h.Ns1 dx mA/\(∀f,RelO (fs.lookup f) (mA f))/\PySem.Within mA (fs.map (·.1))
 | .own _=>∃o,h.get? a=some o
 | .xd fs=>∃mA,h.Ns1 a mA/\∀f,RelO (fs.lookup f) (mA f)
 | .rng lo hi=>∃t u v,h.get? a=some { cls := .type "range",data := .fields #[.int lo t,.int hi u,.int 1 v] }
 | .frz o u=>h.get? a=some o/\ObjOk H h a u
 | .tbl ps=>h.get? a=some { cls := .none,data := .fields ps }
 | .met f x=>h.get? a=some (PySem.W.methodObj (.ref f) (.ref x))
 | .ext φ=>φ h/\(∃o,h.get? a=some o)/\∀h1 h2:Heap,φ h1->(∀o,h1.get? a=some o->h2.get? a=some o)->φ h2
def HOk(H:Hp)(h:Heap):Prop:=∀a o,H a=some o->ObjOk P w H h a o
end
section
variable{P:Program}{w:World}{H H':Hp}{h h':Heap}{a:Addr}{o:HO}
theorem ObjOk.lt(x:ObjOk P w H h a o):a<h.objs.size:=by
 cases o with
 |lst xs=>obtain⟨_,_,_,_,e⟩:=x;exact Heap.lt_size e
 |tup xs=>obtain⟨_,_,_,p⟩:=x;exact p.tup.lt
 |dK kvs=>obtain⟨_,_,_,_,o,_,_,e,_⟩:=x;exact Heap.lt_size e
 |dT kvs=>obtain⟨_,_,_,_,o,_,_,e,_⟩:=x;exact Heap.lt_size e
 |set S n=>obtain⟨o,_,_,_,e,_⟩:=x;exact Heap.lt_size e
 |ins C dx fs=>obtain⟨_,_,_,e,_⟩:=x;exact Heap.lt_size e
 |own y=>obtain⟨_,e⟩:=x;exact Heap.lt_size e
 |xd fs=>obtain⟨_,⟨_,_,_,e,_⟩,_⟩:=x;exact Heap.lt_size e
 |rng lo hi=>obtain⟨_,_,_,e⟩:=x;exact Heap.lt_size e
 |frz ob u=>obtain⟨e,_⟩:=x;exact Heap.lt_size e
 |tbl ps=>exact Heap.lt_size (show h.get? a=some _ from x)
 |met f y=>exact Heap.lt_size (show h.get? a=some _ from x)
 |ext φ=>obtain⟨_,⟨_,e⟩,_⟩:=x;exact Heap.lt_size e
theorem Paired.mapP{α β:Type}{F G:α->β->Prop}:∀{l₁:List α}{l₂:List β},Paired F l₁ l₂->(∀a b,F a b->G a b)->Paired G l₁ l₂
 |_,_,.nil,_ => .nil
 |_,_,.cons r t,f => .cons (f _ _ r) (Paired.mapP t f)
theorem ObjOk.stay (x:ObjOk P w H h a o) (k:∀b u,(b=a\/H b=some (.own a))->h.get? b=some u->h'.get? b=some u)
 (ho:∀b,H b=some (.own a)->H' b=some (.own a)) (ht:∀b xs,H b=some (.tup xs)->H' b=some (.tup xs)):ObjOk P w H' h' a o:=by
 induction o with
 |lst xs=>obtain⟨z,its,n,r,e⟩:=x;exact⟨z,its,n,r,k _ _ (.inl rfl) e⟩
 |tup xs=>obtain⟨z,its,r,ob,e,c⟩:=x;exact⟨z,its,r,ob,k _ _ (.inl rfl) e,c⟩
 |dK kvs=>obtain⟨z,y,vs,r,ob,es,ep,e,c⟩:=x;exact⟨z,y,vs,r,ob,es,ep,k _ _ (.inl rfl) e,c⟩
 |dT kvs=>
  obtain⟨z,y,xs,r,ob,es,ep,e,c⟩:=x;exact⟨z,y,xs,Paired.mapP r λp q z=>⟨z.1,ht _ _ z.2.1,z.2.2⟩,ob,es,ep,k _ _ (.inl rfl) e,c⟩
 |set S n=>obtain⟨ob,es,ep,t,e,c⟩:=x;exact⟨ob,es,ep,t,k _ _ (.inl rfl) e,c⟩
 |ins C dx fs=>
  obtain⟨d,z,ne,e,mA,⟨od,es,ep,e2,c⟩,r⟩:=x;exact⟨ho _ d,z,ne,k _ _ (.inl rfl) e,mA,⟨od,es,ep,k _ _ (.inr d) e2,c⟩,r⟩
 |own y=>obtain⟨ob,e⟩:=x;exact⟨ob,k _ _ (.inl rfl) e⟩
 |xd fs=>obtain⟨mA,⟨od,es,ep,e,c⟩,r⟩:=x;exact⟨mA,⟨od,es,ep,k _ _ (.inl rfl) e,c⟩,r⟩
 |rng lo hi=>obtain⟨t,u,v,e⟩:=x;exact⟨t,u,v,k _ _ (.inl rfl) e⟩
 |frz ob u ih=>obtain⟨e,q⟩:=x;exact⟨k _ _ (.inl rfl) e,ih q⟩
 |tbl ps=>
  have e:h.get? a=some { cls := .none,data := .fields ps }:=x;show h'.get? a=some { cls := .none,data := .fields ps };exact k a _ (.inl rfl) e
 |met f y=>
  have e:h.get? a=some (PySem.W.methodObj (.ref f) (.ref y)):=x;show h'.get? a=some (PySem.W.methodObj (.ref f) (.ref y));exact k a _ (.inl rfl) e
 |ext φ=>obtain⟨p,⟨o,e⟩,st⟩:=x;exact⟨st _ _ p λo q=>k _ _ (.inl rfl) q,⟨o,k _ _ (.inl rfl) e⟩,st⟩
theorem HOk.lt(x:HOk P w H h)(e:H a=some o):a<h.objs.size:=(x a o e).lt
theorem HOk.fresh(x:HOk P w H h)(e:h.objs.size<=a):H a=none:=by
 cases q:H a with
 |none=>rfl
 |some u=>exact absurd (Nat.lt_of_lt_of_le (x.lt q) e) (Nat.lt_irrefl _)
theorem HOk.kept(x:HOk P w H h)(k:∀b u,h.get? b=some u->h'.get? b=some u):HOk P w H h':=λa o e=>
 (x a o e).stay (λb u _ q=>k b u q) (λ_ q=>q) λ_ _ q=>q
theorem HOk.laid(x:HOk P w H h)(k:∀b u,h.get? b=some u->h'.get? b=some u)(hp:h.objs.size<=a)(new:ObjOk P w (upd H a o) h' a o):HOk P w (upd H a o) h':=λb u e=>by
 have hn:=x.fresh hp
 by_cases hb:b=a
 · subst hb;rw [ZW]at e;cases e;exact new
 · rw [ZA hb]at e
   exact(x b u e).stay (λc v _ q=>k c v q) (λc q=>by rw [ZA (Yr q hn)];exact q) λc xs q=>by rw [ZA (Yr q hn)];exact q
end
def Rd(H:Hp)(a:Addr)(u:HO):Prop:=H a=some u\/∃o,H a=some (.frz o u)
theorem Rd.ok{P:Program}{w:World}{H:Hp}{h:Heap}{a:Addr}{u:HO}(r:Rd H a u)(x:HOk P w H h):ObjOk P w H h a u:=by
 rcases r with r|⟨o,r⟩
 · exact x a u r
 · obtain⟨_,q⟩:=x a _ r
   exact q
def Mut:Option HO->Prop
 |some (.lst _)=>True
 |some (.dK _)=>True
 |some (.dT _)=>True
 |some (.set _ _)=>True
 |some (.ins _ _ _)=>True
 |some (.ext _)=>True
 |_=>False
section
variable{P:Program}{w:World}{H:Hp}{h h':Heap}{x e:Addr}{o':HO}
theorem HOk.write (ok:HOk P w H h) (mu:Mut (H x)) (he:e=x\/H e=some (.own x)) (k:∀b u,b≠e->h.get? b=some u->h'.get? b=some u) (heo:∃u,h'.get? e=some u)
 (new:ObjOk P w (upd H x o') h' x o'):HOk P w (upd H x o') h':=λb u q=>by
 have nown:∀c y,H c=some (.own y)->c≠x:=λc y r z=>by subst z;rw [r]at mu;exact mu
 have ntup:∀c xs,H c=some (.tup xs)->c≠x:=λc xs r z=>by subst z;rw [r]at mu;exact mu
 by_cases hb:b=x
 · subst hb;rw [ZW]at q;cases q;exact new
 · rw [ZA hb]at q
   by_cases hbe:b=e
   · have q' : H b = some (.own x) := by
      rcases he with z|z
      · exact absurd (hbe.trans z) hb
      · rw [hbe];exact z
     rw [q]at q';cases q';obtain⟨v,hv⟩:=heo;exact⟨v,by rw [hbe];exact hv⟩
   · refine(ok b u q).stay (λc v hc r=>k c v ?_ r) (λc r=>by rw [ZA (nown c b r)];exact r) λc xs r=>by rw [ZA (ntup c xs r)];exact r
     rcases hc with rfl|hc
     · exact hbe
     · rintro rfl
       rcases he with z|z
       · exact nown c b hc z
       · rw [hc]at z;cases z;exact hb rfl
end
structure Un(fs ex:List Addr)(H H':Hp)(h h':Heap):Prop where
 keep:∀b o,h.get? b=some o->H b=none->b∉fs->b∉ex->h'.get? b=some o
 slot:∀b o,h.get? b=some o->H b=none->b∈fs->b∉ex->∃sl,h'.get? b=some { o with slots:=sl }
 free:∀b o,h.get? b=some o->H b=none->b∉ex->H' b=none
 there:∀b o,h.get? b=some o->b∉ex->∃o',h'.get? b=some o'
 tups:∀b xs,H b=some (.tup xs)->H' b=some (.tup xs)
 frzs:∀b o u,H b=some (.frz o u)->H' b=some (.frz o u)
 tbls:∀b ps,H b=some (.tbl ps)->∃more,H' b=some (.tbl (ps++more))
section
variable{fs fs' ex ex':List Addr}{H H1 H2:Hp}{h h1 h2 h':Heap}{a x e:Addr}{o:HO}
theorem Un.any(u:Un fs ex H H1 h h1){b:Addr}{ob:Obj}(q:h.get? b=some ob)(n:H b=none)(hx:b∉ex):∃sl,h1.get? b=some { ob with slots:=sl }:=by
 by_cases hb:b∈fs
 · exact u.slot b ob q n hb hx
 · exact⟨ob.slots,u.keep b ob q n hb hx⟩
theorem Un.trans(a:Un fs ex H H1 h h1)(b:Un fs ex H1 H2 h1 h2):Un fs ex H H2 h h2 where
 keep:=λc ob q n hc hx=>b.keep c ob (a.keep c ob q n hc hx) (a.free c ob q n hx) hc hx
 slot:=λc ob q n hc hx=>by
  obtain⟨sl,e1⟩:=a.slot c ob q n hc hx;obtain⟨sl',e2⟩:=b.slot c _ e1 (a.free c ob q n hx) hc hx;exact⟨sl',e2⟩
 free:=λc ob q n hx=>by
  obtain⟨o',e1⟩:=a.there c ob q hx;exact b.free c o' e1 (a.free c ob q n hx) hx
 there:=λc ob q hx=>by
  obtain⟨o',e1⟩:=a.there c ob q hx;exact b.there c o' e1 hx
 tups:=λc xs q=>b.tups c xs (a.tups c xs q)
 frzs:=λc ob xs q=>b.frzs c ob xs (a.frzs c ob xs q)
 tbls:=λc ps q=>by
  obtain⟨m1,e1⟩:=a.tbls c ps q;obtain⟨m2,e2⟩:=b.tbls c _ e1;exact⟨m1++m2,by rw [e2,Array.append_assoc]⟩
theorem Un.kept(k:∀b u,h.get? b=some u->h'.get? b=some u):Un fs ex H H h h':=
 ⟨λb ob q _ _ _=>k b ob q,λb ob q _ _ _=>⟨ob.slots,k b ob q⟩,λ_ _ _ n _=>n,λb ob q _=>⟨ob,k b ob q⟩,λ_ _ q=>q,λ_ _ _ q=>q,λ_ ps q=>⟨#[],by rw [q];simp⟩⟩
theorem Un.refl:Un fs ex H H h h:=Un.kept λ_ _ q=>q
theorem Un.laid(k:∀b u,h.get? b=some u->h'.get? b=some u)(hp:h.objs.size<=a)(hn:H a=none):Un fs ex H (upd H a o) h h' where
 keep:=λb u q _ _ _=>k b u q
 slot:=λb u q _ _ _=>⟨u.slots,k b u q⟩
 free:=λb u q n _=>by rw [ZA (Nat.ne_of_lt (Nat.lt_of_lt_of_le (Heap.lt_size q) hp))];exact n
 there:=λb u q _=>⟨u,k b u q⟩
 tups:=λb xs q=>by rw [ZA (Yr q hn)];exact q
 frzs:=λb u xs q=>by rw [ZA (Yr q hn)];exact q
 tbls:=λb ps q=>⟨#[],by rw [ZA (Yr q hn),q];simp⟩
theorem Un.write(mu:Mut (H x))(he:e=x\/H e=some (.own x))(k:∀b u,b≠e->h.get? b=some u->h'.get? b=some u)(heo:∃u,h'.get? e=some u):Un fs ex H (upd H x o) h h':=by
 have hx:∀b,H b=none->b≠x:=λb n z=>by subst z;rw [n]at mu;exact mu
 have hb:∀b,H b=none->b≠e:=λb n z=>by
  subst z;rcases he with r|r
  · exact hx b n r
  · rw [n]at r;cases r
 have hm:∀b u,H b=some u->¬Mut (some u)->b≠x:=λb u q nm z=>by subst z;rw [q]at mu;exact nm mu
 refine⟨λb u q n _ _=>k b u (hb b n) q,λb u q n _ _=>⟨u.slots,k b u (hb b n) q⟩,λb u q n _=>by rw [ZA (hx b n)];exact n,λb u q _ => ?_,
  λb xs q=>by rw [ZA (hm b _ q λz=>z)];exact q,λb u xs q=>by rw [ZA (hm b _ q λz=>z)];exact q,λb ps q=>⟨#[],by rw [ZA (hm b _ q λz=>z),q];simp⟩⟩
 by_cases hbe:b=e
 · subst hbe;exact heo
 · exact⟨u,k b u hbe q⟩
end
def trk(h:Heap)(H:Hp):List Addr:=(List.range h.objs.size).filter λa=>(H a).isSome
def Vr(h:Heap)(H:Hp):Heap:=PySem.W.hideAll h (trk h H)
theorem ZdM(h:Heap)(H:Hp):(Vr h H).objs.size=h.objs.size:=PySem.W.hideAll_size _ _
theorem Zeo{h:Heap}{H:Hp}{b:Addr}{o:Obj}(e:h.get? b=some o)(n:H b=none):(Vr h H).get? b=some o:=
 PySem.W.hideAll_get _ e λhm=>by
  have q:(H b).isSome=true:=(List.mem_filter.mp hm).2;rw [n]at q;simp at q
theorem ZfS{h:Heap}{H:Hp}{b:Addr}{o:Obj}(e:(Vr h H).get? b=some o):h.get? b=some o/\H b=none:=by
 have e':h.get? b=some o:=PySem.W.of_hideAll (trk h H) e;refine⟨e',?_⟩;cases q:H b with
 |none=>rfl
 |some x=>
  have hm:b∈trk h H:=List.mem_filter.mpr ⟨List.mem_range.mpr (Heap.lt_size e'),by simp [q]⟩;have z:(Vr h H).get? b=none:=PySem.W.hideAll_none (trk h H) hm;rw [z]at e;cases e
end L2
namespace L2
open PySem PySem.Spec PyProof.Rows
structure Mod(K:PySem.W.Frag)(mg:Str->Option Value)(base:Heap):Prop where
 kin:K.In base
 glob:base.Ns mainGlobals mg
 blt:∃mb,base.Ns builtinsNs mb/\∀x:Str,x ≠ "__name__" -> mb x=bootBuiltins x
 nolimit:base.NoLimit
structure Cx where
 prog:Program
 w:World
 K:PySem.W.Frag
 mg:Str->Option Value
 base:Heap
 A:Around
 N:List Str
 s₀:Shared
 H₀:Hp
 env:Env
 outer:List Env
 stack:List Env
 ex:List Addr
 fn:Str->Bool
 calm:Bool
 pn:List (Addr×Obj)
 xe:Value->Shared->Prop
def frs(l:List Env):List Addr:=l.filterMap (·.frame)
abbrev Cx.fs(X:Cx):List Addr:=frs X.outer
def Vis(sc:Scope)(x:Str):Prop:=sc.names.lookup x=some .local\/sc.names.lookup x=some .cell\/sc.names.lookup x=some .free
def Loc(sc:Scope)(x:Str):Prop:=sc.names.lookup x=some .local\/sc.names.lookup x=some .cell
def Zj5(env:Env)(h:Heap)(m:Str->Option Value)(x:Str)(u:Value):Prop:=
 (env.kindOf x=some .local/\m x=some u)\/((env.kindOf x=some .cell\/env.kindOf x=some .free)/\∃c,env.cells.lookup x=some c/\h.IsCell c (some u))
structure Cx.Ok(X:Cx):Prop where
 mod:Mod X.K X.mg X.base
 kind:X.env.scope.kind = .function
 glob:X.env.globals=mainGlobals
 blt:X.env.builtins=builtinsNs
 above:X.s₀.heap.objs.size<=X.env.locals
 inj:∀x y c,X.env.cells.lookup x=some c->X.env.cells.lookup y=some c->x=y
 has:∀x,(X.env.kindOf x=some .cell\/X.env.kindOf x=some .free)->∃c,X.env.cells.lookup x=some c
 cab:∀x c,X.fn x=true->X.env.cells.lookup x=some c->X.s₀.heap.objs.size<=c
 hd:X.calm=true->X.A.handled=none
 frames:X.A.frames=some X.stack
 stk:X.stack=X.outer\/(X.stack=X.env::X.outer/\X.env.frame=some X.env.locals)
 exf:∀b∈X.ex,b≠X.env.locals/\∀x c,X.env.cells.lookup x=some c->c≠b
 bs:∀b o,X.base.get? b=some o->X.s₀.heap.get? b=some o/\X.H₀ b=none
 bsz:X.base.objs.size<=X.s₀.heap.objs.size
 noex:∀b o,X.base.get? b=some o->b∉X.ex
 exfs:∀b∈X.ex,b∉X.fs
 funs:X.s₀.heap.FunFrames X.base X.outer
 frf:∀b∈X.fs,X.H₀ b=none
structure Inv(X:Cx)(pins:List (Addr×Obj))(σ:List (Option V))(H:Hp)(s:Shared):Prop where
 ok:X.Ok
 os:s.os=X.s₀.os
 bare:AllBare s.gens
 base:Un X.fs X.ex X.H₀ H X.s₀.heap s.heap
 loc:∃m,s.heap.Ns X.env.locals m/\∀(i:Nat)(x:Str)(v:V),X.N[i]? = some x->σ[i]? = some (some v)->Vis X.env.scope x->∃u,RelV v u/\Zj5 X.env s.heap m x u
 cell:∀x c,X.env.cells.lookup x=some c->∃v,s.heap.IsCell c v
 free:H X.env.locals=none
 freeC:∀x c,X.env.cells.lookup x=some c->H c=none
 pin:∀p∈X.pn++pins,s.heap.get? p.1=some p.2/\H p.1=none/\p.1≠X.env.locals/\p.1∉X.fs/\∀v,p.2.data ≠ .cell v
 hok:HOk X.prog X.w H s.heap
 len:σ.length=X.N.length
section
variable{X:Cx}{pins:List (Addr×Obj)}{σ:List (Option V)}{H H':Hp}{s:Shared}{h':Heap}
theorem Cx.Ok.nofr(ok:X.Ok){b:Addr}{o:Obj}(e:X.base.get? b=some o):b∉X.fs:=λhb=>by
 have:=(ok.funs.mem hb).1;rw [e]at this;cases this
theorem Inv.bs(I:Inv X pins σ H s):∀b o,X.base.get? b=some o->s.heap.get? b=some o/\H b=none:=λb o e=>
 ⟨I.base.keep b o (I.ok.bs b o e).1 (I.ok.bs b o e).2 (I.ok.nofr e) (I.ok.noex b o e),I.base.free b o (I.ok.bs b o e).1 (I.ok.bs b o e).2 (I.ok.noex b o e)⟩
theorem Inv.bk(I:Inv X pins σ H s):∀b o,X.base.get? b=some o->s.heap.get? b=some o:=λb o e=>(I.bs b o e).1
theorem Inv.mod(I:Inv X pins σ H s):Mod X.K X.mg X.base:=I.ok.mod
theorem Inv.kIn(I:Inv X pins σ H s):X.K.In s.heap:=I.ok.mod.kin.keeps I.bk
theorem Inv.nolimit(I:Inv X pins σ H s):s.heap.NoLimit:=I.ok.mod.nolimit.keeps I.bk
theorem Inv.fr(I:Inv X pins σ H s):∃m,Fr X.base X.env.locals s.heap m:=
 let⟨m,hn,_⟩:=I.loc
 ⟨m,hn,I.bk,Nat.le_trans I.ok.bsz I.ok.above⟩
theorem Inv.lt(I:Inv X pins σ H s):X.env.locals<s.heap.objs.size:=let⟨_,hn,_⟩:=I.loc;hn.lt
theorem Inv.sz(I:Inv X pins σ H s):X.s₀.heap.objs.size<=s.heap.objs.size:=Nat.le_trans I.ok.above (Nat.le_of_lt I.lt)
theorem Inv.nofs(I:Inv X pins σ H s){a:Addr}(h:s.heap.objs.size<=a):a∉X.fs:=λhb=>by
 obtain⟨_,o,ho,_⟩:=I.ok.funs.mem hb;exact absurd (Nat.lt_of_lt_of_le (Heap.lt_size ho) (Nat.le_trans I.sz h)) (Nat.lt_irrefl _)
theorem Inv.cne(I:Inv X pins σ H s):∀x c,X.env.cells.lookup x=some c->c≠X.env.locals:=λx c e z=>by
 obtain⟨v,o,ho,hd⟩:=I.cell x c e;obtain⟨m,⟨o',es,ep,ho',hd',_⟩,_⟩:=I.loc;rw [z,ho']at ho;cases ho;rw [hd']at hd;cases hd
theorem Inv.funs(I:Inv X pins σ H s):s.heap.FunFrames X.base X.outer:=by
 have all:∀(l:List Env),(∀b∈frs l,b∈X.fs)->X.s₀.heap.FunFrames X.base l->s.heap.FunFrames X.base l:=by
  intro l
  induction l with
  |nil=>intro _ _;trivial
  |cons env r ih=>
   intro hs hl;obtain⟨hk,⟨L,o,hf,hn,ho,hd⟩,hr⟩:=hl;have hL:L∈X.fs:=hs L (by unfold frs;rw [List.filterMap_cons,hf];exact List.mem_cons_self);obtain⟨sl,e⟩:=I.base.slot L o ho (I.ok.frf L hL) hL λz=>I.ok.exfs L z hL
   exact⟨hk,⟨L,_,hf,hn,e,hd⟩,ih (λb hb=>hs b (by unfold frs;rw [List.filterMap_cons,hf];exact List.mem_cons_of_mem _ hb)) hr⟩
 exact all X.outer (λ_ hb=>hb) I.ok.funs
theorem Inv.stack(I:Inv X pins σ H s):s.heap.FunFrames X.base X.stack:=by
 rcases I.ok.stk with e|⟨e,hf⟩
 · rw [e];exact I.funs
 · rw [e]
   obtain⟨m,hn,_⟩:=I.loc;refine .cons (by rw [I.ok.kind];decide) hf hn ?_ I.funs;exact Heap.get?_none_of_le (Nat.le_trans I.ok.bsz I.ok.above)
theorem Inv.stkSub(I:Inv X pins σ H s):∀b∈frs X.stack,b∈X.env.locals::X.fs:=λb hb=>by
 rcases I.ok.stk with e|⟨e,hf⟩
 · rw [e]at hb;exact List.mem_cons_of_mem _ hb
 · rw [e]at hb
   unfold frs at hb;rw [List.filterMap_cons,hf]at hb;exact hb
theorem Inv.stkFree(I:Inv X pins σ H s):∀b∈frs X.stack,H b=none:=λb hb=>by
 rcases List.mem_cons.mp (I.stkSub b hb)with e|hb
 · rw [e];exact I.free
 · obtain⟨_,o,ho,_⟩:=I.ok.funs.mem hb
   exact I.base.free b o ho (I.ok.frf b hb) λz=>I.ok.exfs b z hb
theorem Inv.step {g':Array GenState} {t':Nat} {d':Drawn} {ch:List Addr} (I:Inv X pins σ H s)
 (hch:∀b∈ch,(b∈X.ex\/X.s₀.heap.objs.size<=b)/\b≠X.env.locals/\(∀x c,X.env.cells.lookup x=some c->c≠b)/\∀p∈X.pn++pins,p.1≠b)
 (keep:∀b o,b≠X.env.locals->b∉X.fs->b∉ch->s.heap.get? b=some o->H b=none->h'.get? b=some o)
 (slot:∀b o,b≠X.env.locals->b∈X.fs->b∉ch->s.heap.get? b=some o->H b=none->∃sl,h'.get? b=some { o with slots:=sl }) (free:∀b o,b∉ch->s.heap.get? b=some o->H b=none->H' b=none)
 (there:∀b o,b∉ch->s.heap.get? b=some o->∃o',h'.get? b=some o')
 (tups:∀b xs,H b=some (.tup xs)->H' b=some (.tup xs)) (frzs:∀b o u,H b=some (.frz o u)->H' b=some (.frz o u)) (tbls:∀b ps,H b=some (.tbl ps)->∃more,H' b=some (.tbl (ps++more)))
 (ns:∀m,s.heap.Ns X.env.locals m->h'.Ns X.env.locals m) (hok:HOk X.prog X.w H' h') (hg:AllBare g') :
 Inv X pins σ H' { s with heap:=h',gens:=g',drawn:=d',toks:=t' }:=by
 have neL:∀b o,X.s₀.heap.get? b=some o->b≠X.env.locals:=λb o e=>Nat.ne_of_lt (Nat.lt_of_lt_of_le (Heap.lt_size e) I.ok.above)
 have neC:∀b o,X.s₀.heap.get? b=some o->b∉X.ex->b∉ch:=λb o e hx hb=>by
  rcases(hch b hb).1 with z|z
  · exact hx z
  · exact absurd (Nat.lt_of_lt_of_le (Heap.lt_size e) z) (Nat.lt_irrefl _)
 have cellK:∀x c,X.env.cells.lookup x=some c->∀v,s.heap.IsCell c v->h'.IsCell c v:=λx c e v ⟨o,ho,hd⟩=>by
  have nch:c∉ch:=λz=>(hch c z).2.2.1 x c e rfl
  by_cases hc:c∈X.fs
  · obtain⟨sl,q⟩:=slot c o (I.cne x c e) hc nch ho (I.freeC x c e)
    exact⟨_,q,hd⟩
  · exact⟨o,keep c o (I.cne x c e) hc nch ho (I.freeC x c e),hd⟩
 refine⟨I.ok,I.os,hg,⟨λb o e n hb hx => ?_,λb o e n hb hx => ?_,λb o e n hx => ?_,λb o e hx => ?_,λb xs e=>tups b xs (I.base.tups b xs e),λb o xs e=>frzs b o xs (I.base.frzs b o xs e),λb ps e => ?_⟩,?_,λx c e => ?_,?_,λx c e => ?_,λp hp => ?_,hok,I.len⟩
 · exact keep b o (neL b o e) hb (neC b o e hx) (I.base.keep b o e n hb hx) (I.base.free b o e n hx)
 · obtain⟨sl,e1⟩:=I.base.slot b o e n hb hx
   obtain⟨sl',e2⟩:=slot b _ (neL b o e) hb (neC b o e hx) e1 (I.base.free b o e n hx);exact⟨sl',e2⟩
 · obtain⟨o',e1⟩:=I.base.there b o e hx
   exact free b o' (neC b o e hx) e1 (I.base.free b o e n hx)
 · obtain⟨o',e1⟩:=I.base.there b o e hx
   exact there b o' (neC b o e hx) e1
 · obtain⟨m1,e1⟩:=I.base.tbls b ps e
   obtain⟨m2,e2⟩:=tbls b _ e1;exact⟨m1++m2,by rw [e2,Array.append_assoc]⟩
 · obtain⟨m,hn,hl⟩:=I.loc
   refine⟨m,ns m hn,λi x v e1 e2 e3 => ?_⟩;obtain⟨u,r,l⟩:=hl i x v e1 e2 e3;refine⟨u,r,?_⟩;rcases l with l|⟨k,c,e,z⟩
   · exact .inl l
   · exact .inr ⟨k,c,e,cellK x c e _ z⟩
 · obtain⟨v,z⟩:=I.cell x c e
   exact⟨v,cellK x c e v z⟩
 · obtain⟨m,⟨o,_,_,ho,_⟩,_⟩:=I.loc
   exact free _ o (λz=>(hch _ z).2.1 rfl) ho I.free
 · obtain⟨v,o,ho,hd⟩:=I.cell x c e
   exact free c o (λz=>(hch c z).2.2.1 x c e rfl) ho (I.freeC x c e)
 · obtain⟨e,n,ne,nf,d⟩:=I.pin p hp
   have nch:p.1∉ch:=λz=>(hch p.1 z).2.2.2 p hp rfl
   exact⟨keep p.1 p.2 ne nf nch e n,free p.1 p.2 nch e n,ne,nf,d⟩
theorem Inv.un{t':Nat}(I:Inv X pins σ H s)(u:Un X.fs [] H H' s.heap h')(hok:HOk X.prog X.w H' h'):Inv X pins σ H' { s with heap:=h',toks:=t' }:=by
 obtain⟨m,⟨o,es,ep,ho,r⟩,_⟩:=id I.loc;obtain⟨sl,hL⟩:=u.any ho I.free (by simp)
 exact I.step (g':=s.gens) (d':=s.drawn) (ch:=[]) (λ_ z=>nomatch z) (λb o _ hb _ e n=>u.keep b o e n hb (by simp)) (λb o _ hb _ e n=>u.slot b o e n hb (by simp)) (λb o _ e n=>u.free b o e n (by simp)) (λb o _ e=>u.there b o e (by simp)) u.tups u.frzs u.tbls (λm' hm=>by
  obtain⟨o',es',ep',ho',r'⟩:=hm;rw [ho]at ho';cases ho';exact⟨_,es',ep',hL,r'⟩) hok I.bare
theorem Inv.call {g':Array GenState} {t':Nat} {d':Drawn} {ch:List Addr} (I:Inv X pins σ H s) (u:Un (frs X.stack) ch H H' s.heap h') (hok:HOk X.prog X.w H' h') (hg:AllBare g')
 (hch:∀b∈ch,(b∈X.ex\/X.s₀.heap.objs.size<=b)/\b≠X.env.locals/\(∀x c,X.env.cells.lookup x=some c->c≠b)/\∀p∈X.pn++pins,p.1≠b) :
 Inv X pins σ H' { s with heap:=h',gens:=g',drawn:=d',toks:=t' }:=by
 obtain⟨m,⟨o,es,ep,ho,r⟩,_⟩:=id I.loc;obtain⟨sl,hL⟩:=u.any ho I.free λz=>(hch _ z).2.1 rfl
 exact I.step (ch:=ch) hch (λb o hL hb hc e n=>u.keep b o e n (λz=>(List.mem_cons.mp (I.stkSub b z)).elim hL hb) hc) (λb o _ _ hc e n=>u.any e n hc) (λb o hc e n=>u.free b o e n hc) (λb o hc e=>u.there b o e hc) u.tups u.frzs u.tbls (λm' hm=>by
  obtain⟨o',es',ep',ho',r'⟩:=hm;rw [ho]at ho';cases ho';exact⟨_,es',ep',hL,r'⟩) hok hg
theorem Inv.turned {t':Nat} {it:Addr} (I:Inv X pins σ H s) (k:∀b o,b≠it->s.heap.get? b=some o->h'.get? b=some o) (hn:H it=none) (hL:it≠X.env.locals)
 (h1:it∈X.ex\/X.s₀.heap.objs.size<=it) (h2:∀x c,X.env.cells.lookup x=some c->c≠it) (h3:∀p∈X.pn++pins,p.1≠it):Inv X pins σ H { s with heap:=h',toks:=t' }:=by
 have nit:∀b u,H b=some u->b≠it:=λb u e z=>by rw [z,hn]at e;cases e
 refine I.step (g':=s.gens) (d':=s.drawn) (ch:=[it]) (λb hb => ?_) (λb o _ _ hc e _=>k b o (λz=>hc (by simp [z])) e) (λb o _ _ hc e _=>⟨o.slots,k b o (λz=>hc (by simp [z])) e⟩) (λ_ _ _ _ n=>n)
  (λb o hc e=>⟨o,k b o (λz=>hc (by simp [z])) e⟩) (λ_ _ e=>e) (λ_ _ _ e=>e) (λb ps e=>⟨#[],by rw [e];simp⟩) (λm hm => ?_) (λb u e => ?_) I.bare
 · have e:b=it:=by simpa using hb
   subst e;exact⟨h1,hL,h2,h3⟩
 · obtain⟨o,es,ep,ho,r⟩:=hm
   exact⟨o,es,ep,k _ o (Ne.symm hL) ho,r⟩
 · refine(I.hok b u e).stay (λc v hc q=>k c v ?_ q) (λ_ q=>q) λ_ _ q=>q
   rcases hc with z|z
   · rw [z];exact nit b u e
   · exact nit c _ z
theorem Inv.tok(I:Inv X pins σ H s)(t:Nat):Inv X pins σ H { s with toks:=t }:=I.un (h':=s.heap) (t':=t) Un.refl I.hok
theorem Inv.kept{t':Nat}(I:Inv X pins σ H s)(k:∀b u,s.heap.get? b=some u->h'.get? b=some u):Inv X pins σ H { s with heap:=h',toks:=t' }:=I.un (Un.kept k) (I.hok.kept k)
theorem Inv.laid{a:Addr}{o:HO}{t':Nat}(I:Inv X pins σ H s)(k:∀b u,s.heap.get? b=some u->h'.get? b=some u)(hp:s.heap.objs.size<=a)(new:ObjOk X.prog X.w (upd H a o) h' a o) :
 Inv X pins σ (upd H a o) { s with heap:=h',toks:=t' }:=I.un (Un.laid k hp (I.hok.fresh hp)) (I.hok.laid k hp new)
theorem Inv.write {x e:Addr} {o:HO} {t':Nat} (I:Inv X pins σ H s) (mu:Mut (H x)) (he:e=x\/H e=some (.own x)) (k:∀b u,b≠e->s.heap.get? b=some u->h'.get? b=some u) (heo:∃u,h'.get? e=some u)
 (new:ObjOk X.prog X.w (upd H x o) h' x o):Inv X pins σ (upd H x o) { s with heap:=h',toks:=t' }:=I.un (Un.write mu he k heo) (I.hok.write mu he k heo new)
theorem Inv.pins_of{pins':List (Addr×Obj)}(I:Inv X pins σ H s)(h:∀p∈pins',s.heap.get? p.1=some p.2/\H p.1=none/\p.1≠X.env.locals/\p.1∉X.fs/\∀v,p.2.data ≠ .cell v):Inv X pins' σ H s:=
 ⟨I.ok,I.os,I.bare,I.base,I.loc,I.cell,I.free,I.freeC,λp hp=>(List.mem_append.mp hp).elim (λz=>I.pin p (List.mem_append_left _ z)) (h p),I.hok,I.len⟩
theorem Zb1{N:List Str}(hN:N.Nodup){i j:Nat}{x:Str}(a:N[i]? = some x)(b:N[j]? = some x):i=j:=by
 obtain⟨h1,e1⟩:=List.getElem?_eq_some_iff.mp a;obtain⟨h2,e2⟩:=List.getElem?_eq_some_iff.mp b;exact(List.getElem_inj hN).mp (e1.trans e2.symm)
theorem Za4 {M:Model} {A:Around} {E:Value->Shared->Prop} {i:Nat} {x:Str} {v:V} {u:Value} {Q:Unit->Shared->Prop} (I:Inv X pins σ H s) (hN:X.N.Nodup) (hi:X.N[i]? = some x) (hx:Loc X.env.scope x) (r:RelV v u)
 (h:∀s',Inv X pins (σ.set i (some v)) H s'->(∃a,Heap.SameBut a s.heap s'.heap/\(a=X.env.locals\/X.env.cells.lookup x=some a))->Q () s') (hf:X.fn x=true\/X.env.scope.names.lookup x=some .local:=by first|exact .inl rfl|exact .inr rfl|assumption):wpAny M A (storeName X.env x u) Q E s:=by
 obtain⟨m,hn,hl⟩:=id I.loc;have hcls:(X.env.scope.kind == .class||(X.env.scope.kind == .module&&X.env.locals != X.env.globals))=false:=by rw [I.ok.kind];rfl
 have hiσ:i<σ.length:=by rw [I.len];exact(List.getElem?_eq_some_iff.mp hi).1
 have cne:=I.cne
 have tracked:∀{a:Addr}{h':Heap},(∃o,s.heap.get? a=some o/\H a=none)->Heap.SameBut a s.heap h'->HOk X.prog X.w H h':=λ{a h'} ha hs b ob e=>by
  obtain⟨_,_,hfree⟩:=ha;refine(I.hok b ob e).stay (λc w' hc q=>(hs.2 c ?_).trans q) (λ_ q=>q) λ_ _ q=>q
  rintro rfl
  rcases hc with rfl|hc
  · rw [hfree]at e;cases e
  · rw [hfree]at hc;cases hc
 rcases hx with hk|hk
 · refine wpAny_storeName_local hk hn (λh' hn' hs => ?_) hcls
   obtain⟨oL,_,_,hoL,_⟩:=id hn;refine h _ ⟨I.ok,I.os,I.bare,⟨λb o e n hb hx => ?_,λb o e n hb hx => ?_,I.base.free,λb o e hx => ?_,I.base.tups,I.base.frzs,I.base.tbls⟩,⟨_,hn',λj y v' e1 e2 e3 => ?_⟩,λy c e => ?_,I.free,I.freeC,λp hp => ?_,tracked ⟨oL,hoL,I.free⟩ hs,by simpa using I.len⟩ ⟨_,hs,.inl rfl⟩
   · exact(hs.2 b (Nat.ne_of_lt (Nat.lt_of_lt_of_le (Heap.lt_size e) I.ok.above))).trans (I.base.keep b o e n hb hx)
   · obtain⟨sl,e1⟩:=I.base.slot b o e n hb hx
     exact⟨sl,(hs.2 b (Nat.ne_of_lt (Nat.lt_of_lt_of_le (Heap.lt_size e) I.ok.above))).trans e1⟩
   · obtain⟨o',e1⟩:=I.base.there b o e hx
     exact⟨o',(hs.2 b (Nat.ne_of_lt (Nat.lt_of_lt_of_le (Heap.lt_size e) I.ok.above))).trans e1⟩
   · by_cases hj:j=i
     · subst hj
       rw [hi]at e1;cases e1;rw [List.getElem?_set_self hiσ]at e2;cases e2;exact⟨u,r,.inl ⟨hk,by simp⟩⟩
     · rw [List.getElem?_set_ne (Ne.symm hj)]at e2
       obtain⟨u',r',q⟩:=hl j y v' e1 e2 e3;refine⟨u',r',?_⟩;rcases q with⟨k,e⟩|⟨k,c,e,z⟩
       · refine .inl ⟨k,?_⟩
         have:y≠x:=λe=>hj (Zb1 hN e1 (e▸hi))
         simp [this,e]
       · exact .inr ⟨k,c,e,z.sameBut hs (cne y c e)⟩
   · obtain⟨w',z⟩:=I.cell y c e
     exact⟨w',z.sameBut hs (cne y c e)⟩
   · obtain⟨e,n,ne,nf,d⟩:=I.pin p hp
     exact⟨(hs.2 p.1 ne).trans e,n,ne,nf,d⟩
 · have hfn : X.fn x = true := by
    rcases hf with z|z
    · exact z
    · rw [z]at hk;cases hk
   obtain⟨c,hc⟩:=I.ok.has x (.inl hk);obtain⟨w',z⟩:=I.cell x c hc;refine wpAny_storeName_cell I.ok.kind hk hc z (λh' hc' hs => ?_);obtain⟨oc,hoc,hocd⟩:=id z;refine h { s with heap:=h' } ⟨I.ok,I.os,I.bare,⟨λb o e n hb hx => ?_,λb o e n hb hx => ?_,I.base.free,λb o e hx => ?_,I.base.tups,I.base.frzs,I.base.tbls⟩,⟨m,hn.sameBut hs (Ne.symm (cne x c hc)),λj y v' e1 e2 e3 => ?_⟩,λy c' e => ?_,I.free,I.freeC,λp hp => ?_,tracked ⟨oc,hoc,I.freeC x c hc⟩ hs,by simpa using I.len⟩ ⟨c,hs,.inr hc⟩
   · exact(hs.2 b (Nat.ne_of_lt (Nat.lt_of_lt_of_le (Heap.lt_size e) (I.ok.cab x c hfn hc)))).trans (I.base.keep b o e n hb hx)
   · obtain⟨sl,e1⟩:=I.base.slot b o e n hb hx
     exact⟨sl,(hs.2 b (Nat.ne_of_lt (Nat.lt_of_lt_of_le (Heap.lt_size e) (I.ok.cab x c hfn hc)))).trans e1⟩
   · obtain⟨o',e1⟩:=I.base.there b o e hx
     exact⟨o',(hs.2 b (Nat.ne_of_lt (Nat.lt_of_lt_of_le (Heap.lt_size e) (I.ok.cab x c hfn hc)))).trans e1⟩
   · by_cases hj:j=i
     · subst hj
       rw [hi]at e1;cases e1;rw [List.getElem?_set_self hiσ]at e2;cases e2;exact⟨u,r,.inr ⟨.inl hk,c,hc,hc'⟩⟩
     · rw [List.getElem?_set_ne (Ne.symm hj)]at e2
       obtain⟨u',r',q⟩:=hl j y v' e1 e2 e3;refine⟨u',r',?_⟩;rcases q with q|⟨k,c',e,z'⟩
       · exact .inl q
       · refine .inr ⟨k,c',e,z'.sameBut hs ?_⟩
         rintro rfl
         exact hj (Zb1 hN e1 (I.ok.inj _ _ _ e hc▸hi))
   · by_cases hcc:c'=c
     · subst hcc;exact⟨_,hc'⟩
     · obtain⟨w2,z2⟩:=I.cell y c' e
       exact⟨w2,z2.sameBut hs hcc⟩
   · obtain⟨e,n,ne,nf,d⟩:=I.pin p hp
     refine⟨(hs.2 p.1 ?_).trans e,n,ne,nf,d⟩;intro q;rw [q,hoc]at e;have q':oc=p.2:=Option.some.inj e;exact d w' (by rw [<-q'];exact hocd)
theorem Zb2 {M:Model} {A:Around} {E:Value->Shared->Prop} {i:Nat} {x:Str} {v:V} {u:Value} {Q:Unit->Shared->Prop} (I:Inv X pins σ H s) (hN:X.N.Nodup) (hi:X.N[i]? = some x) (hx:Loc X.env.scope x) (r:RelV v u)
 (h:∀s',Inv X pins (σ.set i (some v)) H s'->Q () s') (hf:X.fn x=true\/X.env.scope.names.lookup x=some .local:=by first|exact .inl rfl|exact .inr rfl|assumption):wpAny M A (storeName X.env x u) Q E s:=
 Za4 I hN hi hx r (λs' I' _=>h s' I') hf
theorem Inv.call' {s':Shared} {ch:List Addr} (I:Inv X pins σ H s) (ho:s'.os=s.os) (u:Un (frs X.stack) ch H H' s.heap s'.heap) (hok:HOk X.prog X.w H' s'.heap) (hg:AllBare s'.gens)
 (hch:∀b∈ch,(b∈X.ex\/X.s₀.heap.objs.size<=b)/\b≠X.env.locals/\(∀x c,X.env.cells.lookup x=some c->c≠b)/\∀p∈X.pn++pins,p.1≠b):Inv X pins σ H' s':=by
 obtain⟨h',g',d',t',o'⟩:=s';have e:o'=s.os:=ho;subst e;exact I.call (g':=g') (t':=t') (d':=d') u hok hg hch
end
abbrev XK:=Value->Option Addr->Hp->Prop
abbrev St:=List (Option V)
abbrev VK:=V->Hp->Prop
abbrev TE:=St->Hp->VK->Prop
abbrev TT:=St->Hp->(Bool->Hp->Prop)->Prop
abbrev TA:=St->Hp->(List V->Hp->Prop)->Prop
structure Ends where
 nx:St->Hp->Prop
 rt:VK
 bk:St->Hp->Prop:=λ_ _=>False
 ct:St->Hp->Prop:=λ_ _=>False
abbrev TS:=Ends->St->Hp->Prop
def EP(X:Cx)(pins:List (Addr×Obj))(σ:St)(Q:VK)(u:Value)(s':Shared):Prop:=∃v H',Inv X pins σ H' s'/\RelV v u/\Q v H'
def TP(X:Cx)(pins:List (Addr×Obj))(σ:St)(Q:Bool->Hp->Prop)(b:Bool)(s':Shared):Prop:=∃H',Inv X pins σ H' s'/\Q b H'
def AP(X:Cx)(pins:List (Addr×Obj))(σ:St)(Q:List V->Hp->Prop)(us:List Value)(s':Shared):Prop:=∃vs H',Inv X pins σ H' s'/\Vals vs us/\Q vs H'
def SP(X:Cx)(pins:List (Addr×Obj))(D:Ends)(f:Flow)(s':Shared):Prop:=
 match f with
 | .next=>∃σ' H',Inv X pins σ' H' s'/\D.nx σ' H'
 | .brk=>∃σ' H',Inv X pins σ' H' s'/\D.bk σ' H'
 | .cont=>∃σ' H',Inv X pins σ' H' s'/\D.ct σ' H'
 | .ret u=>∃v σ' H',Inv X pins σ' H' s'/\RelV v u/\D.rt v H'
def PE(X:Cx)(e:Expr)(t:TE):Prop:=
 ∀(pins:List (Addr×Obj))(s:Shared)(σ:St)(H:Hp)(Q:VK),Inv X pins σ H s->t σ H Q->wpAny (model X.prog X.w) X.A (eval e X.env) (EP X pins σ Q) X.xe s
def PT(X:Cx)(e:Expr)(t:TT):Prop:=
 ∀(pins:List (Addr×Obj))(s:Shared)(σ:St)(H:Hp)(Q:Bool->Hp->Prop),Inv X pins σ H s->t σ H Q->wpAny (model X.prog X.w) X.A (isTrue e X.env (eval e X.env)) (TP X pins σ Q) X.xe s
def PW(X:Cx)(e:Expr)(t:TT):Prop:=
 ∀(whole:Sem Value)(pins:List (Addr×Obj))(s:Shared)(σ:St)(H:Hp)(Q:Bool->Hp->Prop),Inv X pins σ H s->t σ H Q->wpAny (model X.prog X.w) X.A (isTrue e X.env whole) (TP X pins σ Q) X.xe s
theorem PW.pt{X:Cx}{e:Expr}{t:TT}(h:PW X e t):PT X e t:=h _
def PA(X:Cx)(es:List Expr)(t:TA):Prop:=
 ∀(pos:Pos)(pins:List (Addr×Obj))(s:Shared)(σ:St)(H:Hp)(Q:List V->Hp->Prop),Inv X pins σ H s->t σ H Q->wpAny (model X.prog X.w) X.A (spliced (backTo pos (starEach es X.env))) (AP X pins σ Q) X.xe s
def PS(X:Cx)(st:Stmt)(t:TS):Prop:=
 ∀(pins:List (Addr×Obj))(s:Shared)(σ:St)(H:Hp)(D:Ends),Inv X pins σ H s->t D σ H->wpAny (model X.prog X.w) X.A (exec st X.env) (SP X pins D) X.xe s
def PSs(X:Cx)(st:List Stmt)(t:TS):Prop:=
 ∀(pins:List (Addr×Obj))(s:Shared)(σ:St)(H:Hp)(D:Ends),Inv X pins σ H s->t D σ H->wpAny (model X.prog X.w) X.A (execs st X.env) (SP X pins D) X.xe s
theorem thn{α:Type}{t:Sem α}{Q Q':α->Shared->Prop}{M:Model}{A:Around}{E:Value->Shared->Prop}{s:Shared}(h:wpAny M A t Q E s)(hQ:∀a s,Q a s->Q' a s):wpAny M A t Q' E s:=wpAny_mono h hQ λ_ _ x=>x
end L2
namespace L2
open PySem PySem.Spec PyProof.Rows
section
variable{X:Cx}
def YM(i:Nat):TE:=λσ H Q=>∃v,σ[i]? = some (some v)/\Q v H
def tC(v:V):TE:=λ_ H Q=>Q v H
theorem Zg8 {i:Nat} {x:Str} {pos:Pos} (hN:X.N[i]? = some x) (hv:Vis X.env.scope x) (hd:(x == ("__debug__" : Str))=false:=by decide) (hcd:(x == ("__classdict__" : Str))=false:=by decide):PE X (.Name x pos) (YM i):=by
 intro pins s σ H Q I h;obtain⟨v,e,h⟩:=h;obtain⟨m,hn,hl⟩:=I.loc;obtain⟨u,r,l⟩:=hl i x v hN e hv;have fin:EP X pins σ Q u s:=⟨v,H,I,r,h⟩
 rcases l with⟨hk,hm⟩|⟨hk,c,hc,hcell⟩
 · exact wpAny_Name (wpAny_loadName_local I.ok.kind hk hn hm fin) hd
 · rcases hk with hk|hk
   · exact wpAny_Name (wpAny_loadName_cell I.ok.kind hk hc hcell fin) hd
   · exact wpAny_Name (wpAny_loadName_free I.ok.kind hk hc hcell fin hcd) hd
theorem Zn{i j pos}:PE X (.Constant (.int i) j pos) (tC (.int i)):=λ_ _ _ H _ I h=>wpAny_Constant_int ⟨.int i,H,I.tok _,⟨_,rfl⟩,h⟩
theorem Xj{b j pos}:PE X (.Constant (.bool b) j pos) (tC (.bl b)):=λ_ _ _ H _ I h=>Constant_bool ⟨.bl b,H,I,rfl,h⟩
theorem ZcV{j pos}:PE X (.Constant .none j pos) (tC .non):=λ_ _ _ H _ I h=>Constant_none ⟨.non,H,I,rfl,h⟩
theorem Zg9{x j pos}:PE X (.Constant (.str x) j pos) (tC (.str x)):=λ_ _ _ H _ I h=>Calls.Constant_str ⟨.str x,H,I.tok _,⟨_,rfl⟩,h⟩
def Gl(X:Cx)(x:Str):Prop:=X.env.kindOf x=some .globalImplicit
theorem ZfT {E:Value->Shared->Prop} {pins:List (Addr×Obj)} {s:Shared} {σ:St} {H:Hp} {x:Str} {u:Value} {pos:Pos} {Q:Value->Shared->Prop} (I:Inv X pins σ H s) (hg:Gl X x) (hm:X.mg x=some u) (h:Q u s)
 (hd:(x == ("__debug__" : Str))=false:=by decide):wpAny (model X.prog X.w) X.A (eval (.Name x pos) X.env) Q E s:=
 Calls.Name_function_global I.ok.kind hg (Calls.loadGlobal_global (by rw [I.ok.glob];exact I.mod.glob.keeps I.bk) hm h) hd
theorem XC {E:Value->Shared->Prop} {pins:List (Addr×Obj)} {s:Shared} {σ:St} {H:Hp} {x:Str} {u:Value} {pos:Pos} {Q:Value->Shared->Prop} (I:Inv X pins σ H s) (hg:Gl X x) (hm:X.mg x=none) (hv:bootBuiltins x=some u) (h:Q u s)
 (hn:x ≠ "__name__" := by decide) (hd:(x == ("__debug__" : Str))=false:=by decide):wpAny (model X.prog X.w) X.A (eval (.Name x pos) X.env) Q E s:=by
 obtain⟨mb,h1,h2⟩:=I.mod.blt;exact Calls.Name_function_global I.ok.kind hg (Calls.loadGlobal_builtin (by rw [I.ok.glob];exact I.mod.glob.keeps I.bk) hm (by rw [I.ok.blt];exact h1.keeps I.bk) ((h2 x hn).trans hv) h) hd
theorem UN {x:Str} {v:V} {u:Value} {pos:Pos} (hg:Gl X x) (hm:X.mg x=none) (hv:bootBuiltins x=some u) (r:RelV v u) (hn:x ≠ "__name__" := by decide) (hd:(x == ("__debug__" : Str))=false:=by decide):PE X (.Name x pos) (tC v):=
 λ_ _ _ H _ I h=>XC I hg hm hv ⟨v,H,I,r,h⟩ hn hd
variable{a b:Expr}{ta tb:TE}{pos:Pos}
def PC(X:Cx)(op:CmpOp)(a b:Expr)(t:TE):Prop:=
 ∀(pins:List (Addr×Obj))(s:Shared)(σ:St)(H:Hp)(Q:VK),Inv X pins σ H s->t σ H Q ->
  wpAny (model X.prog X.w) X.A (eval a X.env) (λv s₁=>wpAny (model X.prog X.w) X.A (eval b X.env) (λu s₂=>wpAny (model X.prog X.w) X.A (compareOp op v u) (EP X pins σ Q) X.xe s₂) X.xe s₁) X.xe s
theorem Zep(b:Expr){op:CmpOp}(h:op ≠ .In)(h2:op ≠ .NotIn):behindInMarks op b=false:=by
 have e1:(op == CmpOp.In)=false:=by cases op<;>first|rfl|exact absurd rfl h
 have e2:(op == CmpOp.NotIn)=false:=by cases op<;>first|rfl|exact absurd rfl h2
 cases b<;>simp [behindInMarks,e1,e2]
def Zj6(ta:TE):TE:=λσ H Q=>ta σ H λx H1=>Q (.bl (decide (x = .non))) H1
def ZgH(ta:TE):TE:=λσ H Q=>ta σ H λx H1=>Q (.bl (!decide (x = .non))) H1
theorem RelV.none_iff{x:V}{v:Value}(r:RelV x v):(v == Value.none)=decide (x = .non):=by
 cases x with
 |non=>cases r;rfl
 |bl _=>cases r;rfl
 |int _=>obtain⟨t,rfl⟩:=r;rfl
 |str _=>obtain⟨t,rfl⟩:=r;rfl
 |byt _=>obtain⟨t,rfl⟩:=r;rfl
 |flt _=>obtain⟨t,rfl⟩:=r;rfl
 |ref _=>cases r;rfl
 |ty _=>cases r;rfl
theorem Ze7{j pos'}(ha:PE X a ta):PC X .Is a (.Constant .none j pos') (Zj6 ta):=by
 intro pins s σ H Q I h;refine thn (ha pins s σ H _ I h) λv s1 ⟨x,H1,I1,r1,q1⟩ => ?_
 exact Constant_none (is_none_gen ⟨.bl _,H1,I1,by rw [r1.none_iff];rfl,q1⟩)
theorem ZfU{j pos'}(ha:PE X a ta):PC X .IsNot a (.Constant .none j pos') (ZgH ta):=by
 intro pins s σ H Q I h;refine thn (ha pins s σ H _ I h) λv s1 ⟨x,H1,I1,r1,q1⟩ => ?_
 exact Constant_none (isnot_none_gen ⟨.bl _,H1,I1,by rw [r1.none_iff];rfl,q1⟩)
def tB(t:TE):TT:=λσ H Q=>t σ H λx H1=>∃c,x = .bl c/\Q c H1
theorem ZcW{op:CmpOp}{t:TE}(h:PC X op a b t)(h1:behindInMarks op b=false:=by first|exact Zep _ (by decide) (by decide)|rfl):PT X (.Compare a [op] [b] pos) (tB t):=by
 intro pins s σ H Q I hw;refine wpAny_isTrue_Compare1 (thn (h pins s σ H _ I hw) λv s1 h1=>thn h1 λu s2 h2=>thn h2 λc s3 ⟨x,H1,I1,r1,q1⟩ => ?_) h1;obtain⟨d,rfl,q⟩:=q1;cases r1;exact wpAny_truthy_bool ⟨H1,I1,q⟩
theorem Vs{e:Expr}{t:TE}(h:PE X e t)(he:∀whole,isTrue e X.env whole=(do let v <-whole;standAt e.pos;holding [v] (truthy v)):=by intro _;rfl):PT X e (tB t):=by
 intro pins s σ H Q I hw;refine isTrue_plain (thn (h pins s σ H _ I hw) λv s1 ⟨x,H1,I1,r1,q1⟩ => ?_) (he _);obtain⟨d,rfl,q⟩:=q1;cases r1;exact wpAny_truthy_bool ⟨H1,I1,q⟩
variable{tA tB':TT}{rest:List Expr}
def tOr(t u:TT):TT:=λσ H Q=>t σ H λc H1=>if c=true then Q true H1 else u σ H1 Q
def Zj7(t:TT):TT:=λσ H Q=>t σ H λc H1=>Q (!c) H1
theorem UO(ha:PT X a tA):PW X (.BoolOp .Or [a] pos) tA:=by
 intro wh pins s σ H Q I h;refine isTrue_or (thn (ha pins s σ H Q I h) λc s1 e => ?_);cases c with
 |false=>exact isTrue_or_nil e
 |true=>exact e
theorem V4(ha:PT X a tA)(hb:PW X (.BoolOp .Or (b::rest) pos) tB'):PW X (.BoolOp .Or (a::b::rest) pos) (tOr tA tB'):=by
 intro wh pins s σ H Q I h;refine isTrue_or (thn (ha pins s σ H _ I h) λc s1 ⟨H1,I1,q1⟩ => ?_);cases c with
 |true=>exact⟨H1,I1,q1⟩
 |false=>exact hb wh pins s1 σ H1 Q I1 q1
theorem V5(ha:PT X a tA):PT X (.UnaryOp .Not a pos) (Zj7 tA):=by
 intro pins s σ H Q I h;exact isTrue_not (ha pins s σ H (λc H1=>Q (!c) H1) I h)
def ZgI(ta tb:TE):TE:=λσ H Q=>ta σ H λx H1=>∃c,x = .bl c/\if c=true then tb σ H1 Q else Q (.bl false) H1
def ZgJ(ta:TE):TE:=λσ H Q=>ta σ H λx H1=>∃c,x = .bl c/\Q (.bl (!c)) H1
theorem Jo{op}{t:TE}(h:PE X a t):PE X (.BoolOp op [a] pos) t:=λpins s σ H Q I hw=>BoolOp_one (h pins s σ H Q I hw)
theorem Qo(ha:PE X a ta)(hb:PE X (.BoolOp .And (b::rest) pos) tb):PE X (.BoolOp .And (a::b::rest) pos) (ZgI ta tb):=by
 intro pins s σ H Q I h;refine BoolOp_and (thn (ha pins s σ H _ I h) λv s1 ⟨x,H1,I1,r1,q1⟩ => ?_);obtain⟨c,rfl,q1⟩:=q1;cases r1;refine wpAny_truthy_bool ?_;cases c with
 |true=>exact hb pins s1 σ H1 Q I1 q1
 |false=>exact⟨.bl false,H1,I1,rfl,q1⟩
theorem Zha(ha:PE X a ta):PE X (.UnaryOp .Not a pos) (ZgJ ta):=by
 intro pins s σ H Q I h;refine UnaryOp_ (thn (ha pins s σ H _ I h) λv s1 ⟨x,H1,I1,r1,q1⟩ => ?_);obtain⟨c,rfl,q1⟩:=q1;cases r1;exact not_of (wpAny_truthy_bool ⟨.bl (!c),H1,I1,rfl,q1⟩)
def tIf(t:TT)(ta tb:TE):TE:=λσ H Q=>t σ H λc H1=>if c=true then ta σ H1 Q else tb σ H1 Q
theorem Zeq{c:Expr}(hc:PT X c tA)(ha:PE X a ta)(hb:PE X b tb):PE X (.IfExp c a b pos) (tIf tA ta tb):=by
 intro pins s σ H Q I h;refine wpAny_IfExp (thn (hc pins s σ H _ I h) λd s1 ⟨H1,I1,q1⟩ => ?_);cases d with
 |true=>exact ha pins s1 σ H1 Q I1 q1
 |false=>exact hb pins s1 σ H1 Q I1 q1
end
end L2
namespace L2
open PySem PySem.Spec PyProof.Rows
def SqL(K:PySem.W.Frag)(H:Hp)(a:Addr)(xs:List V):Prop:=
 Rd H a (.lst xs) \/
  ∃(o:Obj) (its:Array Value) (n:Nat),K.lookup a=some o/\o.cls = .type "list" /\ o.dict=none/\o.data = .seq its n/\its.size<=sizeLine/\Vals xs its.toList
def SqT(K:PySem.W.Frag)(H:Hp)(a:Addr)(xs:List V):Prop:=
 Rd H a (.tup xs) \/
  ∃(o:Obj) (its:Array Value) (n:Nat),K.lookup a=some o/\o.cls = .type "tuple" /\ o.data = .seq its n/\its.size<=sizeLine/\Vals xs its.toList
def Zkl:Value->Option V
 | .none=>some .non
 | .bool b=>some (.bl b)
 | .int i _=>some (.int i)
 | .str x _=>some (.str x)
 | .bytes b _=>some (.byt b)
 | .float b _=>some (.flt b)
 | .ref a=>some (.ref a)
 | .type n=>some (.ty n)
 |_=>none
theorem RelV.abs{x:V}{u:Value}(r:RelV x u):Zkl u=some x:=by
 cases x with
 |non=>cases r;rfl
 |bl _=>cases r;rfl
 |int _=>obtain⟨t,rfl⟩:=r;rfl
 |str _=>obtain⟨t,rfl⟩:=r;rfl
 |byt _=>obtain⟨t,rfl⟩:=r;rfl
 |flt _=>obtain⟨t,rfl⟩:=r;rfl
 |ref _=>cases r;rfl
 |ty _=>cases r;rfl
theorem RelV.inj{x y:V}{u:Value}(r:RelV x u)(q:RelV y u):x=y:=Option.some.inj (r.abs.symm.trans q.abs)
theorem Vals.inj:∀{xs ys:List V}{us:List Value},Vals xs us->Vals ys us->xs=ys
 |_,_,_,.nil,.nil=>rfl
 |_,_,_,.cons r t,.cons r' t'=>by rw [r.inj r',Vals.inj t t']
section
variable{X:Cx}{pins:List (Addr×Obj)}{σ:St}{H:Hp}{s:Shared}{a:Addr}{xs ys:List V}
theorem SqL.of{K:PySem.W.Frag}(h:H a=some (.lst xs)):SqL K H a xs := .inl (.inl h)
theorem SqT.of{K:PySem.W.Frag}(h:H a=some (.tup xs)):SqT K H a xs := .inl (.inl h)
theorem Inv.list(I:Inv X pins σ H s)(h:SqL X.K H a xs):∃its:List Value,Vals xs its/\PlainL s.heap a its.toArray/\xs.length<=sizeLine:=by
 rcases h with h|⟨o,its,n,hk,hc,hd,hs,hz,r⟩
 · obtain⟨z,its,n,r,e⟩:=h.ok I.hok
   exact⟨its,r,⟨_,n,e,rfl,rfl,rfl⟩,z⟩
 · refine⟨its.toList,r,⟨o,n,I.kIn a o hk,hc,hd,by simpa using hs⟩,?_⟩
   have e:=r.length;simp only [Array.length_toList]at e;omega
theorem Inv.tuple(I:Inv X pins σ H s)(h:SqT X.K H a xs):∃its:List Value,Vals xs its/\IsTup s.heap a its.toArray/\xs.length<=sizeLine:=by
 rcases h with h|⟨o,its,n,hk,hc,hs,hz,r⟩
 · obtain⟨z,its,r,p⟩:=h.ok I.hok
   exact⟨its,r,p.tup,z⟩
 · refine⟨its.toList,r,⟨o,I.kIn a o hk,hc,n,by simpa using hs⟩,?_⟩
   have e:=r.length;simp only [Array.length_toList]at e;omega
theorem Inv.list_inj(I:Inv X pins σ H s)(h:SqL X.K H a xs)(h':SqL X.K H a ys):xs=ys:=by
 obtain⟨its,r,⟨o,n,e,_,_,d⟩,_⟩:=I.list h;obtain⟨its',r',⟨o',n',e',_,_,d'⟩,_⟩:=I.list h';rw [e]at e';cases e';rw [d]at d';injection d' with d1 _
 have:its=its':=by simpa using congrArg Array.toList d1
 subst this;exact r.inj r'
theorem Inv.tuple_inj(I:Inv X pins σ H s)(h:SqT X.K H a xs)(h':SqT X.K H a ys):xs=ys:=by
 obtain⟨its,r,⟨o,e,_,n,d⟩,_⟩:=I.tuple h;obtain⟨its',r',⟨o',e',_,n',d'⟩,_⟩:=I.tuple h';rw [e]at e';cases e';rw [d]at d';injection d' with d1 _
 have:its=its':=by simpa using congrArg Array.toList d1
 subst this;exact r.inj r'
end
abbrev Cx.wish(X:Cx)(E:Value->Shared->Prop):Cx:={ X with xe:=E }
abbrev Cx.nox(X:Cx):Cx:=X.wish λ_ _=>False
theorem Cx.Ok.wish{X:Cx}(ok:X.Ok)(E:Value->Shared->Prop):(X.wish E).Ok:=
 ⟨ok.mod,ok.kind,ok.glob,ok.blt,ok.above,ok.inj,ok.has,ok.cab,ok.hd,ok.frames,ok.stk,ok.exf,ok.bs,ok.bsz,ok.noex,ok.exfs,ok.funs,ok.frf⟩
theorem Cx.Ok.unwish{X:Cx}{E:Value->Shared->Prop}(ok:(X.wish E).Ok):X.Ok:=
 ⟨ok.mod,ok.kind,ok.glob,ok.blt,ok.above,ok.inj,ok.has,ok.cab,ok.hd,ok.frames,ok.stk,ok.exf,ok.bs,ok.bsz,ok.noex,ok.exfs,ok.funs,ok.frf⟩
section
variable{X:Cx}{pins:List (Addr×Obj)}{σ:St}{H:Hp}{s:Shared}{E:Value->Shared->Prop}
theorem Inv.wish(I:Inv X pins σ H s)(E:Value->Shared->Prop):Inv (X.wish E) pins σ H s:=⟨I.ok.wish E,I.os,I.bare,I.base,I.loc,I.cell,I.free,I.freeC,I.pin,I.hok,I.len⟩
theorem Inv.unwish(I:Inv (X.wish E) pins σ H s):Inv X pins σ H s:=⟨I.ok.unwish,I.os,I.bare,I.base,I.loc,I.cell,I.free,I.freeC,I.pin,I.hok,I.len⟩
theorem SP.unwish{D:Ends}{f:Flow}{s':Shared}(h:SP (X.wish E) pins D f s'):SP X pins D f s':=by
 cases f with
 |next=>obtain⟨σ',H',I,q⟩:=h;exact⟨σ',H',I.unwish,q⟩
 |brk=>obtain⟨σ',H',I,q⟩:=h;exact⟨σ',H',I.unwish,q⟩
 |cont=>obtain⟨σ',H',I,q⟩:=h;exact⟨σ',H',I.unwish,q⟩
 |ret u=>obtain⟨v,σ',H',I,r,q⟩:=h;exact⟨v,σ',H',I.unwish,r,q⟩
theorem PSs.nox{st:List Stmt}{t:TS}(h:PSs X.nox st t):PSs X st t:=λpins s σ H D I hw=>
 wpAny_mono (h pins s σ H D (I.wish _) hw) (λ_ _ q=>q.unwish) λ_ _ z=>False.elim z
end
section
variable{X:Cx}{st:Stmt}{rest:List Stmt}{t u:TS}{e:Expr}{te:TE}{pos:Pos}
def tNext:TS:=λD σ H=>D.nx σ H
def Yn(t u:TS):TS:=λD σ H=>t { D with nx:=u D } σ H
theorem Yo:PSs X [] tNext:=λ_ _ σ H _ I h=>wpAny_execs_nil ⟨σ,H,I,h⟩
theorem Zp(h1:PS X st t)(h2:PSs X rest u):PSs X (st::rest) (Yn t u):=by
 intro pins s σ H D I h;refine wpAny_execs_cons (thn (h1 pins s σ H { D with nx:=u D } I h) λf s1 q => ?_);cases f with
 |next=>
  obtain⟨σ',H',I',q⟩:=q;exact h2 pins s1 σ' H' D I' q
 |ret v=>exact q
 |brk=>exact q
 |cont=>exact q
theorem Zt(h1:PS X st t):PSs X [st] t:=by
 intro pins s σ H D I h;refine wpAny_execs_cons (thn (h1 pins s σ H D I h) λf s1 q => ?_);cases f with
 |next=>exact wpAny_execs_nil q
 |ret v=>exact q
 |brk=>exact q
 |cont=>exact q
theorem Inv.quiet{pins:List (Addr×Obj)}{σ:St}{H:Hp}{s:Shared}(I:Inv X pins σ H s):interactive X.env=false:=by simp [interactive,I.ok.kind]
def Jp(te:TE):TS:=λD σ H=>te σ H λ_ H1=>D.nx σ H1
theorem XD(he:PE X e te)(hs:swapsWith e none pos.line X.env=pure false:=by rfl):PS X (.Expr e pos) (Jp te):=by
 intro pins s σ H D I h;exact wpAny_Expr_any (thn (he pins s σ H _ I h) λv s1 ⟨x,H1,I1,r1,q1⟩=>⟨σ,H1,I1,q1⟩) I.quiet hs
def X5(te:TE):TS:=λD σ H=>te σ H D.rt
theorem ZF(he:PE X e te):PS X (.Return (some e) pos) (X5 te):=by
 intro pins s σ H D I h;exact wpAny_Return_some (thn (he pins s σ H _ I h) λv s1 ⟨x,H1,I1,r1,q1⟩=>⟨x,σ,H1,I1,r1,q1⟩)
def V7(c:TT)(t u:TS):TS:=λD σ H=>c σ H λb H1=>if b=true then t D σ H1 else u D σ H1
theorem Yb{c:Expr}{a b:List Stmt}{tc:TT}(hc:PT X c tc)(ha:PSs X a t)(hb:PSs X b u):PS X (.If c a b pos) (V7 tc t u):=by
 intro pins s σ H D I h;refine wpAny_If (thn (hc pins s σ H _ I h) λd s1 ⟨H1,I1,q1⟩ => ?_);cases d with
 |true=>exact ha pins s1 σ H1 D I1 q1
 |false=>exact hb pins s1 σ H1 D I1 q1
end
abbrev TG:=V->St->Hp->(St->Hp->Prop)->Prop
abbrev TGs:=List V->St->Hp->(St->Hp->Prop)->Prop
def PG(X:Cx)(target:Expr)(t:TG):Prop:=
 ∀(pins:List (Addr×Obj))(s:Shared)(σ:St)(H:Hp)(v:V)(u:Value)(Q:St->Hp->Prop),Inv X pins σ H s->RelV v u->t v σ H Q ->
  wpAny (model X.prog X.w) X.A (assign target X.env u) (λ_ s'=>∃σ' H',Inv X pins σ' H' s'/\Q σ' H') X.xe s
def PGs(X:Cx)(ts:List Expr)(t:TGs):Prop:=
 ∀(pins:List (Addr×Obj))(s:Shared)(σ:St)(H:Hp)(vs:List V)(us:List Value)(Q:St->Hp->Prop),Inv X pins σ H s->Vals vs us->t vs σ H Q ->
  wpAny (model X.prog X.w) X.A (assignInOrder ((assignEach ts X.env).map (·.2)) us) (λ_ s'=>∃σ' H',Inv X pins σ' H' s'/\Q σ' H') X.xe s
abbrev TSet:=V->V->V->Hp->(Hp->Prop)->Prop
def Zj8(X:Cx)(t:TSet):Prop:=
 ∀(pins:List (Addr×Obj))(s:Shared)(σ:St)(H:Hp)(o i v:V)(ov iv u:Value)(Q:Hp->Prop),Inv X pins σ H s->RelV o ov->RelV i iv->RelV v u->t o i v H Q ->
  wpAny (model X.prog X.w) X.A (setItem ov iv u) (λ_ s'=>∃H',Inv X pins σ H' s'/\Q H') X.xe s
section
variable{X:Cx}{pos:Pos}
def YN(i:Nat):TG:=λv σ H Q=>Q (σ.set i (some v)) H
theorem ZR{i:Nat}{x:Str}(hN:X.N.Nodup)(hi:X.N[i]? = some x:=by rfl)(hx:Loc X.env.scope x:=by first|exact Or.inl rfl|exact Or.inr rfl)(hf:X.fn x=true\/X.env.scope.names.lookup x=some .local:=by first|exact .inl rfl|exact .inr rfl|assumption):PG X (.Name x pos) (YN i):=by
 intro pins s σ H v u Q I r h;exact wpAny_assign_Name (Zb2 I hN hi hx r (λs' I'=>⟨_,H,I',h⟩) hf)
def gNil:TGs:=λvs σ H Q=>vs=[]/\Q σ H
def ZgK(t:TG)(u:TGs):TGs:=λvs σ H Q=>∃v r,vs=v::r/\t v σ H λσ' H'=>u r σ' H' Q
theorem Qp:PGs X [] gNil:=by
 intro pins s σ H vs us Q I r h;obtain⟨e,h⟩:=h;subst e;cases r;exact assignInOrder_nil ⟨σ,H,I,h⟩
theorem X6 {e:Expr} {es:List Expr} {t:TG} {u:TGs} (h1:PG X e t) (h2:PGs X es u)
 (hs:(assignEach (e::es) X.env).map (·.2)=assign e X.env::(assignEach es X.env).map (·.2):=by rfl):PGs X (e::es) (ZgK t u):=by
 intro pins s σ H vs us Q I r h;obtain⟨v,vr,e1,h⟩:=h;subst e1;cases r with
 |cons r rr=>
  rw [hs];refine assignInOrder_cons (thn (h1 pins s σ H _ _ _ I r h) λ_ s1 ⟨σ1,H1,I1,q1⟩ => ?_);exact h2 pins s1 σ1 H1 _ _ Q I1 rr q1
def Zh5(K:PySem.W.Frag)(n:Nat)(t:TGs):TG:=λv σ H Q=>∃a xs,v = .ref a/\SqT K H a xs/\xs.length=n/\t xs σ H Q
theorem Zhb {es:List Expr} {k:Nat} {t:TGs} {n:Nat} (hc:X.calm=true) (h:PGs X es t)
 (hn:(assignEach es X.env).length=n:=by rfl) (hst:(assignEach es X.env).findIdx? (·.1)=none:=by rfl):PG X (.Tuple es k pos) (Zh5 X.K n t):=by
 intro pins s σ H v u Q I r hw;obtain⟨a,xs,e1,hq,hl,hw⟩:=hw;subst e1;cases r;obtain⟨its,rv,ht,hz⟩:=I.tuple hq;refine assign_Tuple_tuple (I.ok.hd hc) ht (by simp [hn,<-hl,rv.length]) hst λh' hx => ?_
 have I1:Inv X pins σ H { s with heap:=h' }:=I.kept (t':=s.toks) λb o e=>hx b o (Nat.ne_of_lt (Heap.lt_size e)) e
 exact h pins _ σ H xs _ Q I1 (by simpa using rv) hw
def Zh6(to ti:TE)(t:TSet):TG:=λv σ H Q=>to σ H λo H1=>ti σ H1 λi H2=>t o i v H2 λH3=>Q σ H3
theorem Qq {o i:Expr} {to ti:TE} {t:TSet} (ho:PE X o to) (hi:PE X i ti) (hs:Zj8 X t)
 (ha:∀v,assign (.Subscript o i pos) X.env v=(do
   let ov <-holding [v] (eval o X.env)
   let iv <-holding [v,ov] (eval i X.env)
   standAt pos
   holding [v,ov,iv] (setItem ov iv v)
   release [v,ov,iv] []):=by intro _;rfl):PG X (.Subscript o i pos) (Zh6 to ti t):=by
 intro pins s σ H v u Q I r h;rw [ha];refine wpAny_bind (wpAny_holding (thn (ho pins s σ H _ I h) λov s1 ⟨x,H1,I1,r1,q1⟩ => ?_));refine wpAny_bind (wpAny_holding (thn (hi pins s1 σ H1 _ I1 q1) λiv s2 ⟨y,H2,I2,r2,q2⟩ => ?_));refine wpAny_bind (wpAny_standAt (wpAny_bind (wpAny_holding (thn (hs pins s2 σ H2 x y v ov iv u _ I2 r1 r2 r q2) λ_ s3 ⟨H3,I3,q3⟩ => ?_))));exact wpAny_release ⟨σ,H3,I3,q3⟩
def Y0(te:TE)(g:TG):TS:=λD σ H=>te σ H λx H1=>g x σ H1 D.nx
theorem Qr {tg e:Expr} {te:TE} {g:TG} (he:PE X e te) (hg:PG X tg g) (hs:swapsWithSole [tg] e pos.line X.env=pure false:=by rfl) (hw:swappedStores [tg] e X.env=pure none:=by rfl)
 (h1:(assignEach [tg] X.env).map (·.2)=[assign tg X.env]:=by rfl):PS X (.Assign [tg] e pos) (Y0 te g):=by
 intro pins s σ H D I h;refine wpAny_Assign_stores (thn (he pins s σ H _ I h) λv s1 ⟨x,H1,I1,r1,q1⟩ => ?_) hs hw;rw [h1];exact thn (hg pins s1 σ H1 x v _ I1 r1 q1) λ_ s2 q=>q
theorem ZB{i:Nat}{x:Str}{e:Expr}{te:TE}{pos':Pos}(hN:X.N.Nodup)(hi:X.N[i]? = some x)(hx:Loc X.env.scope x)(he:PE X e te)(hs:swapsWith e (some (.Name x pos')) pos.line X.env=pure false:=by rfl)(hf:X.fn x=true\/X.env.scope.names.lookup x=some .local:=by first|exact .inl rfl|exact .inr rfl|assumption) :
 PS X (.Assign [.Name x pos'] e pos) (Y0 te (YN i)):=by
 intro pins s σ H D I h;refine wpAny_Assign_Name (thn (he pins s σ H _ I h) λv s1 ⟨y,H1,I1,r1,q1⟩ => ?_) hs;exact Zb2 I1 hN hi hx r1 (λs2 I2=>⟨_,H1,I2,q1⟩) hf
end
section
variable{X:Cx}{pos:Pos}
def ZcX(c:TT)(tb:TS):TS:=λD σ H=>∃W:Nat->St->Hp->Prop,(∃m,W m σ H)/\∀m σ H,W m σ H ->
 c σ H λb H1=>if b=true then ∃N:St->Hp->Prop,(∀σ' H',N σ' H'->∃m',m'<m/\W m' σ' H')/\tb { D with nx:=N,ct:=N,bk:=D.nx } σ H1 else D.nx σ H1
theorem UP{c:Expr}{body:List Stmt}{tc:TT}{tb:TS}(hp:PassesOwn (model X.prog X.w) X.A X.env X.xe)(hc:PT X c tc)(hb:PSs X body tb):PS X (.While c body [] pos) (ZcX tc tb):=by
 intro pins s σ H D I h;obtain⟨W,⟨m0,w0⟩,turn⟩:=h;refine wpAny_While (codeAny_whileLoop (λn s'=>∃σ' H',Inv X pins σ' H' s'/\W n σ' H') ?_ m0 ⟨σ,H,I,w0⟩)
 rintro n s1 ⟨σ1,H1,I1,w1⟩
 refine wpAny_passesOwn hp (thn (hc pins s1 σ1 H1 _ I1 (turn n σ1 H1 w1)) λb s2 ⟨H2,I2,q2⟩ => ?_);cases b with
 |true=>
  obtain⟨N,hN,q2⟩:=q2;rw [if_pos rfl];refine wpAny_passesOwn hp (thn (hb pins s2 σ1 H2 _ I2 q2) λf s3 q3 => ?_);cases f with
  |next=>
   obtain⟨σ3,H3,I3,n3⟩:=q3;obtain⟨m',hm,w3⟩:=hN σ3 H3 n3;exact⟨m',hm,σ3,H3,I3,w3⟩
  |cont=>
   obtain⟨σ3,H3,I3,n3⟩:=q3;obtain⟨m',hm,w3⟩:=hN σ3 H3 n3;exact⟨m',hm,σ3,H3,I3,w3⟩
  |brk=>exact q3
  |ret v=>exact q3
 |false=>
  rw [if_neg Bool.false_ne_true];exact wpAny_execs_nil ⟨σ1,H2,I2,q2⟩
end
structure It where
 go:Nat->Hp->Prop
 yld:Nat->Hp->V->Hp->Prop
 stop:Nat->Hp->Prop
def YO(X:Cx)(pins:List (Addr×Obj))(H:Hp)(b:Addr):Prop:=
 H b=none/\b≠X.env.locals/\b∉X.fs/\(b∈X.ex\/X.s₀.heap.objs.size<=b)/\(∀x c,X.env.cells.lookup x=some c->c≠b)/\∀p∈X.pn++pins,p.1≠b
theorem Inv.fpOk{X:Cx}{pins:List (Addr×Obj)}{σ:St}{H H':Hp}{s:Shared}{b:Addr}(I:Inv X pins σ H s)(hb:s.heap.objs.size<=b)(hn:H' b=none):YO X pins H' b:=by
 refine⟨hn,Nat.ne_of_gt (Nat.lt_of_lt_of_le I.lt hb),I.nofs hb,.inr (Nat.le_trans I.sz hb),λx c e z => ?_,λp hp z => ?_⟩
 · obtain⟨v,q⟩:=I.cell x c e
   exact absurd (Nat.lt_of_lt_of_le q.lt (by rw [z];exact hb)) (Nat.lt_irrefl _)
 · exact absurd (Nat.lt_of_lt_of_le (Heap.lt_size (I.pin p hp).1) (by rw [z];exact hb)) (Nat.lt_irrefl _)
structure Turn(P:Program)(w:World)(K:PySem.W.Frag)(tg:Expr)(J:It)(fp:List Addr)(it:Addr)(tn:Nat->Heap->Prop):Prop where
 mem:it∈fp
 obj:∀i h,tn i h->∀b∈fp,∃o,h.get? b=some o/\∀v,o.data ≠ .cell v
 keep:∀i h h',tn i h->(∀b∈fp,∀o,h.get? b=some o->h'.get? b=some o)->tn i h'
 item:∀(X:Cx),X.prog=P->X.w=w->X.K=K->X.calm=true->∀(i:Nat)(pins:List (Addr×Obj))(s:Shared)(σ:St)(H:Hp)(E:Value->Shared->Prop),Inv X pins σ H s->(∀b∈fp,YO X pins H b)->tn i s.heap->J.go i H ->
  wpAny (model P w) X.A (pyNext (.ref it)) (λr s1=>∃u,r=some u /\
   wpAny (model P w) X.A (letOwnedTupleGo tg (.ref it) u) (λ_ s2=>∃x H',Inv X pins σ H' s2/\RelV x u/\J.yld i H x H'/\tn (i+1) s2.heap/\∀b∈fp,H' b=none) E s1) E s
 done:∀(X:Cx),X.prog=P->X.w=w->X.K=K->X.calm=true->∀(i:Nat)(pins:List (Addr×Obj))(s:Shared)(σ:St)(H:Hp)(E:Value->Shared->Prop),Inv X pins σ H s->(∀b∈fp,YO X pins H b)->tn i s.heap->J.stop i H ->
  wpAny (model P w) X.A (pyNext (.ref it)) (λr s1=>r=none/\Inv X pins σ H s1) E s
 self:∀(A:Around)(i:Nat)(s:Shared)(Q:Value->Shared->Prop)(E:Value->Shared->Prop),tn i s.heap->Q (.ref it) s->wpAny (model P w) A (pyIter (.ref it)) Q E s
abbrev TI:=St->Hp->(It->Hp->Prop)->Prop
def PIE(X:Cx)(pins:List (Addr×Obj))(σ:St)(tg:Expr)(R:It->Hp->Prop)(itv:Value)(s2:Shared):Prop:=
 ∃(it:Addr) (fp:List Addr) (tn:Nat->Heap->Prop) (J:It) (H':Hp),itv = .ref it/\Inv X pins σ H' s2/\Turn X.prog X.w X.K tg J fp it tn/\tn 0 s2.heap/\(∀b∈fp,YO X pins H' b)/\R J H'
def PI(X:Cx)(tg iter:Expr)(wi:TI):Prop:=
 ∀(pins:List (Addr×Obj))(s:Shared)(σ:St)(H:Hp)(R:It->Hp->Prop),Inv X pins σ H s->wi σ H R ->
  wpAny (model X.prog X.w) X.A (eval iter X.env) (λv s1=>wpAny (model X.prog X.w) X.A (pyIter v) (PIE X pins σ tg R) X.xe s1) X.xe s
theorem Jq {M:Model} {A:Around} {E:Value->Shared->Prop} {s:Shared} {tg:Expr} {it:Addr} {u:Value} {o:Obj} {n:String} {vs:Array Value} {Q:Unit->Shared->Prop} (ho:s.heap.get? it=some o) (hc:o.cls = .type n) (hd:o.data = .fields vs)
 (hn:["enumerate", "zip", "dict_itemiterator", "dict_reverseitemiterator", "odict_iterator", "itertools.zip_longest", "itertools.pairwise"].contains n=false) (hQ:Q () s):wpAny M A (letOwnedTupleGo tg (.ref it) u) Q E s:=by
 unfold letOwnedTupleGo
 cases tg<;>first
  |exact wpAny_pure hQ
  | (cases u <;> first
      |exact wpAny_pure hQ
      | (refine wpAny_bind (wpAny_load ho ?_)
         rw [hc,hd];show wpAny M A (if(["enumerate", "zip", "dict_itemiterator", "dict_reverseitemiterator", "odict_iterator", "itertools.zip_longest", "itertools.pairwise"].contains n&&vs[0]? == some (rawInt _))=true then _ else _) Q E s;rw [if_neg (by intro h;rw [hn,Bool.false_and]at h;cases h)];exact wpAny_pure hQ))
def Itl(K:PySem.W.Frag)(a:Addr):It:=
 ⟨λi H=>∃xs x,SqL K H a xs/\xs[i]? = some x,λi H x H'=>H'=H/\∀xs,SqL K H a xs->xs[i]? = some x,λi H=>∃xs,SqL K H a xs/\xs.length<=i⟩
def Itt(K:PySem.W.Frag)(a:Addr):It:=
 ⟨λi H=>∃xs x,SqT K H a xs/\xs[i]? = some x,λi H x H'=>H'=H/\∀xs,SqT K H a xs->xs[i]? = some x,λi H=>∃xs,SqT K H a xs/\xs.length<=i⟩
def Itr(lo:Int)(n:Nat):It:=⟨λi _=>i<n,λi H x H'=>H'=H/\x = .int (lo+i),λi _=>n<=i⟩
theorem ZdN{P:Program}{w:World}{K:PySem.W.Frag}{tg:Expr}(a it:Addr):Turn P w K tg (Itl K a) [it] it (λi h=>h.IsListIter it a i) where
 mem:=by simp
 obj:=λi h st b hb=>by
  have e:b=it:=by simpa using hb
  subst e;obtain⟨o,e,c,d⟩:=st;exact⟨o,e,λv z=>by rw [d]at z;cases z⟩
 keep:=λi h h' st k=>st.at λo e=>k it (by simp) o e
 item:=by
  intro X hP hw hK hc i pins s σ H E I hf st hg;subst hP hw hK;obtain⟨xs,x,hq,hx⟩:=hg;obtain⟨its,rv,p,hz⟩:=I.list hq;obtain⟨u,hu,ru⟩:=rv.get hx;obtain⟨f0,f1,f2,f3,f4,f5⟩:=hf it (by simp);refine wpAny_pyNext_list_item st p.isList (x:=u) (by simpa using hu) λh' st' sb => ?_
  have I1:Inv X pins σ H { s with heap:=h' }:=I.turned (t':=s.toks) (λb o hb e=>(sb.2 b hb).trans e) f0 f1 f3 f4 f5;obtain⟨o,e,c,d⟩:=id st';exact⟨u,rfl,Jq (s:={ s with heap:=h' }) e c d (by decide) ⟨x,H,I1,ru,⟨rfl,λys hy=>by rw [I.list_inj hy hq];exact hx⟩,st',λb hb=>(hf b hb).1⟩⟩
 done:=by
  intro X hP hw hK hc i pins s σ H E I hf st hg;subst hP hw hK;obtain⟨xs,hq,hx⟩:=hg;obtain⟨its,rv,p,hz⟩:=I.list hq;obtain⟨f0,f1,f2,f3,f4,f5⟩:=hf it (by simp);have hl:=rv.length;exact wpAny_pyNext_list_end (I.ok.hd hc) st p.isList (by simp;omega) λh' eb=>⟨rfl,I.turned (t':=s.toks) (λb o hb e=>eb b o hb e) f0 f1 f3 f4 f5⟩
 self:=λ_ _ _ _ _ st h=>wpAny_pyIter_listiter st h
theorem ZaG{P:Program}{w:World}{K:PySem.W.Frag}{tg:Expr}(a it:Addr):Turn P w K tg (Itt K a) [it] it (λi h=>h.IsTupleIter it a i) where
 mem:=by simp
 obj:=λi h st b hb=>by
  have e:b=it:=by simpa using hb
  subst e;obtain⟨o,e,c,d⟩:=st;exact⟨o,e,λv z=>by rw [d]at z;cases z⟩
 keep:=λi h h' st k=>st.at λo e=>k it (by simp) o e
 item:=by
  intro X hP hw hK hc i pins s σ H E I hf st hg;subst hP hw hK;obtain⟨xs,x,hq,hx⟩:=hg;obtain⟨its,rv,p,hz⟩:=I.tuple hq;obtain⟨u,hu,ru⟩:=rv.get hx;obtain⟨f0,f1,f2,f3,f4,f5⟩:=hf it (by simp);refine wpAny_pyNext_tuple_item st (show s.heap.IsTuple a its.toArray from p) (x:=u) (by simpa using hu) λh' st' sb => ?_
  have I1:Inv X pins σ H { s with heap:=h' }:=I.turned (t':=s.toks) (λb o hb e=>(sb.2 b hb).trans e) f0 f1 f3 f4 f5;obtain⟨o,e,c,d⟩:=id st';exact⟨u,rfl,Jq (s:={ s with heap:=h' }) e c d (by decide) ⟨x,H,I1,ru,⟨rfl,λys hy=>by rw [I.tuple_inj hy hq];exact hx⟩,st',λb hb=>(hf b hb).1⟩⟩
 done:=by
  intro X hP hw hK hc i pins s σ H E I hf st hg;subst hP hw hK;obtain⟨xs,hq,hx⟩:=hg;obtain⟨its,rv,p,hz⟩:=I.tuple hq;obtain⟨f0,f1,f2,f3,f4,f5⟩:=hf it (by simp);have hl:=rv.length;exact wpAny_pyNext_tuple_end (I.ok.hd hc) st (show s.heap.IsTuple a its.toArray from p) (by simp;omega) λh' eb=>⟨rfl,I.turned (t':=s.toks) (λb o hb e=>eb b o hb e) f0 f1 f3 f4 f5⟩
 self:=λ_ _ _ _ _ st h=>wpAny_pyIter_tupleiter st h
theorem Zcy{P:Program}{w:World}{K:PySem.W.Frag}{tg:Expr}(it:Addr)(lo:Int)(n:Nat):Turn P w K tg (Itr lo n) [it] it (λi h=>IsRangeIter h it (lo+(i:Nat)*1) ((n:Int)-(i:Nat)) 1) where
 mem:=by simp
 obj:=λi h st b hb=>by
  have e:b=it:=by simpa using hb
  subst e
  exact⟨_,st,λv z=>by
   have z':Data.fields _=Data.cell v:=z;cases z'⟩
 keep:=λi h h' st k=>k it (by simp) _ st
 item:=by
  intro X hP hw hK hc i pins s σ H E I hf st hg;subst hP hw hK;obtain⟨f0,f1,f2,f3,f4,f5⟩:=hf it (by simp);have W:=Walks.range (prog:=X.prog) (w:=X.w) (I.ok.hd hc) it lo 1 n;refine W.item i s _ _ hg st λv h' tk hv st' kk => ?_
  obtain⟨t,rfl⟩:=hv;have I1:Inv X pins σ H { s with heap:=h',toks:=tk }:=I.turned (λb o hb e=>kk b o (by simpa using hb) e) f0 f1 f3 f4 f5;refine⟨_,rfl,Jq (s:={ s with heap:=h',toks:=tk }) (n:="range_iterator") st' rfl rfl (by decide) ⟨.int (lo+i),H,I1,⟨t,?_⟩,⟨rfl,rfl⟩,st',λb hb=>(hf b hb).1⟩⟩;rw [Int.mul_one]
 done:=by
  intro X hP hw hK hc i pins s σ H E I hf st hg;subst hP hw hK;obtain⟨f0,f1,f2,f3,f4,f5⟩:=hf it (by simp);exact wpAny_pyNext_range_end (I.ok.hd hc) st (by have:n<=i:=hg;omega) λh' eb=>⟨rfl,I.turned (t':=s.toks) (λb o hb e=>eb b o hb e) f0 f1 f3 f4 f5⟩
 self:=λ_ _ _ _ _ st h=>wpAny_pyIter_rangeiter st h
end L2
namespace L2
open PySem PySem.Spec PyProof.Rows
section
variable{X:Cx}{tg:Expr}
def Zkm(K:PySem.W.Frag)(tl:TE):TI:=λσ H R=>tl σ H λx H1=>∃a,x = .ref a/\(∃xs,SqT K H1 a xs)/\R (Itt K a) H1
theorem Zhc{l:Expr}{tl:TE}(hl:PE X l tl):PI X tg l (Zkm X.K tl):=by
 intro pins s σ H R I h;refine thn (hl pins s σ H _ I h) λv s1 ⟨x,H1,I1,r1,q1⟩ => ?_
 obtain⟨a,e,⟨xs,hq⟩,q⟩:=q1;subst e;cases r1;obtain⟨its,rv,p,hz⟩:=I1.tuple hq;refine wpAny_pyIter_tuple (show s1.heap.IsTuple a its.toArray from p) ?_;refine⟨s1.heap.objs.size,[s1.heap.objs.size],_,_,H1,rfl,I1.kept (t':=s1.toks) λb o e=>Heap.get?_push_of_some _ e,ZaG a _,⟨_,Heap.get?_push_size _ rfl,rfl,rfl⟩,λb hb => ?_,q⟩;have e:b=s1.heap.objs.size:=by simpa using hb
 subst e;exact I1.fpOk (Nat.le_refl _) (I1.hok.fresh (Nat.le_refl _))
theorem Zb3 {pins:List (Addr×Obj)} {σ:St} {H:Hp} {s:Shared} {R:It->Hp->Prop} {E:Value->Shared->Prop} {lo hi:Int} {t u v:Tok} {tk:Nat} (I:Inv X pins σ H s) (h1 : -(2 ^ 62)<=lo) (h2:lo<2 ^ 62) (h3 : -(2 ^ 62)<=hi) (h4:hi<2 ^ 62)
 (q:R (Itr lo (hi-lo).toNat) H):wpAny (model X.prog X.w) X.A (pyIter (.ref s.heap.objs.size)) (PIE X pins σ tg R) E { s with heap:=s.heap.push { cls := .type "range",data := .fields #[.int lo t,.int hi u,.int 1 v] },toks:=tk }:=by
 refine wpAny_pyIter_range (IsRange.new ..) (small_one h1 h2 h3 h4) ?_;have I1:Inv X pins σ H { s with heap:=s.heap.push { cls := .type "range",data := .fields #[.int lo t,.int hi u,.int 1 v] },toks:=tk }:=I.kept λb o e=>Heap.get?_push_of_some _ e
 refine⟨(s.heap.push { cls := .type "range",data := .fields #[.int lo t,.int hi u,.int 1 v] }).objs.size,[(s.heap.push { cls := .type "range",data := .fields #[.int lo t,.int hi u,.int 1 v] }).objs.size],_,_,H,rfl,
  I1.kept (t':=tk) λb o e=>Heap.get?_push_of_some _ e,Zcy _ lo (hi-lo).toNat,?_,λb hb => ?_,q⟩
 · have e1:lo+((0:Nat):Int)*1=lo:=by simp
   have e2:(((hi-lo).toNat:Nat):Int)-((0:Nat):Int)=Builtin.Range.rangeSize lo hi 1:=by rw [rangeSize_one];split<;>omega
   show IsRangeIter _ _ (lo+((0:Nat):Int)*1) ((((hi-lo).toNat:Nat):Int)-((0:Nat):Int)) 1;rw [e1,e2];exact Heap.get?_push_size _ rfl
 · have e:b=(s.heap.push { cls := .type "range",data := .fields #[.int lo t,.int hi u,.int 1 v] }).objs.size:=by simpa using hb
   subst e;exact I1.fpOk (Nat.le_refl _) (I1.hok.fresh (Nat.le_refl _))
def ZgL(ta:TA):TI:=λσ H R=>ta σ H λvs H1=>∃j:Int,vs=[.int j] /\ -(2 ^ 62)<=j/\j<2 ^ 62/\R (Itr 0 j.toNat) H1
def ZgM(ta:TA):TI:=λσ H R=>ta σ H λvs H1=>∃i j:Int,vs=[.int i,.int j]/\(-(2 ^ 62)<=i/\i<2 ^ 62 /\ -(2 ^ 62)<=j/\j<2 ^ 62)/\R (Itr i (j-i).toNat) H1
theorem Xk {a:Expr} {ta:TA} {p pos:Pos} (hg:Gl X "range") (hm:X.mg "range" = none) (ha:PA X [a] ta) (hs:starEach [a] X.env=[(false,eval a X.env)]:=by rfl):PI X tg (.Call (.Name "range" p) [a] [] pos) (ZgL ta):=by
 intro pins s σ H R I h;refine Call_ (XC I hg hm boot_range (PyProof.Rows.callWith_type1 (thn (ha pos pins s σ H _ I h) λus s1 ⟨vs,H1,I1,r1,q1⟩ => ?_) hs rfl));obtain⟨j,e,q1,q2,q⟩:=q1;subst e;cases r1 with
 |cons r rr=>
  cases rr;obtain⟨t,rfl⟩:=r;exact call_range_1 (Zb3 I1 (by omega) (by omega) q1 q2 (by simpa using q))
theorem Zas {a b:Expr} {ta:TA} {p pos:Pos} (hg:Gl X "range") (hm:X.mg "range" = none) (ha:PA X [a,b] ta) (hs:starEach [a,b] X.env=[(false,eval a X.env),(false,eval b X.env)]:=by rfl) (hs2:starEach [b] X.env=[(false,eval b X.env)]:=by rfl) :
 PI X tg (.Call (.Name "range" p) [a,b] [] pos) (ZgM ta):=by
 intro pins s σ H R I h;refine Call_ (XC I hg hm boot_range (PyProof.Rows.callWith_type1 (thn (ha pos pins s σ H _ I h) λus s1 ⟨vs,H1,I1,r1,q1⟩ => ?_) (by rw [hs,hs2]) (by rw [hs2];rfl)));obtain⟨i,j,e,⟨q1,q2,q3,q4⟩,q⟩:=q1;subst e;cases r1 with
 |cons r rr=>
  cases rr with
  |cons r' rr=>
   cases rr;obtain⟨t,rfl⟩:=r;obtain⟨t',rfl⟩:=r';exact call_range_2 (Zb3 I1 q1 q2 q3 q4 q)
def Zh7(wi:TI)(g:TG)(tb:TS):TS:=λD σ H=>wi σ H λJ H1=>∃W:Nat->Nat->St->Hp->Prop,(∃m,W 0 m σ H1)/\∀i m σ H,W i m σ H ->
 (J.stop i H/\D.nx σ H)\/(J.go i H/\∃N:St->Hp->Prop,(∀σ' H',N σ' H'->∃m',m'<m/\W (i+1) m' σ' H')/\∀x H',J.yld i H x H'->g x σ H' λσ2 H2=>tb { D with nx:=N,ct:=N,bk:=D.nx } σ2 H2)
def X7(fp:List Addr)(h:Heap):List (Addr×Obj):=fp.filterMap λb=>(h.get? b).map λo=>(b,o)
theorem Jr{fp:List Addr}{h:Heap}{b:Addr}{o:Obj}(hb:b∈fp)(e:h.get? b=some o):(b,o)∈X7 fp h:=List.mem_filterMap.mpr ⟨b,hb,by rw [e];rfl⟩
theorem Za5{fp:List Addr}{h:Heap}{p:Addr×Obj}(hp:p∈X7 fp h):p.1∈fp/\h.get? p.1=some p.2:=by
 obtain⟨b,hb,e⟩:=List.mem_filterMap.mp hp;cases q:h.get? b with
 |none=>rw [q]at e;cases e
 |some o=>
  rw [q]at e;have e':(b,o)=p:=Option.some.inj e;subst e';exact⟨hb,q⟩
theorem Inv.pinned{pins:List (Addr×Obj)}{σ:St}{H:Hp}{s:Shared}{fp:List Addr}(I:Inv X pins σ H s)(hf:∀b∈fp,YO X pins H b)(ho:∀b∈fp,∃o,s.heap.get? b=some o/\∀v,o.data ≠ .cell v):Inv X (pins++X7 fp s.heap) σ H s:=
 I.pins_of λp hp=>(List.mem_append.mp hp).elim (λz=>I.pin p (List.mem_append_right _ z)) λz=>by
  obtain⟨hb,e⟩:=Za5 z;obtain⟨f0,f1,f2,_⟩:=hf p.1 hb;obtain⟨o,e',d⟩:=ho p.1 hb;rw [e]at e';cases e';exact⟨e,f0,f1,f2,d⟩
theorem Inv.unpinned{pins pl:List (Addr×Obj)}{σ:St}{H:Hp}{s:Shared}(I:Inv X (pins++pl) σ H s):Inv X pins σ H s:=I.pins_of λp hp=>I.pin p (List.mem_append_right _ (List.mem_append_left _ hp))
theorem YH {iter:Expr} {body:List Stmt} {wi:TI} {g:TG} {tb:TS} {pos:Pos} (hp:PassesOwn (model X.prog X.w) X.A X.env X.xe) (hc:X.calm=true) (hi:PI X tg iter wi) (hg:PG X tg g) (hb:PSs X body tb)
 (hs:∀x,foldedSetIterable iter X.env x=pure x:=by intro _;rfl):PS X (.For tg iter body [] pos) (Zh7 wi g tb):=by
 intro pins s σ H D I h;refine wpAny_For (thn (hi pins s σ H _ I h) λv s1 h1=>thn h1 λitv s2 h2 => ?_) hs;obtain⟨it,fp,tn,J,H2,e,I2,T,st2,f2,W,⟨m0,w0⟩,turn⟩:=h2;subst e;have stat:∀{H':Hp},(∀b∈fp,H' b=none)->∀b∈fp,YO X pins H' b:=λhn b hb=>⟨hn b hb,(f2 b hb).2⟩
 refine codeAny_forLoop_any (λn s'=>∃i σ' H',Inv X pins σ' H' s'/\tn i s'.heap/\(∀b∈fp,H' b=none)/\W i n σ' H') ?_ m0 ⟨0,σ,H2,I2,st2,λb hb=>(f2 b hb).1,w0⟩
 rintro n s3 ⟨i,σ3,H3,I3,st3,fr3,w3⟩
 rcases turn i n σ3 H3 w3 with⟨stop,qn⟩|⟨go,N,hN,step⟩
 · refine wpAny_passesOwn hp (thn (T.done X rfl rfl rfl hc i pins s3 σ3 H3 X.xe I3 (stat fr3) st3 stop) λr s4 ⟨hr,I4⟩ => ?_)
   subst hr;exact wpAny_execs_nil ⟨σ3,H3,I4,qn⟩
 · refine wpAny_passesOwn hp (thn (T.item X rfl rfl rfl hc i pins s3 σ3 H3 X.xe I3 (stat fr3) st3 go) λr s4 ⟨u,hr,h4⟩ => ?_)
   subst hr;refine wpAny_passesOwn hp (thn h4 λ_ s5 ⟨x,H5,I5,r5,y5,st5,fr5⟩ => ?_);have I5':=I5.pinned (stat fr5) (T.obj _ _ st5);refine wpAny_passesOwn hp (thn (hg _ s5 σ3 H5 x u _ I5' r5 (step x H5 y5)) λ_ s6 ⟨σ6,H6,I6,q6⟩ => ?_);refine wpAny_passesOwn hp (thn (hb _ s6 σ6 H6 _ I6 q6) λf s7 q7 => ?_)
   have again:∀{σ7:St}{H7:Hp},Inv X (pins++X7 fp s5.heap) σ7 H7 s7->N σ7 H7->∃m,m<n/\∃i σ' H',Inv X pins σ' H' s7/\tn i s7.heap/\(∀b∈fp,H' b=none)/\W i m σ' H':=λ{σ7 H7} I7 n7=>by
    obtain⟨m',hm,w7⟩:=hN σ7 H7 n7;refine⟨m',hm,i+1,σ7,H7,I7.unpinned,T.keep _ _ _ st5 λb hb o e=>(I7.pin (b,o) (List.mem_append_right _ (List.mem_append_right _ (Jr hb e)))).1,λb hb => ?_,w7⟩;obtain⟨o,e,d⟩:=T.obj _ _ st5 b hb;exact(I7.pin (b,o) (List.mem_append_right _ (List.mem_append_right _ (Jr hb e)))).2.1
   cases f with
   |next=>obtain⟨σ7,H7,I7,n7⟩:=q7;exact again I7 n7
   |cont=>obtain⟨σ7,H7,I7,n7⟩:=q7;exact again I7 n7
   |brk=>obtain⟨σ7,H7,I7,q7⟩:=q7;exact⟨σ7,H7,I7.unpinned,q7⟩
   |ret v=>obtain⟨x7,σ7,H7,I7,r7,q7⟩:=q7;exact⟨x7,σ7,H7,I7.unpinned,r7,q7⟩
end
end L2
namespace L2
open PySem PySem.Spec PyProof.Rows
abbrev R2:=V->V->Hp->VK->Prop
def OpR(X:Cx)(f:Value->Value->Sem Value)(r:R2):Prop:=
 ∀(pins:List (Addr×Obj))(s:Shared)(σ:St)(H:Hp)(x y:V)(v u:Value)(Q:VK),Inv X pins σ H s->RelV x v->RelV y u->r x y H Q ->
  wpAny (model X.prog X.w) X.A (f v u) (EP X pins σ Q) X.xe s
def UnR(X:Cx)(f:Value->Sem Value)(r:V->Hp->VK->Prop):Prop:=
 ∀(pins:List (Addr×Obj))(s:Shared)(σ:St)(H:Hp)(x:V)(v:Value)(Q:VK),Inv X pins σ H s->RelV x v->r x H Q ->
  wpAny (model X.prog X.w) X.A (f v) (EP X pins σ Q) X.xe s
def Yt(X:Cx)(f:Value)(r:List V->Hp->VK->Prop):Prop:=
 ∀(pins:List (Addr×Obj))(s:Shared)(σ:St)(H:Hp)(xs:List V)(us:List Value)(Q:VK),Inv X pins σ H s->Vals xs us->r xs H Q ->
  wpAny (model X.prog X.w) X.A (call f us) (EP X pins σ Q) X.xe s
def tOp(r:R2)(ta tb:TE):TE:=λσ H Q=>ta σ H λx H1=>tb σ H1 λy H2=>r x y H2 Q
def tUn(r:V->Hp->VK->Prop)(ta:TE):TE:=λσ H Q=>ta σ H λx H1=>r x H1 Q
def rI(C:Int->Int->Prop)(g:Int->Int->V):R2:=λx y H Q=>∃i j,x = .int i/\y = .int j/\C i j/\Q (g i j) H
def rI0(g:Int->Int->V):R2:=λx y H Q=>∃i j,x = .int i/\y = .int j/\Q (g i j) H
def rU(g:Int->V):V->Hp->VK->Prop:=λx H Q=>∃i,x = .int i/\Q (g i) H
section
variable{X:Cx}{a b c:Expr}{ta tb tc:TE}{pos:Pos}
theorem Zh8 (ha:PE X a ta) (hb:PE X b tb) {pins:List (Addr×Obj)} {s:Shared} {σ:St} {H:Hp} {R:V->V->Hp->Prop} (I:Inv X pins σ H s)
 (h:ta σ H λx H1=>tb σ H1 λy H2=>R x y H2) {Q:Value->Shared->Prop} {f:Value->Value->Sem Value}
 (hf:∀v u s2 x y H2,Inv X pins σ H2 s2->RelV x v->RelV y u->R x y H2->wpAny (model X.prog X.w) X.A (f v u) Q X.xe s2) :
 wpAny (model X.prog X.w) X.A (eval a X.env) (λv s₁=>wpAny (model X.prog X.w) X.A (eval b X.env) (λu s₂=>wpAny (model X.prog X.w) X.A (f v u) Q X.xe s₂) X.xe s₁) X.xe s:=by
 refine thn (ha pins s σ H _ I h) λv s1 ⟨x,H1,I1,r1,q1⟩ => ?_
 refine thn (hb pins s1 σ H1 _ I1 q1) λu s2 ⟨y,H2,I2,r2,q2⟩ => ?_
 exact hf v u s2 x y H2 I2 r1 r2 q2
theorem Zv{op:Operator}{r:R2}(ho:OpR X (binaryOp op) r)(ha:PE X a ta)(hb:PE X b tb):PE X (.BinOp a op b pos) (tOp r ta tb):=by
 intro pins s σ H Q I h;exact wpAny_BinOp (Zh8 ha hb I h λv u s2 x y H2 I2 rx ry q=>ho pins s2 σ H2 x y v u Q I2 rx ry q)
theorem XE{op:UnaryOp}{r:V->Hp->VK->Prop}(ho:UnR X (unaryOp op) r)(ha:PE X a ta):PE X (.UnaryOp op a pos) (tUn r ta):=by
 intro pins s σ H Q I h;exact UnaryOp_ (thn (ha pins s σ H _ I h) λv s1 ⟨x,H1,I1,r1,q1⟩=>ho pins s1 σ H1 x v Q I1 r1 q1)
theorem opI {f:Value->Value->Sem Value} {C:Int->Int->Prop} {g:Int->Int->Int}
 (rule:∀(i j:Int)(t u:Tok)(s:Shared)(Q:Value->Shared->Prop)(E:Value->Shared->Prop),C i j->Q (.int (g i j) s.toks) { s with toks:=s.toks+1 }->wpAny (model X.prog X.w) X.A (f (.int i t) (.int j u)) Q E s) :
 OpR X f (rI C λi j => .int (g i j)):=by
 intro pins s σ H x y v u Q I rx ry h;obtain⟨i,j,rfl,rfl,hc,q⟩:=h;obtain⟨t,rfl⟩:=rx;obtain⟨t',rfl⟩:=ry;exact rule i j t t' s _ _ hc ⟨.int (g i j),H,I.tok _,⟨_,rfl⟩,q⟩
theorem Zj9 {f:Value->Value->Sem Value} {g:Int->Int->Int}
 (rule:∀(i j:Int)(t u:Tok)(s:Shared)(Q:Value->Shared->Prop)(E:Value->Shared->Prop),Q (.int (g i j) s.toks) { s with toks:=s.toks+1 }->wpAny (model X.prog X.w) X.A (f (.int i t) (.int j u)) Q E s) :
 OpR X f (rI0 λi j => .int (g i j)):=by
 intro pins s σ H x y v u Q I rx ry h;obtain⟨i,j,rfl,rfl,q⟩:=h;obtain⟨t,rfl⟩:=rx;obtain⟨t',rfl⟩:=ry;exact rule i j t t' s _ _ ⟨.int (g i j),H,I.tok _,⟨_,rfl⟩,q⟩
theorem Zh9 {f:Value->Value->Sem Value} {g:Int->Int->Bool}
 (rule:∀(i j:Int)(t u:Tok)(s:Shared)(Q:Value->Shared->Prop)(E:Value->Shared->Prop),Q (.bool (g i j)) s->wpAny (model X.prog X.w) X.A (f (.int i t) (.int j u)) Q E s) :
 OpR X f (rI0 λi j => .bl (g i j)):=by
 intro pins s σ H x y v u Q I rx ry h;obtain⟨i,j,rfl,rfl,q⟩:=h;obtain⟨t,rfl⟩:=rx;obtain⟨t',rfl⟩:=ry;exact rule i j t t' s _ _ ⟨.bl (g i j),H,I,rfl,q⟩
def V8(i j:Int):Prop:=0<j/\j<1073741824
def Uu(i j:Int):Prop:=0<=j/\j<=1000000/\i.natAbs<2 ^ 64
def CMul(i j:Int):Prop:=(-(2 ^ 64)<i/\i<2 ^ 64)\/(-(2 ^ 64)<j/\j<2 ^ 64)
theorem CMul.ok{i j:Int}(h:CMul i j):IntMulOk i j:=by
 rcases h with⟨h1,h2⟩|⟨h1,h2⟩
 · exact .of_left (intBits_le_64 h1 h2)
 · exact .of_right (intBits_le_64 h1 h2)
theorem op_add:OpR X (binaryOp .Add) (rI0 λi j => .int (i+j)):=Zj9 λ_ _ _ _ _ _ _ q=>add_int q
theorem Uv:OpR X (binaryOp .Sub) (rI0 λi j => .int (i-j)):=Zj9 λ_ _ _ _ _ _ _ q=>sub_int q
theorem Y9:OpR X (binaryOp .Mod) (rI (λ_ j=>j≠0) λi j => .int (i.fmod j)):=opI λ_ _ _ _ _ _ _ hc q=>mod_int' hc q
theorem Ze8:OpR X (binaryOp .Pow) (rI Uu λi j => .int (i ^ j.toNat)):=opI λ_ _ _ _ _ _ _ hc q=>pow_int_small hc.1 hc.2.1 hc.2.2 q
theorem unI {f:Value->Sem Value} {g:Int->Int}
 (rule:∀(i:Int)(t:Tok)(s:Shared)(Q:Value->Shared->Prop)(E:Value->Shared->Prop),Q (.int (g i) s.toks) { s with toks:=s.toks+1 }->wpAny (model X.prog X.w) X.A (f (.int i t)) Q E s) :
 UnR X f (rU λi => .int (g i)):=by
 intro pins s σ H x v Q I rx h;obtain⟨i,rfl,q⟩:=h;obtain⟨t,rfl⟩:=rx;exact rule i t s _ _ ⟨.int (g i),H,I.tok _,⟨_,rfl⟩,q⟩
theorem XF:UnR X (unaryOp .USub) (rU λi => .int (-i)):=unI λ_ _ _ _ _ q=>neg_int q
end
def X8:V->V->Bool
 | .non,.non=>true | .non,.int _=>true | .int _,.non=>true | .non,.bl _=>true | .bl _,.non=>true | .non,.str _=>true | .str _,.non=>true
 | .int _,.int _=>true | .bl _,.bl _=>true | .str _,.str _=>true | .byt _,.byt _=>true
 | .int _,.str _=>true | .str _,.int _=>true | .bl _,.str _=>true | .str _,.bl _=>true
 |_,_=>false
def rEq:R2:=λx y H Q=>X8 x y=true/\Q (.bl (decide (x=y))) H
def rNe:R2:=λx y H Q=>X8 x y=true/\Q (.bl (!decide (x=y))) H
theorem Zdc{i j:Int}:decide (V.int i=V.int j)=(i == j):=by
 rw [Bool.eq_iff_iff];simp
theorem Ze9{i j:Bool}:decide (V.bl i=V.bl j)=(i == j):=by
 rw [Bool.eq_iff_iff];simp
theorem Zdd{i j:Str}:decide (V.str i=V.str j)=(i == j):=by
 rw [Bool.eq_iff_iff];simp
theorem Zde{i j:Array UInt8}:decide (V.byt i=V.byt j)=(i.toList == j.toList):=by
 rw [Bool.eq_iff_iff];cases i;cases j;simp
section
variable{X:Cx}{a b c:Expr}{ta tb tc:TE}{pos:Pos}
theorem Z0{pins:List (Addr×Obj)}{σ:St}{H:Hp}{s:Shared}{Q:VK}{k k':Bool}(I:Inv X pins σ H s)(q:Q (.bl k) H)(e:k=k'):EP X pins σ Q (.bool k') s:=by
 subst e;exact⟨.bl k,H,I,rfl,q⟩
theorem Ziq:OpR X (compareOp .Eq) rEq:=by
 intro pins s σ H x y v u Q I rx ry h;obtain⟨hs,q⟩:=h;cases x with
 |non=>
  cases rx;cases y with
  |non=>cases ry;exact PySem.EqNone.eq_none_none (Z0 I q (by simp))
  |bl j=>cases ry;exact PySem.EqNone.eq_none_bool (Z0 I q (by simp))
  |int j=>obtain⟨t',rfl⟩:=ry;exact PySem.EqNone.eq_none_int (Z0 I q (by simp))
  |str j=>obtain⟨t',rfl⟩:=ry;exact PySem.EqNone.eq_none_str (Z0 I q (by simp))
  |_=>exact absurd (show false=true from hs) Bool.false_ne_true
 |bl i=>
  cases rx;cases y with
  |non=>cases ry;exact PySem.EqNone.eq_bool_none (Z0 I q (by simp))
  |bl j=>cases ry;exact eq_bool (Z0 I q Ze9)
  |str j=>obtain⟨t',rfl⟩:=ry;exact PySem.EqMixed.eq_bool_str (Z0 I q (by simp))
  |_=>exact absurd (show false=true from hs) Bool.false_ne_true
 |int i=>
  obtain⟨t,rfl⟩:=rx;cases y with
  |non=>cases ry;exact PySem.EqNone.eq_int_none (Z0 I q (by simp))
  |int j=>obtain⟨t',rfl⟩:=ry;exact eq_int (Z0 I q Zdc)
  |str j=>obtain⟨t',rfl⟩:=ry;exact PySem.EqMixed.eq_int_str (Z0 I q (by simp))
  |_=>exact absurd (show false=true from hs) Bool.false_ne_true
 |str i=>
  obtain⟨t,rfl⟩:=rx;cases y with
  |non=>cases ry;exact PySem.EqNone.eq_str_none (Z0 I q (by simp))
  |bl j=>cases ry;exact PySem.EqMixed.eq_str_bool (Z0 I q (by simp))
  |int j=>obtain⟨t',rfl⟩:=ry;exact PySem.EqMixed.eq_str_int (Z0 I q (by simp))
  |str j=>obtain⟨t',rfl⟩:=ry;exact eq_str (Z0 I q Zdd)
  |_=>exact absurd (show false=true from hs) Bool.false_ne_true
 |byt i=>
  obtain⟨t,rfl⟩:=rx;cases y with
  |byt j=>obtain⟨t',rfl⟩:=ry;exact PySem.W.eq_bytes (Z0 I q Zde)
  |_=>exact absurd (show false=true from hs) Bool.false_ne_true
 |_=>cases y<;>exact absurd (show false=true from hs) Bool.false_ne_true
theorem Zir:OpR X (compareOp .NotEq) rNe:=by
 intro pins s σ H x y v u Q I rx ry h;obtain⟨hs,q⟩:=h;cases x with
 |non=>
  cases rx;cases y with
  |non=>cases ry;exact PySem.EqNone.ne_none_none (Z0 I q (by simp))
  |bl j=>cases ry;exact PySem.EqNone.ne_none_bool (Z0 I q (by simp))
  |int j=>obtain⟨t',rfl⟩:=ry;exact PySem.EqNone.ne_none_int (Z0 I q (by simp))
  |str j=>obtain⟨t',rfl⟩:=ry;exact PySem.EqNone.ne_none_str (Z0 I q (by simp))
  |_=>exact absurd (show false=true from hs) Bool.false_ne_true
 |bl i=>
  cases rx;cases y with
  |non=>cases ry;exact PySem.EqNone.ne_bool_none (Z0 I q (by simp))
  |bl j=>cases ry;exact ne_bool (Z0 I q (congrArg not Ze9))
  |str j=>obtain⟨t',rfl⟩:=ry;exact PySem.EqMixed.ne_bool_str (Z0 I q (by simp))
  |_=>exact absurd (show false=true from hs) Bool.false_ne_true
 |int i=>
  obtain⟨t,rfl⟩:=rx;cases y with
  |non=>cases ry;exact PySem.EqNone.ne_int_none (Z0 I q (by simp))
  |int j=>obtain⟨t',rfl⟩:=ry;exact ne_int (Z0 I q (congrArg not Zdc))
  |str j=>obtain⟨t',rfl⟩:=ry;exact PySem.EqMixed.ne_int_str (Z0 I q (by simp))
  |_=>exact absurd (show false=true from hs) Bool.false_ne_true
 |str i=>
  obtain⟨t,rfl⟩:=rx;cases y with
  |non=>cases ry;exact PySem.EqNone.ne_str_none (Z0 I q (by simp))
  |bl j=>cases ry;exact PySem.EqMixed.ne_str_bool (Z0 I q (by simp))
  |int j=>obtain⟨t',rfl⟩:=ry;exact PySem.EqMixed.ne_str_int (Z0 I q (by simp))
  |str j=>obtain⟨t',rfl⟩:=ry;exact ne_str (Z0 I q (congrArg not Zdd))
  |_=>exact absurd (show false=true from hs) Bool.false_ne_true
 |byt i=>
  obtain⟨t,rfl⟩:=rx;cases y with
  |byt j=>obtain⟨t',rfl⟩:=ry;exact PySem.W.ne_bytes (Z0 I q (congrArg not Zde))
  |_=>exact absurd (show false=true from hs) Bool.false_ne_true
 |_=>cases y<;>exact absurd (show false=true from hs) Bool.false_ne_true
theorem ZgN:OpR X (compareOp .Lt) (rI0 λi j => .bl (decide (i<j))):=Zh9 λ_ _ _ _ _ _ _ q=>lt_int q
theorem Qs:OpR X (compareOp .LtE) (rI0 λi j => .bl (decide (i<=j))):=Zh9 λ_ _ _ _ _ _ _ q=>le_int q
theorem ZfC:OpR X (compareOp .Gt) (rI0 λi j => .bl (decide (j<i))):=Zh9 λ_ _ _ _ _ _ _ q=>gt_int q
theorem OpR.or{f:Value->Value->Sem Value}{r r':R2}(h:OpR X f r)(h':OpR X f r'):OpR X f (λx y H Q=>r x y H Q\/r' x y H Q):=by
 intro pins s σ H x y v u Q I rx ry q;rcases q with q|q
 · exact h pins s σ H x y v u Q I rx ry q
 · exact h' pins s σ H x y v u Q I rx ry q
theorem ZT(b:Expr){op:CmpOp}(h:op ≠ .In:=by decide)(h2:op ≠ .NotIn:=by decide):behindInMarks op b=false:=by
 have e1:(op == CmpOp.In)=false:=by cases op<;>first|rfl|exact absurd rfl h
 have e2:(op == CmpOp.NotIn)=false:=by cases op<;>first|rfl|exact absurd rfl h2
 cases b<;>simp [behindInMarks,e1,e2]
theorem UQ{op:CmpOp}{r:R2}(ho:OpR X (compareOp op) r)(ha:PE X a ta)(hb:PE X b tb)(hm:behindInMarks op b=false):PE X (.Compare a [op] [b] pos) (tOp r ta tb):=by
 intro pins s σ H Q I h;exact wpAny_Compare1 (Zh8 ha hb I h λv u s2 x y H2 I2 rx ry q=>ho pins s2 σ H2 x y v u Q I2 rx ry q) hm
def ZgO(t:TE):TT:=λσ H Q=>t σ H λx H'=>∃k,x = .bl k/\Q k H'
theorem Z1{op:CmpOp}{r:R2}(ho:OpR X (compareOp op) r)(ha:PE X a ta)(hb:PE X b tb)(hm:behindInMarks op b=false):PT X (.Compare a [op] [b] pos) (ZgO (tOp r ta tb)):=by
 intro pins s σ H Q I h
 refine wpAny_isTrue_Compare1 (thn (ha pins s σ H _ I h) λv s1 ⟨x,H1,I1,r1,q1⟩=>thn (hb pins s1 σ H1 _ I1 q1) λu s2 ⟨y,H2,I2,r2,q2⟩=>
  thn (ho pins s2 σ H2 x y v u _ I2 r1 r2 q2) λc s3 ⟨z,H3,I3,r3,k,e,q3⟩ => ?_) hm
 subst e;cases r3;exact wpAny_truthy_bool ⟨H3,I3,q3⟩
theorem UR:(sizeLine:Nat)<2 ^ 63:=by rw [sizeLine_eq];decide
theorem Zcz:OpR X (binaryOp .Add) (λx y H Q=>∃i j,x = .str i/\y = .str j/\i.length+j.length<=sizeLine/\Q (.str (i++j)) H):=by
 intro pins s σ H x y v u Q I rx ry h;obtain⟨i,j,rfl,rfl,hz,q⟩:=h;obtain⟨t,rfl⟩:=rx;obtain⟨t',rfl⟩:=ry;exact add_str (λt' tk=>⟨.str (i++j),H,I.tok _,⟨_,rfl⟩,q⟩) hz
theorem Xl{x:V}{us:List Value}(r:Vals [x] us):∃u,us=[u]/\RelV x u:=by
 cases r with
 |cons r1 r2=>cases r2;exact⟨_,rfl,r1⟩
theorem ZfD{x y:V}{us:List Value}(r:Vals [x,y] us):∃u w',us=[u,w']/\RelV x u/\RelV y w':=by
 cases r with
 |cons r1 r2=>
  cases r2 with
  |cons r3 r4=>cases r4;exact⟨_,_,rfl,r1,r3⟩
theorem ZdO(hc:X.calm=true):Yt X (.builtin "min") (λxs H Q=>∃i j,xs=[.int i,.int j]/\Q (.int (if j<i then j else i)) H):=by
 intro pins s σ H xs us Q I r h;obtain⟨i,j,rfl,q⟩:=h;obtain⟨u,w',rfl,⟨t,rfl⟩,⟨t',rfl⟩⟩:=ZfD r;refine min_two_ints (I.ok.hd hc) λh' tk k=>⟨_,H,I.kept k,?_,q⟩
 by_cases hj:j<i
 · rw [if_pos hj,if_pos hj];exact⟨_,rfl⟩
 · rw [if_neg hj,if_neg hj];exact⟨_,rfl⟩
theorem ZdP:Yt X (.type "int") (λxs H Q=>(∃i,xs=[.int i]/\Q (.int i) H)\/∃k,xs=[.bl k]/\Q (.int (if k then 1 else 0)) H):=by
 intro pins s σ H xs us Q I r h;rcases h with⟨i,rfl,q⟩|⟨k,rfl,q⟩
 · obtain⟨u,rfl,t,rfl⟩:=Xl r
   exact call_int_int ⟨.int i,H,I,⟨_,rfl⟩,q⟩
 · obtain⟨u,rfl,r1⟩:=Xl r
   cases r1;exact call_int_bool ⟨.int (if k then 1 else 0),H,I.tok _,⟨_,rfl⟩,q⟩
end
end L2
namespace L2
open PySem PySem.Spec PyProof.Rows
structure ObjM(h:Heap)(x dx C:Addr)(mA:Str->Option Value):Prop where
 obj:h.get? x=some (instObj C dx)
 ns:h.Ns1 dx mA
 ne:dx≠x
theorem ZdQ{h:Heap}{dx:Addr}{mA:Str->Option Value}(n:h.Ns1 dx mA):∃od,h.get? dx=some od/\∀name,PySem.W.lookIn name od=some (mA name):=by
 obtain⟨o,es,ep,ho,hd,hk,_,hm⟩:=n;refine⟨o,ho,λname => ?_⟩;have e:=hm name;unfold nsFind findBy at e;rw [<-Array.find?_toList]at e;unfold PySem.W.lookIn;rw [hd];dsimp only
 split
 · rename_i y q
   rw [q]at e;exact congrArg some e
 · rename_i q
   rw [q]at e
   have a:es.toList.any (·.refKey)=false:=by
    rw [List.any_eq_false];intro y hy;obtain⟨z,t,hkey⟩:=hk y (Array.mem_toList_iff.mp hy);simp [DictEntry.refKey,hkey]
   have a':¬es.toList.any (·.refKey)=true:=by rw [a];exact Bool.false_ne_true
   rw [if_neg a'];exact congrArg some e
theorem ObjM.look{h:Heap}{x dx C:Addr}{mA:Str->Option Value}(I:ObjM h x dx C mA):∃od,PySem.W.InstAt h x (instObj C dx) C (some od)/\∀name,PySem.W.lookIn name od=some (mA name):=
 let⟨od,ho,hl⟩:=ZdQ I.ns
 ⟨od,⟨I.obj,rfl,rfl,ho⟩,hl⟩
section
variable{prog:Program}{w:World}{A:Around}{E:Value->Shared->Prop}{s:Shared}{K:PySem.W.Frag}{x dx C f:Addr}{mA:Str->Option Value}{name:Str}{v:Value}
end
section
variable{P:Program}{w:World}{H H':Hp}{h h':Heap}{a C dx:Addr}{fs fs':List (Str×V)}
theorem ZfV(hok:HOk P w H h)(e:H a=some (.ins C dx fs)):∃mA,ObjM h a dx C mA/\(∀f,RelO (fs.lookup f) (mA f))/\PySem.Within mA (fs.map (·.1))/\fs.length<=1000/\H dx=some (.own a):=by
 obtain⟨d,z,ne,ob,mA,n,r,q⟩:=(show ObjOk P w H h a (.ins C dx fs)from hok a _ e)
 exact⟨mA,⟨ob,n,ne⟩,r,q,z,d⟩
end
structure Cls(K:PySem.W.Frag)(C:Addr):Prop where
 pg:PySem.W.plainGet K C Str.empty=true
 hd:PySem.W.hasDictIn K C=true
 po:PySem.W.plainOver K C=true
 sa:PySem.W.findIn K (.ref C) "__setattr__" = some (some (.builtin "object.__setattr__"))
theorem Cls.get{K:PySem.W.Frag}{C:Addr}(c:Cls K C)(f:Str):PySem.W.plainGet K C f=true:=c.pg
structure Con(K:PySem.W.Frag)(C:Addr)(f:Str)(v:V)(u:Value):Prop where
 at_:PySem.W.findIn K (.ref C) f=some (some u)
 rel:RelV v u
 get:PySem.W.specialIn K u "__get__" = some none
 cp:PySem.W.copiedNames.contains f=false
structure Meth(K:PySem.W.Frag)(C:Addr)(m:Str)(f:Addr):Prop where
 at_:PySem.W.findIn K (.ref C) m=some (some (.ref f))
 fn:isFn K (.ref f)=true
 kp:keepIn K (.ref f)=true
section
variable{X:Cx}{pins:List (Addr×Obj)}{σ:St}{H:Hp}{s:Shared}{a C dx:Addr}{fs:List (Str×V)}{f:Str}{v:V}{A:Around}{E:Value->Shared->Prop}
end
section
variable{X:Cx}{o e value:Expr}{f:Str}{pos pos' tpos:Pos}{ta tv:TE}
end
section
variable{X:Cx}{pins:List (Addr×Obj)}{σ:St}{H:Hp}{s:Shared}{A:Around}{E:Value->Shared->Prop}{Q:Value->Shared->Prop}{c:Value}{b:Bool}
inductive TyOf(K:PySem.W.Frag)(H:Hp):V->Value->Prop where
 |non:TyOf K H .non (.type "NoneType")
 |bl (x:Bool):TyOf K H (.bl x) (.type "bool")
 |int (i:Int):TyOf K H (.int i) (.type "int")
 |str (x:Str):TyOf K H (.str x) (.type "str")
 |flt (x:UInt64):TyOf K H (.flt x) (.type "float")
 |lst {a:Addr} {xs:List V} (e:H a=some (.lst xs)):TyOf K H (.ref a) (.type "list")
 |frz {a:Addr} {o:Obj} {xs:List V} (e:H a=some (.frz o (.lst xs))):TyOf K H (.ref a) (.type "list")
 |tup {a:Addr} {xs:List V} (e:H a=some (.tup xs)):TyOf K H (.ref a) (.type "tuple")
 |dK {a:Addr} {kvs:List (Key×V)} (e:H a=some (.dK kvs)):TyOf K H (.ref a) (.type "dict")
 |dT {a:Addr} {kvs:List (List Key×V)} (e:H a=some (.dT kvs)):TyOf K H (.ref a) (.type "dict")
 |ins {a C dx:Addr} {fs:List (Str×V)} (e:H a=some (.ins C dx fs)) (cl:Cls K C) (ha:PySem.W.findIn K (.ref C) "__class__" = some (some (.builtin "object.__class__")))
  (hn:PySem.W.specialIn K (.builtin "object.__class__") "__get__" = some (some (.builtin "getset_descriptor.__get__"))) (htk:PySem.W.takesIn K (.builtin "object.__class__")=some true)
  (hm:PySem.W.mroIn K C (.type "object")=some true):TyOf K H (.ref a) (.ref C)
theorem ZdR{x:V}{u t:Value}(I:Inv X pins σ H s)(rx:RelV x u)(ty:TyOf X.K H x t)(e:kitOne X.K t c=some b)(h:∀tk,Q (.bool b) { s with toks:=tk }) :
 wpAny (model X.prog X.w) A (call (.builtin "isinstance") [u,c]) Q E s:=by
 cases ty with
 |non=>cases(show u=Value.none from rx);exact PySem.W.kia_one PySem.W.kitx_none I.kIn True.intro e (λz=>nomatch z) h
 |bl y=>cases(show u=Value.bool y from rx);exact PySem.W.kia_one PySem.W.kitx_bool I.kIn True.intro e (λz=>nomatch z) h
 |int i=>obtain⟨t,q⟩:=(show ∃t,u=Value.int i t from rx);cases q;exact PySem.W.kia_one PySem.W.kitx_int I.kIn True.intro e (λz=>nomatch z) h
 |str y=>obtain⟨t,q⟩:=(show ∃t,u=Value.str y t from rx);cases q;exact PySem.W.kia_one PySem.W.kitx_str I.kIn True.intro e (λz=>nomatch z) h
 |flt y=>obtain⟨t,q⟩:=(show ∃t,u=Value.float y t from rx);cases q;exact PySem.W.kia_one PySem.W.kitx_float I.kIn True.intro e (λz=>nomatch z) h
 | @lst a xs ea=>
  cases(show u=Value.ref a from rx);obtain⟨_,_,n,_,h1⟩:=(show ObjOk X.prog X.w H s.heap a (.lst xs)from I.hok a _ ea)
  exact PySem.W.kia_one PySem.W.kitx_list I.kIn ⟨_,h1,rfl⟩ e (λz=>nomatch z) h
 | @frz a ob xs ea=>
  cases(show u=Value.ref a from rx);obtain⟨_,_,_,n,_,h1⟩:=(show ObjOk X.prog X.w H s.heap a (.frz ob (.lst xs))from I.hok a _ ea)
  exact PySem.W.kia_one PySem.W.kitx_list I.kIn ⟨_,h1,rfl⟩ e (λz=>nomatch z) h
 | @tup a xs ea=>
  cases(show u=Value.ref a from rx);obtain⟨_,_,_,p⟩:=(show ObjOk X.prog X.w H s.heap a (.tup xs)from I.hok a _ ea)
  obtain⟨o,h1,h2,_⟩:=p;exact PySem.W.kia_one PySem.W.kitx_tuple I.kIn ⟨o,h1,h2⟩ e (λz=>nomatch z) h
 | @dK a kvs ea=>
  cases(show u=Value.ref a from rx);obtain⟨_,_,vs,_,p⟩:=(show ObjOk X.prog X.w H s.heap a (.dK kvs)from I.hok a _ ea)
  obtain⟨o,es,ep,h1,h2,_⟩:=p;exact PySem.W.kia_one PySem.W.kitx_dict I.kIn ⟨o,h1,h2.1⟩ e (λz=>nomatch z) h
 | @dT a kvs ea=>
  cases(show u=Value.ref a from rx);obtain⟨_,_,xs,_,o,es,ep,h1,h2,_⟩:=(show ObjOk X.prog X.w H s.heap a (.dT kvs)from I.hok a _ ea)
  exact PySem.W.kia_one PySem.W.kitx_dict I.kIn ⟨o,h1,h2.1⟩ e (λz=>nomatch z) h
 | @ins a C dx fs ea cl ha hn htk hm=>
  cases(show u=Value.ref a from rx);obtain⟨mA,O,_⟩:=ZfV I.hok ea;obtain⟨od,J,_⟩:=O.look;exact PySem.W.kia_one (PySem.W.kitx_own (cl.get _) cl.hd ha hn htk hm) I.kIn J e (λz=>nomatch z) h
end
end L2
namespace L2
open PySem PySem.Spec PyProof.Rows
structure Room(k:Nat)(A:Around):Prop where
 hd:A.handled=none
 dp:A.depth+3*k+5<recursionLimit
 un:A.units+16*k+200<cLine
theorem Room.mono{j k:Nat}{A:Around}(r:Room k A)(h:j<=k):Room j A:=⟨r.hd,by have:=r.dp;omega,by have:=r.un;omega⟩
theorem Room.deeper{k:Nat}{A:Around}(r:Room (k+1) A)(env:Env):Room k (A.deeper env):=
 ⟨r.hd,by have:=r.dp;show A.depth+1+3*k+5<_;omega,by have:=r.un;show A.units+3+16*k+200<_;omega⟩
theorem Room.depth{k:Nat}{A:Around}(r:Room k A):A.depth<recursionLimit:=by have:=r.dp;omega
theorem Room.units{k:Nat}{A:Around}(r:Room k A):A.units+64<cLine:=by have:=r.un;omega
def tNil:TA:=λ_ H Q=>Q [] H
def Yj(ta:TE)(tr:TA):TA:=λσ H Q=>ta σ H λx H1=>tr σ H1 λxs H2=>Q (x::xs) H2
section
variable{X:Cx}{e:Expr}{es:List Expr}{te:TE}{t:TA}{pos:Pos}
theorem Zk:PA X [] tNil:=λ_ _ _ _ H Q I h=>Calls.spliced_nil ⟨[],H,I,.nil,h⟩
theorem Zd(ha:PE X e te)(hr:PA X es t)(hs:starEach (e::es) X.env=(false,eval e X.env)::starEach es X.env:=by rfl):PA X (e::es) (Yj te t):=by
 intro pos pins s σ H Q I h;rw [hs];show wpAny _ _ (spliced ((false,eval e X.env)::backTo pos (starEach es X.env))) _ _ s;refine Calls.spliced_cons (thn (ha pins s σ H _ I h) λu s1 ⟨x,H1,I1,r1,q1⟩ => ?_);exact thn (hr pos pins s1 σ H1 _ I1 q1) λus s2 ⟨xs,H2,I2,r2,q2⟩=>⟨x::xs,H2,I2,.cons r1 r2,q2⟩
def Qt(t:TA):TE:=λσ H Q=>t σ H λxs H1=>xs.length<=sizeLine/\∀p,H1 p=none->Q (.ref p) (upd H1 p (.tup xs))
def Js(t:TA):TE:=λσ H Q=>t σ H λxs H1=>xs.length<=sizeLine/\∀p,H1 p=none->Q (.ref p) (upd H1 p (.lst xs))
theorem US{x1}(h:PA X es t):PE X (.Tuple es x1 pos) (Qt t):=by
 intro pins s σ H Q I hq;refine wpAny_Tuple_spliced (thn (h pos pins s σ H _ I hq) λus s1 ⟨xs,H1,I1,r,z,q⟩=>⟨by rw [<-r.length];exact z,?_⟩);have hf:H1 s1.heap.objs.size=none:=I1.hok.fresh (Nat.le_refl _);refine⟨.ref s1.heap.objs.size,upd H1 s1.heap.objs.size (.tup xs),I1.laid (t':=s1.toks) (λb u e=>Heap.get?_push_of_some _ e) (Nat.le_refl _) ?_,rfl,q _ hf⟩;exact⟨z,us,r,⟨_,Heap.get?_push_size _ rfl,rfl,⟨_,rfl⟩,rfl⟩⟩
theorem Ys(h:PA X es t):PE X (.List es pos) (Js t):=by
 intro pins s σ H Q I hq;refine wpAny_List_spliced (thn (h pos pins s σ H _ I hq) λus s1 ⟨xs,H1,I1,r,z,q⟩=>⟨by rw [<-r.length];exact z,?_⟩);have hf:H1 s1.heap.objs.size=none:=I1.hok.fresh (Nat.le_refl _);refine⟨.ref s1.heap.objs.size,upd H1 s1.heap.objs.size (.lst xs),I1.laid (t':=s1.toks) (λb u e=>Heap.get?_push_of_some _ e) (Nat.le_refl _) ?_,rfl,q _ hf⟩;exact⟨z,us,0,r,Heap.get?_push_size _ rfl⟩
end
abbrev Sp:=List V->Hp->VK->XK->Prop
abbrev CXT:=List Env->Hp->Shared->XK->Value->Shared->Prop
structure Env0(P:Program)(w:World)(K:PySem.W.Frag)(mg:Str->Option Value)(base:Heap)(A:Around)(outer:List Env)(s:Shared)(H:Hp):Prop where
 frames:A.frames=some outer
 mod:Mod K mg base
 bs:∀b o,base.get? b=some o->s.heap.get? b=some o/\H b=none
 bsz:base.objs.size<=s.heap.objs.size
 funs:s.heap.FunFrames base outer
 frf:∀b∈frs outer,H b=none
 hok:HOk P w H s.heap
 bare:AllBare s.gens
def CE(outer:List Env)(P:Program)(w:World)(H:Hp)(s:Shared)(Q:VK)(u:Value)(s':Shared):Prop:=
 ∃v H',s'.os=s.os/\AllBare s'.gens/\Un (frs outer) [] H H' s.heap s'.heap/\HOk P w H' s'.heap/\RelV v u/\Q v H'
def CR(CX:CXT)(outer:List Env)(P:Program)(w:World)(H:Hp)(s:Shared)(Q:VK)(E:XK)(r:Result)(s':Shared):Prop:=
 match r with
 | .ok (.ret u)=>CE outer P w H s Q u s'
 | .ok _=>False
 | .error e=>CX outer H s E e s'
structure FnOk(P:Program)(w:World)(K:PySem.W.Frag)(mg:Str->Option Value)(base:Heap)(CX:CXT)(k:Nat)(f:Addr)(fd:FuncData)(ps:List Str)(sp:Sp):Prop where
 len:∀vs H Q E,sp vs H Q E->vs.length=ps.length
 run:∀(A:Around)(outer:List Env)(s:Shared)(H:Hp)(args:Args)(us:List Value)(vs:List V)(Q:VK)(E:XK),Room k A->Env0 P w K mg base A outer s H->BindsTo s fd args (ps.zip us)->Vals vs us->sp vs H Q E ->
  codeAny (model P w) A (.call (.ref f) args) (CR CX outer P w H s Q E) s
theorem FnOk.mono{P:Program}{w:World}{K:PySem.W.Frag}{mg:Str->Option Value}{base:Heap}{CX:CXT}{j k:Nat}{f:Addr}{fd:FuncData}{ps:List Str}{sp:Sp}(F:FnOk P w K mg base CX j f fd ps sp)(h:j<=k) :
 FnOk P w K mg base CX k f fd ps sp:=⟨F.len,λA outer s H args us vs Q E hr=>F.run A outer s H args us vs Q E (hr.mono h)⟩
theorem FnOk.imp {P:Program} {w:World} {K:PySem.W.Frag} {mg:Str->Option Value} {base:Heap} {CX:CXT} {k:Nat} {f:Addr} {fd:FuncData} {ps:List Str} {sp sp':Sp} (F:FnOk P w K mg base CX k f fd ps sp)
 (h:∀vs H Q E,sp' vs H Q E->sp vs H Q E):FnOk P w K mg base CX k f fd ps sp':=
 ⟨λvs H Q E q=>F.len vs H Q E (h _ _ _ _ q),λA outer s H args us vs Q E hr he hb hv hs=>F.run A outer s H args us vs Q E hr he hb hv (h _ _ _ _ hs)⟩
section
variable{X:Cx}{pins:List (Addr×Obj)}{σ:St}{H:Hp}{s s':Shared}
theorem Inv.env0(I:Inv X pins σ H s):Env0 X.prog X.w X.K X.mg X.base X.A X.stack s H:=
 ⟨I.ok.frames,I.ok.mod,I.bs,Nat.le_trans I.ok.bsz I.sz,I.stack,I.stkFree,I.hok,I.bare⟩
theorem Inv.after{Q:VK}{u:Value}(I:Inv X pins σ H s)(h:CE X.stack X.prog X.w H s Q u s'):EP X pins σ Q u s':=by
 obtain⟨v,H',os,bare,un,hok,r,q⟩:=h;obtain⟨hh,g,d,t,os'⟩:=s';obtain rfl:os'=s.os:=os;exact⟨v,H',I.call (h':=hh) (g':=g) (d':=d) (t':=t) (ch:=[]) un hok bare (λb z=>absurd z (by simp)),r,q⟩
end
def Uw(sp:Sp)(dvs:List V)(E:XK)(t:TA):TE:=λσ H Q=>t σ H λvs H1=>sp (vs++dvs) H1 Q E
def Binds(K:PySem.W.Frag)(fd:FuncData)(ps:List Str)(ds:List Value):Prop:=
 ∀(s:Shared)(us:List Value),K.In s.heap->(us++ds).length=ps.length->BindsTo s fd ⟨us,[]⟩ (ps.zip (us++ds))
theorem Binds.all{K:PySem.W.Frag}{fd:FuncData}{ps:List Str}(h:∀us:List Value,us.length=ps.length->bindArgs fd ⟨us,[]⟩=pure (ps.zip us)):Binds K fd ps []:=λs us _ hl=>by
 rw [List.append_nil]at hl ⊢;exact .of_eq (h us hl)
def ZcY(CX:CXT)(X:Cx)(E:XK):Prop:=∀(pins:List (Addr×Obj))(σ:St)(H:Hp)(s:Shared)(e:Value)(s':Shared),Inv X pins σ H s->CX X.stack H s E e s'->X.xe e s'
section
variable{X:Cx}{CX:CXT}{k:Nat}{f C:Addr}{fd:FuncData}{ps:List Str}{sp:Sp}{dvs:List V}{ds:List Value}{E:XK}{x m:Str}{p pos apos:Pos}{e o:Expr}{es:List Expr}{ta:TE}{t:TA}
theorem Zhd {pins:List (Addr×Obj)} {σ:St} {H:Hp} {s:Shared} {Q:VK} {us:List Value} {vs:List V} (F:FnOk X.prog X.w X.K X.mg X.base CX k f fd ps sp) (hr:Room k X.A) (hb:Binds X.K fd ps ds) (hd:Vals dvs ds) (hx:ZcY CX X E)
 (I:Inv X pins σ H s) (r:Vals vs us) (h:sp (vs++dvs) H Q E):wpAny (model X.prog X.w) X.A (call (.ref f) us) (EP X pins σ Q) X.xe s:=by
 have r2:Vals (vs++dvs) (us++ds):=r.append hd;have hl:(us++ds).length=ps.length:=by rw [<-r2.length];exact F.len _ _ _ _ h
 refine wpAny_call (codeAny_mono (F.run X.A X.stack s H ⟨us,[]⟩ (us++ds) (vs++dvs) Q E hr I.env0 (hb s us I.kIn hl) r2 h) λr s' hq => ?_);cases r with
 |error e=>exact hx pins σ H s e s' I hq
 |ok fl=>
  cases fl with
  |ret u=>exact I.after hq
  |next=>exact False.elim hq
  |brk=>exact False.elim hq
  |cont=>exact False.elim hq
theorem ZJ (F:FnOk X.prog X.w X.K X.mg X.base CX k f fd ps sp) (hr:Room k X.A) (hg:Gl X x) (hm:X.mg x=some (.ref f)) (hk:keepIn X.K (.ref f)=true) (hb:Binds X.K fd ps ds) (hd:Vals dvs ds) (hx:ZcY CX X E)
 (ha:PA X (e::es) t) (hdb:(x == ("__debug__" : Str))=false:=by decide) (he:starEach (e::es) X.env=(false,eval e X.env)::starEach es X.env:=by rfl) (hpl:(backTo pos (starEach es X.env)).any (·.1)=false:=by rfl) :
 PE X (.Call (.Name x p) (e::es) [] pos) (Uw sp dvs E t):=by
 intro pins s σ H Q I h;refine wpAny_Call_Name_kw (ZfT I hg hm ?_ hdb);refine PySem.W.callWith_K (h₀:=X.base) I.ok.mod.kin hk (thn (ha pos pins s σ H _ I h) λus s1 ⟨vs,H1,I1,r,q⟩=>⟨I1.kIn,?_⟩) he hpl;exact Zhd F hr hb hd hx I1 r q
structure Mk(K:PySem.W.Frag)(C f:Addr):Prop where
 makes:PySem.W.makesIn K C=true
 init:PySem.W.findIn K (.ref C) "__init__" = some (some (.ref f))
 fn:isFn K (.ref f)=true
 kp:keepIn K (.ref C)=true
end
section
variable{X:Cx}{CX:CXT}{k:Nat}{f C:Addr}{fd:FuncData}{ps ks:List Str}{sp:Sp}{E:XK}{x m:Str}{p pos apos kpos:Pos}{e o:Expr}{es:List Expr}{kws:List Keyword}{te ta:TE}{t tk:TA}{nm:Option Str}
structure KBinds(K:PySem.W.Frag)(fd:FuncData)(ps ks:List Str)(g:List Value->List Value->List Value)(gV:List V->List V->List V):Prop where
 to:∀(s:Shared)(us ws:List Value),K.In s.heap->(g us ws).length=ps.length->BindsTo s fd ⟨us,ks.zip ws⟩ (ps.zip (g us ws))
 rel:∀{vs:List V}{us:List Value}{zs:List V}{ws:List Value},Vals vs us->Vals zs ws->Vals (gV vs zs) (g us ws)
variable{g:List Value->List Value->List Value}{gV:List V->List V->List V}
end
structure FnScope(N P:List Str)(sc:Scope):Prop where
 kind:sc.kind = .function
 co:sc.isCoroutine=false
 gen:sc.isGenerator=false
 nd:N.Nodup
 pre:N.take P.length=P
 par:∀x∈P,sc.names.lookup x=some .local\/sc.names.lookup x=some .cell
 nofree:∀y∈sc.names,y.2 ≠ .free
theorem Za6{kindOf:Str->Option NameKind}{x:Str}:∀{binds:List (Str×Value)}{m:Str->Option Value},(∀v,(x,v)∉binds)->bindL kindOf binds m x=m x
 | [],_,_=>rfl
 |(n,v)::r,m,h=>by
  unfold bindL;rw [Za6 λw hw=>h w (List.mem_cons_of_mem _ hw)]
  split
  · have:x≠n:=by rintro rfl;exact h v List.mem_cons_self
    simp [this]
  · rfl
theorem Za7{kindOf:Str->Option NameKind}{x:Str}:∀{binds:List (Str×Value)}{m:Str->Option Value},(∀v,(x,v)∉binds)->bindC kindOf binds m x=m x
 | [],_,_=>rfl
 |(n,v)::r,m,h=>by
  unfold bindC;rw [Za7 λw hw=>h w (List.mem_cons_of_mem _ hw)]
  split
  · rfl
  · have:x≠n:=by rintro rfl;exact h v List.mem_cons_self
    simp [this]
theorem Za8{kindOf:Str->Option NameKind}{x:Str}{v:Value}:∀{P:List Str}{vs:List Value}{i:Nat}{m:Str->Option Value},P.Nodup->P[i]? = some x->vs[i]? = some v->kindOf x=some .local ->
 bindL kindOf (P.zip vs) m x=some v
 | [],_,_,_,_,h,_,_=>by simp at h
 |_::_,[],_,_,_,_,h,_=>by simp at h
 |p::P,w::vs,0,m,nd,h1,h2,hk=>by
  simp at h1 h2;subst h1;subst h2;show bindL kindOf ((p,w)::P.zip vs) m p=_;unfold bindL;rw [Za6 λv hv=>(List.nodup_cons.mp nd).1 (List.of_mem_zip hv).1,if_pos hk];simp
 |p::P,w::vs,i+1,m,nd,h1,h2,hk=>by
  show bindL kindOf ((p,w)::P.zip vs) m x=_;unfold bindL;exact Za8 (i:=i) (List.nodup_cons.mp nd).2 (by simpa using h1) (by simpa using h2) hk
theorem Za9{kindOf:Str->Option NameKind}{x:Str}{v:Value}:∀{P:List Str}{vs:List Value}{i:Nat}{m:Str->Option Value},P.Nodup->P[i]? = some x->vs[i]? = some v->kindOf x≠some .local ->
 bindC kindOf (P.zip vs) m x=some v
 | [],_,_,_,_,h,_,_=>by simp at h
 |_::_,[],_,_,_,_,h,_=>by simp at h
 |p::P,w::vs,0,m,nd,h1,h2,hk=>by
  simp at h1 h2;subst h1;subst h2;show bindC kindOf ((p,w)::P.zip vs) m p=_;unfold bindC;rw [Za7 λv hv=>(List.nodup_cons.mp nd).1 (List.of_mem_zip hv).1,if_neg hk];simp
 |p::P,w::vs,i+1,m,nd,h1,h2,hk=>by
  show bindC kindOf ((p,w)::P.zip vs) m x=_;unfold bindC;exact Za9 (i:=i) (List.nodup_cons.mp nd).2 (by simpa using h1) (by simpa using h2) hk
def start(N:List Str)(vs:List V):St:=vs.map some++List.replicate (N.length-vs.length) none
def Xa(CX:CXT)(P:Program)(w:World)(K:PySem.W.Frag)(mg:Str->Option Value)(base:Heap)(N:List Str)(qual:Str)(scope:Scope)(f:Addr)(cd:Value)(A:Around)(outer:List Env)(s:Shared)(H:Hp)(E:XK):Cx where
 prog:=P
 w:=w
 K:=K
 mg:=mg
 base:=base
 A:=A.deeper (envOfC qual scope s.heap.objs.size f cd)
 N:=N
 s₀:=s
 H₀:=H
 env:=envOfC qual scope s.heap.objs.size f cd
 outer:=outer
 stack:=envOfC qual scope s.heap.objs.size f cd::outer
 ex:=[]
 calm:=true
 fn:=λ_=>true
 pn:=[]
 xe:=λe s'=>wpAny (model P w) (A.deeper (envOfC qual scope s.heap.objs.size f cd)) (leaving (envOfC qual scope s.heap.objs.size f cd) e) (λ_ s''=>CX outer H s E e s'') (λe' s''=>CX outer H s E e' s'') s'
theorem Zb4{sc:Scope}{n:Nat}{x:Str}(h:sc.names.lookup x=some .cell):∃c,(cellsFrom n sc.names []).lookup x=some c:=by
 have q:=PySem.W.cellsFrom_some sc.names n [] (.inl h);exact Option.isSome_iff_exists.mp q
theorem ZdS {CX:CXT} {P:Program} {w:World} {K:PySem.W.Frag} {mg:Str->Option Value} {base:Heap} {N ps:List Str} {qual:Str} {scope:Scope} {f:Addr} {cd:Value} {A:Around} {outer:List Env} {s s1:Shared} {H:Hp} {E:XK} {us:List Value} {vs:List V}
 (S:FnScope N ps scope) (hd:A.handled=none) (e0:Env0 P w K mg base A outer s H) (hl:vs.length=ps.length) (r:Vals vs us)
 (x:InCallC s s.heap.objs.size (bindL (envOfC qual scope s.heap.objs.size f cd).kindOf (ps.zip us) λ_=>none) (cellsFrom (s.heap.objs.size+1) scope.names []) (bindC (envOfC qual scope s.heap.objs.size f cd).kindOf (ps.zip us) λ_=>none) s1) :
 Inv (Xa CX P w K mg base N qual scope f cd A outer s H E) [] (start N vs) H s1:=by
 have hpl:ps.length<=N.length:=by have:=congrArg List.length S.pre;rw [List.length_take]at this;omega
 obtain⟨h1,tk,rfl,hk⟩:=x.done;have noA:∀b:Addr,b∉(Xa CX P w K mg base N qual scope f cd A outer s H E).ex:=λb z=>absurd (show b∈([]:List Addr)from z) (by simp)
 refine⟨⟨e0.mod,S.kind,rfl,rfl,Nat.le_refl _,λy z c h1 h2 => ?_,λy hy => ?_,λy c _ h => ?_,λ_=>hd,Around.frames_deeper e0.frames,.inr ⟨rfl,rfl⟩,λb z=>absurd z (noA b),e0.bs,e0.bsz,λb _ _=>noA b,λb z=>absurd z (noA b),e0.funs,e0.frf⟩,
  rfl,e0.bare,Un.kept hk,⟨_,x.toInCall.ns,λi y v h1 h2 h3 => ?_⟩,λy c h=>⟨_,x.cell y c h⟩,e0.hok.fresh (Nat.le_refl _),λy c h => ?_,λp hp=>absurd (show p∈([]:List (Addr×Obj))from hp) (by simp),e0.hok.kept hk,?_⟩
 · exact name_of_addr x.apart (PySem.mem_of_lookup h1) (PySem.mem_of_lookup h2)
 · have hy:scope.names.lookup y=some .cell\/scope.names.lookup y=some .free:=hy
   rcases hy with hy|hy
   · exact Zb4 hy
   · exact absurd rfl (S.nofree _ (PySem.mem_of_lookup hy))
 · exact Nat.le_of_lt (x.above y c (PySem.mem_of_lookup h))
 · have hi : i < vs.length := by
    unfold start at h2
    by_cases hi:i<vs.length
    · exact hi
    · rw [List.getElem?_append_right (by simpa using hi)]at h2
      rw [List.getElem?_replicate]at h2
      split at h2<;>cases h2
   have ha:vs[i]? = some v:=by
    unfold start at h2;rw [List.getElem?_append_left (by simpa using hi),List.getElem?_map]at h2;cases e:vs[i]? with
    |none=>rw [e]at h2;cases h2
    |some a=>rw [e]at h2;cases h2;rfl
   obtain⟨u,hu,rv⟩:=r.get ha
   have hp:ps[i]? = some y:=by
    rw [<-S.pre,List.getElem?_take_of_lt (by omega)];exact h1
   have ndP:ps.Nodup:=by rw [<-S.pre];exact S.nd.sublist (List.take_sublist _ _)
   refine⟨u,rv,?_⟩;rcases S.par y (List.mem_of_getElem? hp)with k|k
   · exact .inl ⟨k,Za8 ndP hp hu k⟩
   · obtain⟨c,e⟩:=Zb4 (n:=s.heap.objs.size+1) k
     refine .inr ⟨.inl k,c,e,?_⟩;have q:=x.cell y c e;rw [Za9 ndP hp hu (by show scope.names.lookup y≠_;rw [k];decide)]at q;exact q
 · exact e0.hok.fresh (Nat.le_of_lt (x.above y c (PySem.mem_of_lookup h)))
 · unfold start
   show _=N.length;rw [List.length_append,List.length_map,List.length_replicate];omega
theorem ZgP {CX:CXT} {P:Program} {w:World} {K:PySem.W.Frag} {mg:Str->Option Value} {base:Heap} {k:Nat} {f:Addr} {name qual:Str} {params:Arguments} {body:List Stmt} {scope:Scope} {dV kV doc pm cdv ct oc:Value} {an od:Option Addr}
 {osl:Array (Option Value)} {N ps:List Str} {sp:Sp} (lk:K.lookup f=some ⟨oc,od,.func (fnOf name qual params body scope dV kV doc pm an cdv ct),osl⟩) (hcd:codeIn K cdv qual=true) (S:FnScope N ps scope)
 (len:∀vs H Q E,sp vs H Q E->vs.length=ps.length)
 (hbody:∀(A:Around)(outer:List Env)(s:Shared)(H:Hp)(vs:List V)(Q:VK)(E:XK),Room k (A.deeper (envOfC qual scope s.heap.objs.size f cdv))->sp vs H Q E ->
   ∃t,PSs (Xa CX P w K mg base N qual scope f cdv A outer s H E) body t/\t { nx:=λ_ H'=>Q .non H',rt:=Q } (start N vs) H) :
 FnOk P w K mg base CX (k+1) f (fnOf name qual params body scope dV kV doc pm an cdv ct) ps sp:=by
 refine⟨len,λA outer s H args us vs Q E hr e0 hb r hsp => ?_⟩;have hl:=len _ _ _ _ hsp;have KX:K.In s.heap:=e0.mod.kin.keeps λb o e=>(e0.bs b o e).1
 have lim:s.heap.NoLimit:=e0.mod.nolimit.keeps λb o e=>(e0.bs b o e).1
 have hkind:∀y∈ps.zip us,scope.names.lookup y.1=some .local\/(scope.names.lookup y.1=some .cell/\((cellsFrom (s.heap.objs.size+1) scope.names []).lookup y.1).isSome=true):=λ⟨n,v⟩ hy=>by
  rcases S.par n (List.of_mem_zip hy).1 with q|q
  · exact .inl q
  · exact .inr ⟨q,PySem.W.cellsFrom_some _ _ _ (.inl q)⟩
 refine codeAny_call_function hr.depth (KX _ _ lk) rfl S.co S.gen rfl (PySem.W.codeRec_of KX hcd) (hb _ _ _ _ ?_);refine wpAny_newFunctionEnv_cells S.kind hkind λenv he s1 x => ?_
 subst he;refine⟨lim.keeps x.toInCall.keep,codeAny_func ?_⟩;obtain⟨t,ht,hq⟩:=hbody A outer s H vs Q E (hr.deeper _) hsp;have I:Inv (Xa CX P w K mg base N qual scope f cdv A outer s H E) [] (start N vs) H s1:=ZdS S hr.hd e0 hl r x;refine wpAny_mono (ht [] s1 (start N vs) H _ I hq) (λfl s' hs => ?_) λe s' hs=>hs
 have fin:∀{σ':St}{H':Hp}{v:V}{u:Value},Inv (Xa CX P w K mg base N qual scope f cdv A outer s H E) [] σ' H' s'->RelV v u->Q v H'->CE outer P w H s Q u s':=
  λ{σ' H' v u} J rv q=>⟨v,H',J.os,J.bare,J.base,J.hok,rv,q⟩
 cases fl with
 |ret u=>
  obtain⟨v,σ',H',J,rv,q⟩:=hs;exact fin J rv q
 |next=>
  obtain⟨σ',H',J,q⟩:=hs;exact fin (v:=V.non) (u:=Value.none) J rfl q
 |brk=>
  obtain⟨_,_,_,q⟩:=hs;exact False.elim q
 |cont=>
  obtain⟨_,_,_,q⟩:=hs;exact False.elim q
end L2
namespace L2
open PySem PySem.Spec PyProof.Rows
section
variable{X:Cx}{x:Str}{p pos:Pos}{e:Expr}{es:List Expr}{t:TA}{id T:String}{r:List V->Hp->VK->Prop}
def tCB(r:List V->Hp->VK->Prop)(t:TA):TE:=λσ H Q=>t σ H λvs H1=>r vs H1 Q
theorem ZK (hc:Yt X (.builtin id) r) (hg:Gl X x) (hm:X.mg x=none) (hv:bootBuiltins x=some (.builtin id)) (ha:PA X (e::es) t) (hn:x ≠ "__name__" := by decide) (hdb:(x == ("__debug__" : Str))=false:=by decide)
 (he:starEach (e::es) X.env=(false,eval e X.env)::starEach es X.env:=by rfl) (hpl:(backTo pos (starEach es X.env)).any (·.1)=false:=by rfl):PE X (.Call (.Name x p) (e::es) [] pos) (tCB r t):=by
 intro pins s σ H Q I h;refine wpAny_Call_Name_kw (XC I hg hm hv ?_ hn hdb);exact PyProof.Rows.callWith_builtin1 (thn (ha pos pins s σ H _ I h) λus s1 ⟨vs,H1,I1,r1,q1⟩=>hc pins s1 σ H1 vs us Q I1 r1 q1) he hpl
theorem Qu (hc:Yt X (.type T) r) (hg:Gl X x) (hm:X.mg x=none) (hv:bootBuiltins x=some (.type T)) (ha:PA X (e::es) t) (hn:x ≠ "__name__" := by decide) (hdb:(x == ("__debug__" : Str))=false:=by decide)
 (he:starEach (e::es) X.env=(false,eval e X.env)::starEach es X.env:=by rfl) (hpl:(backTo pos (starEach es X.env)).any (·.1)=false:=by rfl):PE X (.Call (.Name x p) (e::es) [] pos) (tCB r t):=by
 intro pins s σ H Q I h;refine wpAny_Call_Name_kw (XC I hg hm hv ?_ hn hdb);exact PyProof.Rows.callWith_type1 (thn (ha pos pins s σ H _ I h) λus s1 ⟨vs,H1,I1,r1,q1⟩=>hc pins s1 σ H1 vs us Q I1 r1 q1) he hpl
end
end L2
namespace HT
open PySem PyProof.Rows
section
open PySem.SeqAt
open PySem.AutoSeq1 (wpAny_loadPart')
open PySem.MeetsSeq PySem.MeetsSeq2 PySem.MeetsSeq3
end
section
variable{prog:Program}{w:World}{A:Around}{E:Value->Shared->Prop}{s:Shared}
def sIx(n d:Nat):Option Int->Nat
 |none=>d
 |some v=>if v<0 then(v+(n:Int)).toNat else min v.toNat n
theorem Zhe(n d:Nat)(hd:d<=n)(o:Option Int):sIx n d o<=n:=by
 cases o with
 |none=>exact hd
 |some v=>
  show(if v<0 then(v+(n:Int)).toNat else min v.toNat n)<=n
  by_cases hv:v<0
  · rw [if_pos hv];omega
  · rw [if_neg hv];exact Nat.min_le_right _ _
theorem Zdf(v:Int)(n d:Nat):(if v<0 then max (v+(n:Int)) 0 else min v (n:Int))=((sIx n d (some v):Nat):Int):=by
 show(if v<0 then max (v+(n:Int)) 0 else min v (n:Int))=(((if v<0 then(v+(n:Int)).toNat else min v.toNat n):Nat):Int)
 by_cases hv:v<0
 · simp only [if_pos hv];omega
 · simp only [if_neg hv];omega
theorem ZcA(lo hi:Option Int)(n:Nat):Builtin.Slice.sliceAdjust lo hi 1 (n:Int)=(((sIx n 0 lo:Nat):Int),((sIx n n hi:Nat):Int)):=by
 have h1:¬((1:Int)<0):=by omega
 unfold Builtin.Slice.sliceAdjust;simp only [h1,if_false];refine Prod.ext ?_ ?_
 · cases lo with
   |none=>rfl
   |some v=>exact Zdf v n 0
 · cases hi with
   |none=>rfl
   |some v=>exact Zdf v n n
theorem ZcB(i j:Nat):Builtin.Slice.slicePlaces (i:Int) (j:Int) 1=j-i:=by
 unfold Builtin.Slice.slicePlaces;have h1:(1:Int)>0:=by omega
 simp only [h1,if_true,Int.ediv_one]
 split<;>omega
theorem ZaH{v:Value}{o:Option Int}{Q:Option Int->Shared->Prop}(p:IsPart v o)(h:Q o s):wpAny (model prog w) A (Builtin.Slice.slicePartIndex v) Q E s:=by
 cases p with
 |none=>exact slicePart_none h
 |int i t=>exact slicePart_int h
theorem Zan {sl:Addr} {vl vu:Value} {lo hi:Option Int} {n:Nat} {Q:Int×Int×Nat->Shared->Prop} (hs:s.heap.IsSliceOf sl vl vu .none) (pl:IsPart vl lo) (pu:IsPart vu hi)
 (h:Q (((sIx n 0 lo:Nat):Int),1,sIx n n hi-sIx n 0 lo) s):wpAny (model prog w) A (Builtin.Slice.sliceApplied (.ref sl) (pure (n:Int))) Q E s:=by
 obtain⟨os,hos,hcs,hds⟩:=id hs;unfold Builtin.Slice.sliceApplied Builtin.Slice.sliceFields;refine wpAny_bind (wpAny_bind (wpAny_field hos hds (x:=vl) rfl (wpAny_bind (wpAny_field hos hds (x:=vu) rfl (wpAny_bind (wpAny_field hos hds (x:=.none) rfl (wpAny_pure ?_)))))));refine wpAny_bind (slicePart_none ?_);show wpAny _ _ (if((1:Int) == 0)=true then _ else _) _ _ s;rw [if_neg (by decide)]
 refine wpAny_bind (ZaH pl (wpAny_bind (ZaH pu (wpAny_bind (wpAny_pure ?_)))));show wpAny _ _ (match Builtin.Slice.sliceAdjust lo hi 1 (n:Int)with|(lo,hi)=>pure (lo,(1:Int),Builtin.Slice.slicePlaces lo hi 1)) _ _ s;rw [ZcA lo hi n];show wpAny _ _ (pure (((sIx n 0 lo:Nat):Int),(1:Int),Builtin.Slice.slicePlaces ((sIx n 0 lo:Nat):Int) ((sIx n n hi:Nat):Int) 1)) _ _ s;rw [ZcB]
 exact wpAny_pure h
theorem Zer(xs:Array Value)(i k:Nat):((List.range k).filterMap λ(m:Nat)=>xs[((i:Int)+(m:Int)*1).toNat]?).toArray=((xs.toList.drop i).take k).toArray:=by
 have e:(λ(m:Nat)=>xs[((i:Int)+(m:Int)*1).toNat]?)=λm=>xs[i+m]? := by
  funext m
  have:((i:Int)+(m:Int)*1).toNat=i+m:=by omega
  rw [this]
 rw [e];have:=pick_run xs i k;rw [List.filterMap_map]at this;have e2:((λx=>xs[x]?)∘λx=>i+x)=λm=>xs[i+m]? := rfl
 rw [e2]at this;rw [this]
theorem getItem_tuple_cut {t sl:Addr} {items:Array Value} {vl vu:Value} {lo hi:Option Int} {Q:Value->Shared->Prop} (ht:IsTup s.heap t items) (hs:s.heap.IsSliceOf sl vl vu .none) (pl:IsPart vl lo) (pu:IsPart vu hi)
 (hw:¬(sIx items.size 0 lo=0/\sIx items.size items.size hi=items.size))
 (h:Q (.ref s.heap.objs.size) { s with heap:=s.heap.push { cls := .type "tuple",data := .seq ((items.toList.drop (sIx items.size 0 lo)).take (sIx items.size items.size hi-sIx items.size 0 lo)).toArray } })
 (hsz:items.size<=sizeLine):wpAny (model prog w) A (getItem (.ref t) (.ref sl)) Q E s:=by
 have htake:sizeOk (.seq ((items.toList.drop (sIx items.size 0 lo)).take (sIx items.size items.size hi-sIx items.size 0 lo)).toArray):=by
  show((items.toList.drop (sIx items.size 0 lo)).take (sIx items.size items.size hi-sIx items.size 0 lo)).toArray.size<=sizeLine;rw [List.size_toArray,List.length_take,List.length_drop,Array.length_toList];omega
 have hj:sIx items.size items.size hi<=items.size:=Zhe _ _ (Nat.le_refl _) hi;obtain⟨os,hos,hcs,hds⟩:=id hs;have hTs:s.TypeIs (.ref sl) "slice" := ⟨os,hos,hcs⟩
 unfold getItem
 try with_reducible refine wpAny_holding ?_
 first|refine wpAny_bind (wpAny_pure ?_)|skip
 refine wpAny_bind (wpAny_sequenceKey ht.typeIs (by decide) ?_)
 refine wpAny_bind (wpAny_callSpecial?_slot (name:=Str.ofString "__getitem__") ht.typeIs PyProof.Rows.slot_tuple_getitem
  (wpAny_call_entry PyProof.Rows.slot_tuple_getitem ht.typeIs entry_tuple_getitem ?_ (args_tuple_getitem _ _)))
 show wpAny _ _ (Builtin.Tuple.tupleItemsOf (.ref t) >>= _) _ _ s;refine wpAny_bind (tupleItemsOf_ ht ?_);refine wpAny_bind (wpAny_typeOf hTs ?_);rw [if_pos (by decide)];refine wpAny_bind (Zan hs pl pu ?_)
 have hno:¬((((sIx items.size 0 lo:Nat):Int) == 0&&(1:Int) == 1&&(sIx items.size items.size hi-sIx items.size 0 lo) == items.size)=true):=by
  intro q;rw [Bool.and_eq_true,Bool.and_eq_true]at q;have q1:((sIx items.size 0 lo:Nat):Int)=0:=eq_of_beq q.1.1;have q2:sIx items.size items.size hi-sIx items.size 0 lo=items.size:=eq_of_beq q.2;exact hw ⟨by omega,by omega⟩
 show wpAny _ _ (if(((sIx items.size 0 lo:Nat):Int) == 0&&(1:Int) == 1&&(sIx items.size items.size hi-sIx items.size 0 lo) == items.size)=true then _ else _) _ _ s;rw [if_neg hno,Zer]
 first
  |exact wpAny_bind (m:=Builtin.Tuple.tupleExact _) (wpAny_newObj_type (wpAny_pure ⟨_,rfl,wpAny_pure h⟩) htake)
  |exact wpAny_bind (m:=Builtin.Tuple.tupleExact _) (wpAny_newObj_type (wpAny_bind (wpAny_pure (wpAny_pure ⟨_,rfl,wpAny_pure h⟩))) htake)
  |exact wpAny_bind (wpAny_bind (m:=Builtin.Tuple.tupleExact _) (wpAny_newObj_type (wpAny_pure (wpAny_pure ⟨_,rfl,wpAny_pure h⟩)) htake))
  |exact wpAny_bind (wpAny_bind (m:=Builtin.Tuple.tupleExact _) (wpAny_newObj_type (wpAny_pure ⟨_,rfl,wpAny_pure h⟩) htake))
end
end HT
namespace L2
open PySem PySem.Spec PyProof.Rows
abbrev TO:=St->Hp->(Option Int->Hp->Prop)->Prop
def PO(X:Cx)(e:Option Expr)(t:TO):Prop:=
 ∀(pins:List (Addr×Obj))(s:Shared)(σ:St)(H:Hp)(Q:Option Int->Hp->Prop),Inv X pins σ H s->t σ H Q ->
  wpAny (model X.prog X.w) X.A (evalPart e X.env) (λu s'=>∃o H',Inv X pins σ H' s'/\IsPart u o/\Q o H') X.xe s
def tNoPart:TO:=λ_ H Q=>Q none H
def ZgQ(t:TE):TO:=λσ H Q=>t σ H λx H1=>∃i,x = .int i/\Q (some i) H1
section
variable{X:Cx}{e:Expr}{te:TE}{lo hi:Option Expr}{tl th:TO}{pos p2:Pos}
theorem Jt:PO X none tNoPart:=by
 intro pins s σ H Q I h;rw [evalPart_none];exact wpAny_pure ⟨none,H,I,.none,h⟩
theorem Ju(h:PE X e te):PO X (some e) (ZgQ te):=by
 intro pins s σ H Q I hw;rw [evalPart_some];refine thn (h pins s σ H _ I hw) λu s1 ⟨x,H1,I1,r1,q1⟩ => ?_
 obtain⟨i,rfl,q⟩:=q1;obtain⟨t,rfl⟩:=r1;exact⟨some i,H1,I1,.int i t,q⟩
def SlR(X:Cx)(r:V->Option Int->Option Int->Hp->VK->Prop):Prop:=
 ∀(pins:List (Addr×Obj))(s:Shared)(σ:St)(H:Hp)(x:V)(v vl vu:Value)(lo hi:Option Int)(sl:Addr)(Q:VK),Inv X pins σ H s->RelV x v->s.heap.IsSliceOf sl vl vu .none->IsPart vl lo->IsPart vu hi->r x lo hi H Q ->
  ∃T id,typeLookup (.type T) "__getitem__" = pure (some (.builtin id))/\s.TypeIs v T/\wpAny (model X.prog X.w) X.A (getItem v (.ref sl)) (EP X pins σ Q) X.xe s
theorem SlR.or{r r':V->Option Int->Option Int->Hp->VK->Prop}(h:SlR X r)(h':SlR X r'):SlR X (λx lo hi H Q=>r x lo hi H Q\/r' x lo hi H Q):=by
 intro pins s σ H x v vl vu lo hi sl Q I rx hs pl pu q;rcases q with q|q
 · exact h pins s σ H x v vl vu lo hi sl Q I rx hs pl pu q
 · exact h' pins s σ H x v vl vu lo hi sl Q I rx hs pl pu q
def tSl(r:V->Option Int->Option Int->Hp->VK->Prop)(te:TE)(tl th:TO):TE:=λσ H Q=>te σ H λx H1=>tl σ H1 λl H2=>th σ H2 λu H3=>r x l u H3 Q
theorem Jv{r:V->Option Int->Option Int->Hp->VK->Prop}(hr:SlR X r)(he:PE X e te)(hl:PO X lo tl)(hu:PO X hi th):PE X (.Subscript e (.Slice lo hi none p2) pos) (tSl r te tl th):=by
 intro pins s σ H Q I h;refine Subscript_ (thn (he pins s σ H _ I h) λv s1 ⟨x,H1,I1,r1,q1⟩ => ?_);refine wpAny_Slice (thn (hl pins s1 σ H1 _ I1 q1) λvl s2 ⟨l,H2,I2,pl,q2⟩=>thn (hu pins s2 σ H2 _ I2 q2) λvu s3 ⟨u,H3,I3,pu,q3⟩ => ?_);rw [evalPart_none];refine wpAny_pure ?_;have I4:Inv X pins σ H3 { s3 with heap:=s3.heap.push { cls := .type "slice",data := .fields #[vl,vu,.none] } }:=I3.kept (t':=s3.toks) λb ob q=>Heap.get?_push_of_some _ q
 obtain⟨T,id,hT,ht,hg⟩:=hr pins { s3 with heap:=s3.heap.push { cls := .type "slice",data := .fields #[vl,vu,.none] } } σ H3 x v vl vu l u s3.heap.objs.size Q I4 r1 (Heap.IsSliceOf.new ..) pl pu q3;show wpAny (model X.prog X.w) X.A (subscriptTail e (.Slice lo hi none p2) v (.ref s3.heap.objs.size)) (EP X pins σ Q) X.xe { s3 with heap:=s3.heap.push { cls := .type "slice",data := .fields #[vl,vu,.none] } }
 exact tail_any (ops:=[.ref s3.heap.objs.size,v]) ht hT hg (by with_unfolding_all rfl)
def V9(xs:List V)(lo hi:Option Int):List V:=(xs.drop (HT.sIx xs.length 0 lo)).take (HT.sIx xs.length xs.length hi-HT.sIx xs.length 0 lo)
theorem Zay(xs:List V)(lo hi:Option Int):(V9 xs lo hi).length<=xs.length:=by
 unfold V9;rw [List.length_take,List.length_drop];omega
def Zka(K:PySem.W.Frag):V->Option Int->Option Int->Hp->VK->Prop:=λx lo hi H Q=>∃a xs,x = .ref a/\SqT K H a xs /\
 ¬(HT.sIx xs.length 0 lo=0/\HT.sIx xs.length xs.length hi=xs.length)/\∀p,H p=none->Q (.ref p) (upd H p (.tup (V9 xs lo hi)))
theorem Zhf:SlR X (Zka X.K):=by
 intro pins s σ H x v vl vu lo hi sl Q I rx hs pl pu h;obtain⟨a,xs,rfl,hx,hw,q⟩:=h;cases rx;obtain⟨its,r,ht,hz⟩:=I.tuple hx;have hlen:its.toArray.size=xs.length:=by rw [List.size_toArray];exact r.length.symm
 refine⟨"tuple",_,PyProof.Rows.slot_tuple_getitem.lookup,ht.typeIs,?_⟩;refine HT.getItem_tuple_cut ht hs pl pu (by rw [hlen];exact hw) ?_ (by rw [hlen];exact hz);rw [hlen];refine⟨.ref s.heap.objs.size,_,I.laid (t':=s.toks) (o:=.tup (V9 xs lo hi)) (λb ob q=>Heap.get?_push_of_some _ q) (Nat.le_refl _) ?_,rfl,q _ (I.hok.fresh (Nat.le_refl _))⟩;exact⟨Nat.le_trans (Zay xs lo hi) hz,_,(r.drop (HT.sIx xs.length 0 lo)).take (HT.sIx xs.length xs.length hi-HT.sIx xs.length 0 lo),TupN.new _ _⟩
end
end L2
namespace L2
open PySem PySem.Spec PyProof.Rows
def ixN(n:Nat)(i:Int):Option Nat:=if 0<=i then(if i<n then some i.toNat else none)else if -(n:Int)<=i then some (i+n).toNat else none
def atI{α:Type}(xs:List α)(i:Int):Option α:=(ixN xs.length i).bind λj=>xs[j]?
theorem Zdg{n:Nat}{i:Int}{j:Nat}(h:ixN n i=some j):seqIndex? i n=some j/\j<n /\ -(n:Int)<=i/\i<n:=by
 unfold ixN at h
 by_cases h0:0<=i
 · rw [if_pos h0]at h
   by_cases h1:i<n
   · rw [if_pos h1]at h
     have e:i.toNat=j:=Option.some.inj h;exact⟨by rw [seqIndex_of h0 h1,e],by omega,by omega,h1⟩
   · rw [if_neg h1]at h;cases h
 · rw [if_neg h0]at h
   by_cases h1 : -(n:Int)<=i
   · rw [if_pos h1]at h
     have e:(i+n).toNat=j:=Option.some.inj h;exact⟨by rw [seqIndex_neg (by omega) h1,e],by omega,h1,by omega⟩
   · rw [if_neg h1]at h;cases h
theorem Zbx{α:Type}{xs:List α}{i:Int}{v:α}(h:atI xs i=some v):∃j,seqIndex? i xs.length=some j/\xs[j]? = some v/\j<xs.length /\ -(xs.length:Int)<=i/\i<xs.length:=by
 unfold atI at h;cases e:ixN xs.length i with
 |none=>rw [e]at h;cases h
 |some j=>
  rw [e]at h;obtain⟨h1,h2,h3,h4⟩:=Zdg e;exact⟨j,h1,h,h2,h3,h4⟩
theorem Zdh{α:Type}{xs:List α}{j:Nat}{v:α}(h:xs[j]? = some v):atI xs (j:Int)=some v:=by
 have hj:j<xs.length:=(List.getElem?_eq_some_iff.mp h).1
 have e:ixN xs.length (j:Int)=some j:=by
  unfold ixN;rw [if_pos (by omega),if_pos (by omega)];simp
 unfold atI;rw [e];exact h
def ZfW(b:Expr):Prop:=∀o i,subscripted b false o i=operate [o,i] (getItem o i)
def IxR(X:Cx)(r:R2):Prop:=
 ∀(value slice:Expr)(pins:List (Addr×Obj))(s:Shared)(σ:St)(H:Hp)(x y:V)(v u:Value)(Q:VK),Inv X pins σ H s->RelV x v->RelV y u->r x y H Q ->
  subscripted slice false v u=operate [v,u] (getItem v u)->wpAny (model X.prog X.w) X.A (subscriptTail value slice v u) (EP X pins σ Q) X.xe s
def MtR(X:Cx)(id:String)(r:V->List V->Hp->VK->Prop):Prop:=
 ∀(pins:List (Addr×Obj))(s:Shared)(σ:St)(H:Hp)(x:V)(xs:List V)(v:Value)(us:List Value)(Q:VK),Inv X pins σ H s->RelV x v->Vals xs us->r x xs H Q ->
  wpAny (model X.prog X.w) X.A (call (.builtin id) (v::us)) (EP X pins σ Q) X.xe s
section
variable{X:Cx}{a b:Expr}{ta tb:TE}{pos:Pos}
theorem IxR.or{r r':R2}(h:IxR X r)(h':IxR X r'):IxR X (λx y H Q=>r x y H Q\/r' x y H Q):=by
 intro value slice pins s σ H x y v u Q I rx ry q hs;rcases q with q|q
 · exact h value slice pins s σ H x y v u Q I rx ry q hs
 · exact h' value slice pins s σ H x y v u Q I rx ry q hs
theorem Zw{r:R2}(hr:IxR X r)(ha:PE X a ta)(hb:PE X b tb)(hs:ZfW b):PE X (.Subscript a b pos) (tOp r ta tb):=by
 intro pins s σ H Q I h;exact Subscript_ (Zh8 ha hb I h λv u s2 x y H2 I2 rx ry q=>hr a b pins s2 σ H2 x y v u Q I2 rx ry q (hs _ _))
def Zkb(K:PySem.W.Frag):R2:=λx y H Q=>∃p xs i v,x = .ref p/\y = .int i/\SqL K H p xs/\atI xs i=some v/\Q v H
def Zkc(K:PySem.W.Frag):R2:=λx y H Q=>∃p xs i v,x = .ref p/\y = .int i/\SqT K H p xs/\atI xs i=some v/\Q v H
def rIxS:R2:=λx y H Q=>∃z i c,x = .str z/\y = .int i/\z.length<=sizeLine/\atI z.cps.toList i=some c/\Q (.str ⟨#[c]⟩) H
theorem ix_list:IxR X (Zkb X.K):=by
 intro value slice pins s σ H x y v u Q I rx ry h hs;obtain⟨p,xs,i,z,rfl,rfl,hq,he,q⟩:=h;cases rx;obtain⟨t,rfl⟩:=ry;obtain⟨its,r,pl,hz⟩:=I.list hq;obtain⟨j,h1,h2,h3,h4,h5⟩:=Zbx he;obtain⟨w,ew,rw'⟩:=r.get h2;have hl:=r.length;have hn:=UR;have fin:EP X pins σ Q w s:=⟨z,H,I,rw',q⟩
 by_cases h0:0<=i
 · have hj : i.toNat = j := by
    rw [seqIndex_of h0 h5]at h1;exact Option.some.inj h1
   exact item_listR pl.isList h0 (by omega) (by rw [hj];simpa using ew) fin hs
 · have hj : (i + (its.toArray.size : Int)).toNat = j := by
    rw [seqIndex_neg (by omega) h4]at h1;rw [List.size_toArray,<-hl];exact Option.some.inj h1
   exact subscriptTail_builtinR (x:=w) pl.isList.typeIs slot_list_getitem.lookup
    (wpAny_getItem_list_neg (Q:=λr s'=>r=w/\EP X pins σ Q r s') pl.isList (by omega) (by rw [List.size_toArray]<;>omega) (by omega) (by rw [hj];simpa using ew) ⟨rfl,fin⟩) hs
theorem ix_tup:IxR X (Zkc X.K):=by
 intro value slice pins s σ H x y v u Q I rx ry h hs;obtain⟨p,xs,i,z,rfl,rfl,hq,he,q⟩:=h;cases rx;obtain⟨t,rfl⟩:=ry;obtain⟨its,r,pl,hz⟩:=I.tuple hq;obtain⟨j,h1,h2,h3,h4,h5⟩:=Zbx he;obtain⟨w,ew,rw'⟩:=r.get h2;have hl:=r.length;have hn:=UR;have fin:EP X pins σ Q w s:=⟨z,H,I,rw',q⟩
 exact subscriptTail_builtinR (x:=w) pl.typeIs slot_tuple_getitem.lookup
  (getItem_tuple (j:=j) (Q:=λr s'=>r=w/\EP X pins σ Q r s') pl (by omega) (by omega) (by rw [List.size_toArray,<-hl];exact h1) (by simpa using ew) ⟨rfl,fin⟩) hs
theorem Zhg:IxR X rIxS:=by
 intro value slice pins s σ H x y v u Q I rx ry h hs;obtain⟨z,i,c,rfl,rfl,hz,he,q⟩:=h;obtain⟨t,rfl⟩:=rx;obtain⟨t',rfl⟩:=ry;obtain⟨j,h1,h2,h3,h4,h5⟩:=Zbx he;have hl:z.cps.toList.length=z.length:=by simp [Str.length]
 rw [hl]at h1 h4 h5;have hn:=UR
 exact tail_any (typeIs_str s z t) slot_str_getitem.lookup (getItem_str (c:=c) (by
  have e1:decide (i < -(2 ^ 63:Int))=false:=decide_eq_false (by omega);have e2:decide (i ≥ 2 ^ 63)=false:=decide_eq_false (by omega);rw [e1,e2,Bool.or_false]) (by rw [h1];simpa using h2) ⟨.str ⟨#[c]⟩,H,I.tok _,⟨_,rfl⟩,q⟩) hs
theorem ZcC(its:List Value)(n j:Nat)(u:Value):Obj.mapSeq (·.setIfInBounds j u) { cls := .type "list",data := .seq its.toArray n }={ cls := .type "list",data := .seq (its.set j u).toArray n }:=by
 simp [Obj.mapSeq]
theorem Inv.lst{pins:List (Addr×Obj)}{σ:St}{H:Hp}{s:Shared}{p:Addr}{xs:List V}(I:Inv X pins σ H s)(h:H p=some (.lst xs)) :
 ∃(its:List Value) (n:Nat),Vals xs its/\s.heap.get? p=some { cls := .type "list",data := .seq its.toArray n }/\xs.length<=sizeLine:=by
 obtain⟨z,its,n,r,e⟩:=I.hok p _ h;exact⟨its,n,r,e,z⟩
theorem Inv.lstUpd {pins:List (Addr×Obj)} {σ:St} {H:Hp} {s:Shared} {p:Addr} {xs ys:List V} {its its':List Value} {n n':Nat} {f:Obj->Obj} (I:Inv X pins σ H s) (h:H p=some (.lst xs))
 (ho:s.heap.get? p=some { cls := .type "list",data := .seq its.toArray n }) (hf:f { cls := .type "list",data := .seq its.toArray n }={ cls := .type "list",data := .seq its'.toArray n' }) (r:Vals ys its') (hz:ys.length<=sizeLine) (t:Nat) :
 Inv X pins σ (upd H p (.lst ys)) { s with heap:=s.heap.update p f,toks:=t }:=by
 have e:(s.heap.update p f).get? p=some { cls := .type "list",data := .seq its'.toArray n' }:=by
  rw [Heap.get?_update_self f ho (by rw [hf]<;>rfl),hf]
 refine I.write (x:=p) (e:=p) (by rw [h];trivial) (.inl rfl) (λb u hb q=>(Heap.get?_update_other _ _ (Ne.symm hb)).trans q) ⟨_,e⟩ ?_;exact⟨hz,its',n',r,e⟩
def rSetL:V->V->V->Hp->(Hp->Prop)->Prop:=λo i v H Q=>∃p xs k j,o = .ref p/\i = .int k/\H p=some (.lst xs)/\ixN xs.length k=some j/\Q (upd H p (.lst (xs.set j v)))
theorem Qv:Zj8 X rSetL:=by
 intro pins s σ H o i v ov iv u Q I ro ri rv h;obtain⟨p,xs,k,j,rfl,rfl,hp,hj,q⟩:=h;cases ro;obtain⟨t,rfl⟩:=ri;obtain⟨its,n,r,ho,hz⟩:=I.lst hp;obtain⟨h1,h2,h3,h4⟩:=Zdg hj;have hl:=r.length;have hn:=UR
 have I':Inv X pins σ (upd H p (.lst (xs.set j v))) { s with heap:=s.heap.update p (Obj.mapSeq (·.setIfInBounds j u)) }:=
  I.lstUpd hp ho (ZcC its n j u) (r.set rv j) (by rw [List.length_set];exact hz) s.toks
 by_cases h0:0<=k
 · have hk : k.toNat = j := by
    rw [seqIndex_of h0 h4]at h1;exact Option.some.inj h1
   exact PySem.W.ki_setAt ho h0 (by omega) (by rw [List.size_toArray,<-hl];exact h4) (by rw [hk];exact⟨_,I',q⟩)
 · have hk : (k + (its.toArray.size : Int)).toNat = j := by
    rw [seqIndex_neg (by omega) h3]at h1;rw [List.size_toArray,<-hl];exact Option.some.inj h1
   exact PySem.W.ki_setBack ho (by omega) (by rw [List.size_toArray,<-hl];exact h3) (by omega) (by rw [hk];exact⟨_,I',q⟩)
theorem Zbr(lo hi:Option Int)(n:Nat):(sliceBounds lo hi none n).1=((HT.sIx n 0 lo:Nat):Int)/\(sliceBounds lo hi none n).2.1=((HT.sIx n n hi:Nat):Int)/\(sliceBounds lo hi none n).2.2=1:=by
 refine⟨?_,?_,rfl⟩
 · cases lo with
   |none=>simp [sliceBounds,HT.sIx]
   |some i=>
    simp only [sliceBounds,HT.sIx,Option.getD_none,show(1:Int)>0 by decide,if_true]
    by_cases h:i<0
    · simp only [h,if_true]<;>omega
    · simp only [h,if_false]<;>omega
 · cases hi with
   |none=>simp [sliceBounds,HT.sIx]
   |some i=>
    simp only [sliceBounds,HT.sIx,Option.getD_none,show(1:Int)>0 by decide,if_true]
    by_cases h:i<0
    · simp only [h,if_true]<;>omega
    · simp only [h,if_false]<;>omega
theorem Za0(its:List Value)(lo hi:Option Int):slicePick its.toArray lo hi none=((its.drop (HT.sIx its.length 0 lo)).take (HT.sIx its.length its.length hi-HT.sIx its.length 0 lo)).toArray:=by
 obtain⟨h1,h2,h3⟩:=Zbr lo hi its.toArray.size;unfold slicePick;rw [h1,h2,h3];simp only [sliceRange_one,pick_run,List.size_toArray]<;>rfl
def Zkd(K:PySem.W.Frag):V->Option Int->Option Int->Hp->VK->Prop:=λx lo hi H Q=>∃a xs,x = .ref a/\SqL K H a xs/\∀p,H p=none->Q (.ref p) (upd H p (.lst (V9 xs lo hi)))
theorem sl_list:SlR X (Zkd X.K):=by
 intro pins s σ H x v vl vu lo hi sl Q I rx hs pl pu h;obtain⟨a,xs,rfl,hx,q⟩:=h;cases rx;obtain⟨its,r,ht,hz⟩:=I.list hx;have hlen:=r.length;refine⟨"list",_,slot_list_getitem.lookup,ht.isList.typeIs,?_⟩;refine wpAny_getItem_list_slice ht.isList hs pl pu .none (by simp) ?_ (by rw [List.size_toArray]<;>omega);rw [Za0,<-hlen];refine⟨.ref s.heap.objs.size,_,I.laid (t':=s.toks) (o:=.lst (V9 xs lo hi)) (λb ob q=>Heap.get?_push_of_some _ q) (Nat.le_refl _) ?_,rfl,q _ (I.hok.fresh (Nat.le_refl _))⟩
 exact⟨Nat.le_trans (Zay xs lo hi) hz,_,0,(r.drop (HT.sIx xs.length 0 lo)).take (HT.sIx xs.length xs.length hi-HT.sIx xs.length 0 lo),Heap.get?_push_size _ rfl⟩
theorem Zbs:Yt X (.builtin "len") (λxs H Q=>∃p ys,xs=[.ref p]/\(SqL X.K H p ys\/SqT X.K H p ys)/\Q (.int ys.length) H):=by
 intro pins s σ H xs us Q I r h;obtain⟨p,ys,rfl,hq,q⟩:=h;obtain⟨u,rfl,rx⟩:=Xl r;cases rx;have hn:=UR;rcases hq with hq|hq
 · obtain⟨its,r',pl,hz⟩:=I.list hq
   have hlen:=r'.length;exact Calls.call_len_list pl.isList (by simp only [List.size_toArray]<;>omega) ⟨.int ys.length,H,I.tok _,⟨s.toks+1,by rw [List.size_toArray,hlen]⟩,q⟩
 · obtain⟨its,r',pl,hz⟩:=I.tuple hq
   have hlen:=r'.length;exact len_tuple pl (by simp only [List.size_toArray]<;>omega) ⟨.int ys.length,H,I.tok _,⟨s.toks+1,by rw [List.size_toArray,hlen]⟩,q⟩
theorem Zbt:Yt X (.builtin "len") (λxs H Q=>∃z,xs=[.str z]/\z.length<=sizeLine/\Q (.int z.length) H):=by
 intro pins s σ H xs us Q I r h;obtain⟨z,rfl,hz,q⟩:=h;obtain⟨u,rfl,t,rfl⟩:=Xl r;have hn:=UR;exact len_str (by omega) ⟨.int z.length,H,I.tok _,⟨_,rfl⟩,q⟩
theorem Zbu:Yt X (.type "list") (λxs H Q=>∃p ys,xs=[.ref p]/\(SqL X.K H p ys\/SqT X.K H p ys)/\∀l,H l=none->Q (.ref l) (upd H l (.lst ys))):=by
 intro pins s σ H xs us Q I r h;obtain⟨p,ys,rfl,hq,q⟩:=h;obtain⟨u,rfl,rx⟩:=Xl r;cases rx
 have fin:∀(its:List Value),Vals ys its->ys.length<=sizeLine->∀(h':Heap)(c':Nat),(∀b o',s.heap.get? b=some o'->h'.get? b=some o') ->
  h'.get? s.heap.objs.size=some { cls := .type "list",dict:=none,data := .seq its.toArray c',slots := #[] }->EP X pins σ Q (.ref s.heap.objs.size) { s with heap:=h' }:=λits r' hz h' c' kp e=>
  ⟨.ref s.heap.objs.size,_,I.laid (t':=s.toks) kp (Nat.le_refl _) (show ObjOk X.prog X.w _ h' _ (.lst ys)from⟨hz,its,c',r',e⟩),rfl,q _ (I.hok.fresh (Nat.le_refl _))⟩
 rcases hq with hq|hq
 · obtain⟨its,r',pl,hz⟩:=I.list hq
   have hlen:=r'.length;obtain⟨o,ho,hc,n,hd⟩:=pl.isList;exact call_list_seq p (.inl rfl) ho hc hd (λh' c' kp e=>fin its r' hz h' c' kp e) (by simp only [List.size_toArray]<;>omega)
 · obtain⟨its,r',pl,hz⟩:=I.tuple hq
   have hlen:=r'.length;obtain⟨o,ho,hc,n,hd⟩:=pl;exact call_list_seq p (.inr rfl) ho hc hd (λh' c' kp e=>fin its r' hz h' c' kp e) (by simp only [List.size_toArray]<;>omega)
def tyV(K:PySem.W.Frag)(T:String)(x:V)(H:Hp):Prop:=match x with
 | .str _=>T = "str"
 | .int _=>T = "int"
 | .ref p=>(T = "list" /\ ∃xs,SqL K H p xs)\/(T = "tuple" /\ ∃o,K.lookup p=some o/\o.cls = .type "tuple" /\ o.dict=none) \/
  (T = "dict" /\ ((∃kvs,H p=some (.dK kvs))\/∃kvs,H p=some (.dT kvs)))\/(T = "set" /\ ∃S n,H p=some (.set S n))\/(T = "tuple" /\ ∃xs,H p=some (.tup xs))
 |_=>False
theorem Zhh{pins:List (Addr×Obj)}{σ:St}{H:Hp}{s:Shared}{T:String}{x:V}{v:Value}(I:Inv X pins σ H s)(r:RelV x v)(ty:tyV X.K T x H) :
 s.TypeIs v T/\∀a,v = .ref a->∃ob,s.heap.get? a=some ob/\ob.dict=none:=by
 cases x with
 |str z=>
  obtain⟨t,rfl⟩:=r;cases(show T = "str" from ty);exact⟨typeIs_str s z t,λ_ e=>nomatch e⟩
 |int i=>
  obtain⟨t,rfl⟩:=r;cases(show T = "int" from ty);exact⟨typeIs_int s i t,λ_ e=>nomatch e⟩
 |ref p=>
  cases r;rcases ty with⟨rfl,xs,hq⟩|⟨rfl,o,hk,hc,hd⟩|⟨rfl,hk⟩|⟨rfl,S,n,hk⟩|⟨rfl,xs,hk⟩
  · obtain⟨its,_,pl,_⟩:=I.list hq
    refine⟨pl.isList.typeIs,λa e => ?_⟩;cases e;obtain⟨o,n,e,c,hd,_⟩:=pl;exact⟨o,e,hd⟩
  · refine⟨⟨o,I.kIn p o hk,hc⟩,λa e => ?_⟩
    cases e;exact⟨o,I.kIn _ o hk,hd⟩
  · have z : ∃ o, s.heap.get? p = some o /\ o.ExactDict := by
     rcases hk with⟨kvs,hk⟩|⟨kvs,hk⟩
     · obtain⟨_,_,_,_,o,_,_,e,ex,_⟩:=I.hok p _ hk
       exact⟨o,e,ex⟩
     · obtain⟨_,_,_,_,o,_,_,e,ex,_⟩:=I.hok p _ hk
       exact⟨o,e,ex⟩
    obtain⟨o,e,ex⟩:=z;refine⟨⟨o,e,ex.1⟩,λa e2 => ?_⟩;cases e2;exact⟨o,e,ex.2.1⟩
  · obtain⟨o,_,_,_,e,ex,_⟩:=I.hok p _ hk
    refine⟨⟨o,e,ex.1⟩,λa e2 => ?_⟩;cases e2;exact⟨o,e,ex.2.1⟩
  · obtain⟨_,its,_,o,e,c,_,dn⟩:=(show ObjOk X.prog X.w H s.heap p (.tup xs)from I.hok p _ hk)
    refine⟨⟨o,e,c⟩,λa e2 => ?_⟩;cases e2;exact⟨o,e,dn⟩
 |_=>exact False.elim ty
def tBM(K:PySem.W.Frag)(T:String)(r:V->List V->Hp->VK->Prop)(to:TE)(t:TA):TE:=λσ H Q=>to σ H λx H1=>tyV K T x H1/\t σ H1 λxs H2=>r x xs H2 Q
variable{o e:Expr}{es:List Expr}{to:TE}{t:TA}{name:Str}{apos cpos:Pos}{T id:String}{r:V->List V->Hp->VK->Prop}
theorem Zis (pa:PlainAttrs T) (slot:Slot T name id) (hty:typeOf (.builtin id)=pure (.type "method_descriptor")) (hm:MtR X id r) (ho:PE X o to) (ha:PA X (e::es) t)
 (hbase:attributeBase o name X.env (eval o X.env)=eval o X.env:=by rfl)
 (hfew:((backTo cpos (starEach (e::es) X.env)).all (λx => !x.1)&&(backToKw cpos (keywordEach [] X.env)).all (λx=>x.1.isSome)
   && decide ((e::es).length+([]:List Keyword).length+(if([]:List Keyword).isEmpty then 0 else 1)<30))=true:=by rfl)
 (hline:(apos.endLine == cpos.line)=true:=by rfl) (hs:starEach (e::es) X.env=(false,eval e X.env)::starEach es X.env:=by rfl) (hplain:(backTo cpos (starEach es X.env)).any (·.1)=false:=by rfl) :
 PE X (.Call (.Attribute o name apos) (e::es) [] cpos) (tBM X.K T r to t):=by
 intro pins s σ H Q I h;refine wpAny_Call_method_late hbase hfew hline rfl (thn (ho pins s σ H _ I h) λv s1 ⟨x,H1,I1,r1,ty,q1⟩ => ?_);obtain⟨h1,h2⟩:=Zhh I1 r1 ty;refine⟨T,id,pa,slot,hty,h1,h2,?_⟩;have hA:=ha cpos pins s1 σ H1 _ I1 q1;rw [hs]at hA ⊢;refine Calls.callWith_builtin (by show(false||(backTo cpos (starEach es X.env)).any (·.1))=false;rw [hplain]<;>rfl) (Calls.evalArgs_plain ?_)
 exact thn hA λus s2 ⟨vs,H2,I2,r2,q2⟩=>hm pins s2 σ H2 x vs v us Q I2 r1 r2 q2
end
end L2
namespace L2
open PySem PySem.Spec PyProof.Rows
def MtM(X:Cx)(id:String)(r:V->List V->Hp->VK->Prop):Prop:=
 ∀(pins:List (Addr×Obj))(s:Shared)(σ:St)(H:Hp)(x:V)(xs:List V)(v:Value)(us:List Value)(Q:VK),Inv X pins σ H s->RelV x v->Vals xs us->r x xs H Q ->
  wpAny (model X.prog X.w) X.A (call (.builtin id) (v::us)) (EP X pins σ Q) X.xe s
theorem Vals.one:∀{x:V}{us:List Value},Vals [x] us->∃u,us=[u]/\RelV x u
 |_,_,.cons r .nil=>⟨_,rfl,r⟩
theorem Vals.rep{xs:List V}{us:List Value}(h:Vals xs us):∀k:Nat,Vals (List.replicate k xs).flatten (List.replicate k us).flatten
 |0 => .nil
 |k+1=>by
  rw [List.replicate_succ,List.replicate_succ,List.flatten_cons,List.flatten_cons];exact Vals.append h (Vals.rep h k)
theorem Zba(its:List Value):∀(k:Nat)(acc:List Value),
 List.foldl (λx1 x2=>x1++x2) acc.toArray (List.replicate k its.toArray)=(acc++(List.replicate k its).flatten).toArray
 |0,acc=>by simp
 |k+1,acc=>by
  have e:acc.toArray++its.toArray=(acc++its).toArray:=by simp
  have e2:(acc++its)++(List.replicate k its).flatten=acc++(List.replicate (k+1) its).flatten:=by
   rw [List.replicate_succ,List.flatten_cons,List.append_assoc]
  rw [<-e2,<-Zba its k (acc++its),<-e,List.replicate_succ,List.foldl_cons]
section
variable{X:Cx}{pins:List (Addr×Obj)}{σ:St}{H:Hp}{s:Shared}{l b:Addr}{xs ys zs:List V}
theorem Inv.lset {its its':List Value} {n:Nat} {f:Array Value->Array Value} {t':Nat} (I:Inv X pins σ H s) (hH:H l=some (.lst xs))
 (e:s.heap.get? l=some { cls := .type "list",data := .seq its.toArray n }) (hf:f its.toArray=its'.toArray) (hv:Vals ys its') (hz:ys.length<=sizeLine) :
 Inv X pins σ (upd H l (.lst ys)) { s with heap:=s.heap.update l (Obj.mapSeq f),toks:=t' }:=by
 have q:=PySem.IsL.update e f;rw [hf]at q;refine I.write (x:=l) (e:=l) (by rw [hH];exact trivial) (.inl rfl) (λb' u hb hu=>(Heap.get?_update_other s.heap (Obj.mapSeq f) (Ne.symm hb)).trans hu) ⟨_,q⟩ ?_;exact⟨hz,its',_,hv,q⟩
theorem Inv.lnew{its:List Value}{t':Nat}(I:Inv X pins σ H s)(hv:Vals ys its)(hz:ys.length<=sizeLine) :
 Inv X pins σ (upd H s.heap.objs.size (.lst ys)) { s with heap:=s.heap.push { cls := .type "list",data := .seq its.toArray },toks:=t' }:=
 I.laid (λ_ _ q=>Heap.get?_push_of_some _ q) (Nat.le_refl _) ⟨hz,its,0,hv,Heap.get?_push_size _ rfl⟩
theorem Inv.fresh(I:Inv X pins σ H s):H s.heap.objs.size=none:=I.hok.fresh (Nat.le_refl _)
theorem Inv.lstM(I:Inv X pins σ H s)(hH:H l=some (.lst xs)):xs.length<=sizeLine/\∃(its:List Value) (n:Nat),Vals xs its/\xs.length=its.length/\s.heap.get? l=some { cls := .type "list",data := .seq its.toArray n }:=by
 obtain⟨z,its,n,r,e⟩:=I.hok l _ hH;exact⟨z,its,n,r,r.length,e⟩
theorem Zes{n:Nat}(h:n<=sizeLine):Builtin.List.listTooLong n=false:=by
 unfold Builtin.List.listTooLong;exact decide_eq_false (by omega)
end
section
variable{X:Cx}
def rAppend:V->List V->Hp->VK->Prop:=λx vs H Q=>∃l xs y,x = .ref l/\vs=[y]/\H l=some (.lst xs)/\xs.length<sizeLine/\Q .non (upd H l (.lst (xs++[y])))
theorem XG:MtM X "list.append" rAppend:=by
 intro pins s σ H x vs v us Q I rx rv h;obtain⟨l,xs,y,rfl,rfl,hH,hz,q⟩:=h;cases rx;obtain⟨u,rfl,ru⟩:=rv.one;obtain⟨z,its,n,r,hl,e⟩:=I.lstM hH;refine call_meets F.slot_list_append ⟨_,e,rfl⟩ F.entry_list_append (F.args_list_append_2 _ _) (PySem.list_append l its.toArray n u (by rw [List.size_toArray];omega)) ⟨e,?_⟩;refine⟨.non,_,I.lset (its':=its++[u]) hH e (by simp) (r.append (.cons ru .nil)) ?_,rfl,q⟩
 rw [List.length_append,List.length_singleton];omega
def Zkn:R2:=λx y H Q=>∃l b xs zs,x = .ref l/\y = .ref b/\H l=some (.lst xs)/\H b=some (.lst zs)/\xs.length+zs.length<=sizeLine/\∀p,H p=none->Q (.ref p) (upd H p (.lst (xs++zs)))
theorem ZfX{α:Type}(xs:List α)(k:Nat):(List.replicate k xs).flatten.length=k*xs.length:=by
 induction k with
 |zero=>simp
 |succ k ih=>rw [List.replicate_succ,List.flatten_cons,List.length_append,ih,Nat.succ_mul,Nat.add_comm]
end
section
variable{prog:Program}{w:World}{A:Around}{E:Value->Shared->Prop}{s:Shared}
set_option maxRecDepth 100000 in
end
section
variable{X:Cx}
end
end L2
namespace Att
open PySem PySem.W PySem.Calls PyProof.Rows
theorem ZaD{P:Params}{h:Heap}:∀(ns:List Int)(vs:List Value),WellAll P h vs (ns.map WData.int)->IntsAre vs ns:=by
 intro ns
 induction ns with
 |nil=>
  intro vs w;rw [List.map_nil]at w;cases w;exact .nil
 |cons n ns ih=>
  intro vs w;rw [List.map_cons]at w;cases w with
  |cons a b=>
   cases a;exact .cons _ _ (ih _ b)
theorem ZdT {l:OpenLaw} {n:Nat} (hn:l.most=some n) {P:Params} {h:Heap} {args:List WData} {vals:List Value}
 (hpre:l.row.toRowW.claim.pre args=true) (hwl:WellAll P h vals args) :
 ∃a vs ns,vals=[Value.ref a]/\args=[WData.list (ns.map WData.int)]/\h.get? a=some { cls := .type "list",data := .seq vs.toArray }/\IntsAre vs ns/\ns.length<=n:=by
 have hsh:WShape.hasAll [] args [.list .int]=true:=(pre_splitW hpre).1;have hc:l.pre.holds [] { args:=args }=true:=(pre_splitW hpre).2;obtain⟨d,r,rfl,h1,h2⟩:=hasAllW_cons hsh;obtain rfl:=hasAllW_nil h2;obtain⟨xs,rfl,h3⟩:=hasW_list h1;obtain⟨ns,rfl⟩:=items_int h3
 have hlen:ns.length<=n:=by
  unfold OpenLaw.pre at hc
  have h4:(WTm.not (.lt (.lit (.int (n:Int))) (.len (.arg 0)))).holds [] { args:=[.list (ns.map .int)] }=true:=by
   have h4:=(holds_andW hc).1;rw [hn]at h4;exact h4
  have h5:=condW_of h4 (w_not (w_lt w_lit (w_len_list (w_arg rfl))));rw [List.length_map]at h5;refine Nat.le_of_not_lt λq => ?_
  have q':(n:Int)<((ns.length:Nat):Int):=by omega
  first
   |(rw [decide_eq_true q']at h5;exact absurd h5 (by decide))
   |(simp at h5;omega)
 cases hwl with
 |cons w1 w2=>
  cases w2;cases w1 with
  |list ho hall=>exact⟨_,_,ns,rfl,rfl,ho,ZaD ns _ hall,hlen⟩
theorem ZdU(l:OpenLaw)(args:List WData):l.row.toRowW.claim.post args (.bool true) args=true:=
 postW_of (r:=l.row.toRowW) (X:=(true == true))
  (show WShape.has [] (.bool true) .bool=true by first|rfl|decide|simp [WShape.has,WShape.arms,WShape.armsAll])
  (show(WTm.eq .res (.lit (.bool true))).value [] { args:=args,res:=some (.bool true),after:=args }=some (.bool (true == true))from w_eq_bool (w_res rfl) w_lit) rfl
theorem attach_call {l:OpenLaw} {n:Nat} {q:Program} {loose:List Str} {XP:(Str->Option Value)->Heap->Prop} {YP:World->Heap->Prop} {d:DefRec}
 (hn:l.most=some n) (hdf:d.params.defaults=[])
 (call:∀(w:World)(s₀ s₁:Shared)(mg mb:Str->Option Value)(fa:Addr)(o:Obj)(pm cd doc:Value)(a:Addr)(vs:List Value)(ns:List Int),
   Ground q loose [] XP w s₀ mg mb s₁.heap->YP w s₁.heap ->
   s₁.heap.get? fa=some o->o.data = .func (docDef d.name d.params d.body d.scope pm cd doc)->s₁.heap.CodeRec cd d.name->mg d.name=some (.ref fa) ->
   s₁.heap.get? a=some { cls := .type "list",data := .seq vs.toArray }->IntsAre vs ns->ns.length<=n->s₁.gens = #[] ->
   codeAny (model l.prog w) callerA (.call (.ref fa) ⟨[.ref a],[]⟩) (λr s'=>r = .ok (.ret (.bool true))/\OldK s₁.heap s'.heap/\s'.os=s₁.os/\AllBare s'.gens) s₁) :
 WalkO q loose XP YP l.row.toRowW d [] (λf vs=>PySem.call f vs):=by
 intro w s₀ s₁ mg mb G Y fa o pm cd doc dV kV ho hd hcd hD hmg hg args vals as hpre hlay hrd hwl hlo;obtain rfl:dV = .none:=Dflts.none hD hdf;obtain rfl:kV = .none:=Dflts.noKw hD;obtain⟨a,vs,ns,rfl,rfl,hobj,hints,hlen⟩:=ZdT hn hpre hwl;refine enter_call (codeAny_mono (call w s₀ s₁ mg mb fa o pm cd doc a vs ns G Y ho (fd_plain hd) hcd hmg hobj hints hlen hg) λr s' hq => ?_);obtain⟨rfl,h2,h3,h4⟩:=hq
 exact⟨.inl ⟨.bool true,.bool true,[],rfl,λ_=>rfl,.bool true,ZdU l _,λ_=>⟨List.Pairwise.nil,λ_ hm=>(nomatch hm)⟩⟩,h2,h3,h4⟩
section
variable{prog:Program}{w:World}{A:Around}{E:Value->Shared->Prop}{s:Shared}{K:Frag}
end
end Att
namespace L2
open PySem PySem.Spec PyProof.Rows
theorem Zbb:∀{vs:List Value}{ns:List Int},IntsAre vs ns->Vals (ns.map V.int) vs
 |_,_,.nil => .nil
 |_,_,.cons n t h => .cons ⟨t,rfl⟩ (Zbb h)
def Zia(H:Hp):Prop:=∀b,H b=none\/∃o xs,H b=some (.frz o (.lst xs))
theorem Zet {P:Program} {w:World} {K:PySem.W.Frag} {mg mb:Str->Option Value} {CX:CXT} {k:Nat} {fa a:Addr} {fd:FuncData} {x:Str} {sp:Sp} {s₁:Shared} {vs:List Value} {ns:List Int}
 (KX:K.In s₁.heap) (hns:s₁.heap.Ns mainGlobals mg) (hb:s₁.heap.Ns builtinsNs mb) (hbb:∀x:Str,x ≠ "__name__" -> mb x=bootBuiltins x) (hlim:s₁.heap.NoLimit) (hg:s₁.gens = #[])
 (ha:s₁.heap.get? a=some { cls := .type "list",data := .seq vs.toArray }) (hi:IntsAre vs ns) (hl:ns.length<=sizeLine) (hr:Room k callerA)
 (F:∀base:Heap,K.In base->base.Ns mainGlobals mg->FnOk P w K mg base CX k fa fd [x] sp) (hbind:∀(s:Shared)(u:Value),BindsTo s fd ⟨[u],[]⟩ [(x,u)])
 (hsp:∀H:Hp,Zia H->SqL K H a (ns.map V.int)->sp [.ref a] H (λv _=>v = .bl true) λ_ _ _=>False)
 (hCX:∀H e s',CX [] H s₁ (λ_ _ _=>False) e s'->False) :
 codeAny (model P w) callerA (.call (.ref fa) ⟨[.ref a],[]⟩) (λr s'=>r = .ok (.ret (.bool true))/\OldK s₁.heap s'.heap/\s'.os=s₁.os/\AllBare s'.gens) s₁:=by
 have rv:=Zbb hi;have lenV:=hi.length
 have core:∀H:Hp,Zia H->SqL K H a (ns.map V.int)->HOk P w H s₁.heap->(∀b,H b≠none->b=a)->(H a≠none->K.lookup a=none) ->
  codeAny (model P w) callerA (.call (.ref fa) ⟨[.ref a],[]⟩) (λr s'=>r = .ok (.ret (.bool true))/\OldK s₁.heap s'.heap/\s'.os=s₁.os/\AllBare s'.gens) s₁:=by
  intro H hO hS hok hA hK;have base_of:∀{b:Addr}{o:Obj},s₁.heap.get? b=some o->H b=none->(Vr s₁.heap H).get? b=some o:=λe n=>Zeo e n
  have noA:∀{b:Addr}{o:Obj}{es:Array DictEntry}{ep:Nat},s₁.heap.get? b=some o->o.data = .dict es ep->H b=none:=λ{b o es ep} e d=>by
   cases q:H b with
   |none=>rfl
   |some u=>
    have e':b=a:=hA b (by rw [q];simp);subst e';rw [ha]at e;cases e;have d':Data.seq vs.toArray _=Data.dict es ep:=d;cases d'
  have nsK:∀{b:Addr}{m:Str->Option Value},s₁.heap.Ns b m->(Vr s₁.heap H).Ns b m:=λ{b m} ⟨o,es,ep,e,d,r⟩=>⟨o,es,ep,base_of e (noA e d),d,r⟩
  have hKb:K.In (Vr s₁.heap H):=λb o e=>base_of (KX b o e) (by
   cases q:H b with
   |none=>rfl
   |some u=>
    have e':b=a:=hA b (by rw [q];simp);subst e';rw [hK (by rw [q];simp)]at e;cases e)
  have hM:Mod K mg (Vr s₁.heap H):=⟨hKb,nsK hns,⟨mb,nsK hb,hbb⟩,let⟨mc,h1,h2⟩:=hlim;⟨mc,nsK h1,h2⟩⟩
  have e0:Env0 P w K mg (Vr s₁.heap H) callerA [] s₁ H:=⟨rfl,hM,λb o e=>ZfS e,Nat.le_of_eq (ZdM _ _),trivial,λb hb=>absurd (show b∈([]:List Addr)from hb) (by simp),hok,.of_eq hg⟩
  refine codeAny_mono ((F _ hKb (nsK hns)).run callerA [] s₁ H ⟨[.ref a],[]⟩ [.ref a] [.ref a] _ _ hr e0 (hbind s₁ (.ref a)) (.cons rfl .nil) (hsp H hO hS)) λr s' h => ?_
  cases r with
  |error e=>exact(hCX H e s' h).elim
  |ok fl=>
   cases fl with
   |next=>exact False.elim h
   |brk=>exact False.elim h
   |cont=>exact False.elim h
   |ret u=>
    obtain⟨v,H',os,bare,un,hok',r',q⟩:=h;have q':v = .bl true:=q;subst q';obtain rfl:u=Value.bool true:=r';refine⟨rfl,OldK.of_keep λb o e => ?_,os,bare⟩;cases q:H b with
    |none=>exact un.keep b o e q (by intro z;exact absurd (show b∈([]:List Addr)from z) (by simp)) (by simp)
    |some u=>
     rcases hO b with z|⟨ob,xs,z⟩
     · rw [q]at z;cases z
     · have z2:=un.frzs b ob _ z
       obtain⟨e1,_⟩:=hok b _ z;obtain⟨e2,_⟩:=hok' b _ z2;rw [e]at e1;cases e1;exact e2
 cases hk:K.lookup a with
 |some o=>
  have e:=KX a o hk;rw [ha]at e;cases e;refine core (λ_=>none) (λ_ => .inl rfl) (.inr ⟨_,vs.toArray,_,hk,rfl,rfl,rfl,by rw [List.size_toArray,lenV];exact hl,by simpa using rv⟩) (λb u z=>by have z':(none:Option HO)=some u:=z;cases z') (λb z=>absurd rfl z) λz=>absurd rfl z
 |none=>
  refine core (λb=>if b=a then some (.frz { cls := .type "list",data := .seq vs.toArray } (.lst (ns.map V.int)))else none) (λb => ?_) (.inl (.inr ⟨{ cls := .type "list",data := .seq vs.toArray },if_pos rfl⟩)) (λb u z => ?_) (λb z => ?_) λ_=>hk
  · by_cases hb:b=a
    · exact .inr ⟨_,_,if_pos hb⟩
    · exact .inl (if_neg hb)
  · by_cases hb:b=a
    · have z':=(if_pos hb).symm.trans z
      cases z';subst hb;exact⟨ha,by rw [List.length_map];exact hl,vs,_,rv,ha⟩
    · have z':=(if_neg hb).symm.trans z
      cases z'
  · by_cases hb:b=a
    · exact hb
    · exact absurd (if_neg hb) z
end L2
namespace L2
open PySem PySem.Spec PyProof.Rows
theorem walk_of {l:PySem.W.OpenLaw} {n k:Nat} {q:Program} {loose:List Str} {XP:(Str->Option Value)->Heap->Prop} {YP:World->Heap->Prop} {d:DefRec} {K:Params->PySem.W.Frag} {CX:World->CXT} {sp:World->Sp} {x:Str}
 (hn:l.most=some n) (hn2:n<=sizeLine) (hdf:d.params.defaults=[]) (hr:Room k callerA)
 (hY:∀(w:World)(h:Heap),YP w h->(K w.params).In h)
 (F:∀(w:World)(mg:Str->Option Value)(fa:Addr)(h:Heap),(K w.params).In h->h.Ns mainGlobals mg->mg d.name=some (.ref fa) ->
   ∃fd:FuncData,(∀(s:Shared)(u:Value),BindsTo s fd ⟨[u],[]⟩ [(x,u)]) /\
    ∀base:Heap,(K w.params).In base->base.Ns mainGlobals mg->FnOk l.prog w (K w.params) mg base (CX w) k fa fd [x] (sp w))
 (hsp:∀(w:World)(H:Hp)(a:Addr)(ns:List Int),ns.length<=n->Zia H->SqL (K w.params) H a (ns.map V.int)->sp w [.ref a] H (λv _=>v = .bl true) λ_ _ _=>False)
 (hCX:∀(w:World)(H:Hp)(s:Shared)(e:Value)(s':Shared),CX w [] H s (λ_ _ _=>False) e s'->False) :
 PySem.W.WalkO q loose XP YP l.row.toRowW d [] (λf vs=>PySem.call f vs):=by
 refine Att.attach_call hn hdf λw s₀ s₁ mg mb fa o pm cd doc a vs ns G Y ho hd hcd hmg hobj hints hlen hg => ?_
 have KX:=hY w _ Y;obtain⟨fd,hb,hF⟩:=F w mg fa _ KX G.T.g hmg;exact Zet KX G.T.g G.T.b G.T.builtins G.T.nolimit hg hobj hints (Nat.le_trans hlen hn2) hr hF hb (λH hO hS=>hsp w H a ns hlen hO hS) λH e s'=>hCX w H s₁ e s'
end L2
namespace L2
open PySem PySem.Spec PyProof.Rows
def defArgs(s:Stmt):Arguments:=match s with
 | .FunctionDef _ a _ _ _ _ _ _ _ _=>a
 |_=>{ posonlyargs:=[],args:=[],vararg:=none,kwonlyargs:=[],kw_defaults:=[],kwarg:=none,defaults:=[] }
def defBody(s:Stmt):List Stmt:=match s with
 | .FunctionDef _ _ b _ _ _ _ _ _ _=>b
 |_=>[]
def defScope(s:Stmt):Scope:=match s with
 | .FunctionDef _ _ _ _ _ _ sc _ _ _=>sc
 |_=>{ kind := .function,names:=[],isGenerator:=false,isCoroutine:=false }
abbrev CX0:CXT:=λ_ _ _ _ _ _=>False
abbrev E0:XK:=λ_ _ _=>False
theorem ZL{X:Cx}:ZcY CX0 X E0:=λ_ _ _ _ _ _ _ h=>h.elim
structure Fun(K:PySem.W.Frag)(x qual:Str)(st:Stmt)(f:Addr)(fd:FuncData):Prop where
 ex:∃(oc:Value) (od:Option Addr) (kV doc pm:Value) (an:Option Addr) (cdv ct:Value) (osl:Array (Option Value)),
  fd=fnOf x qual (defArgs st) (defBody st) (defScope st) .none kV doc pm an cdv ct/\K.lookup f=some ⟨oc,od,.func fd,osl⟩/\codeIn K cdv qual=true
 kp:keepIn K (.ref f)=true
section
variable{P:Program}{w:World}{K:PySem.W.Frag}{mg:Str->Option Value}{base:Heap}
theorem Fun.ok {x qual:Str} {st:Stmt} {f:Addr} {fd:FuncData} {N ps:List Str} {k:Nat} {sp:Sp} (F:Fun K x qual st f fd) (S:FnScope N ps (defScope st)) (len:∀vs H Q E,sp vs H Q E->vs.length=ps.length)
 (hbody:∀(cdv:Value)(A:Around)(outer:List Env)(s:Shared)(H:Hp)(vs:List V)(Q:VK)(E:XK),Room k (A.deeper (envOfC qual (defScope st) s.heap.objs.size f cdv))->sp vs H Q E ->
   ∃t,PSs (Xa CX0 P w K mg base N qual (defScope st) f cdv A outer s H E).nox (defBody st) t/\t { nx:=λ_ H'=>Q .non H',rt:=Q } (start N vs) H):FnOk P w K mg base CX0 (k+1) f fd ps sp:=by
 obtain⟨oc,od,kV,doc,pm,an,cdv,ct,osl,rfl,lk,hcd⟩:=F.ex;refine ZgP lk hcd S len λA outer s H vs Q E hr hsp => ?_
 obtain⟨t,h,q⟩:=hbody cdv A outer s H vs Q E hr hsp;exact⟨t,h.nox,q⟩
theorem Fun.binds {x qual:Str} {st:Stmt} {f:Addr} {fd:FuncData} {ps:List Str} (F:Fun K x qual st f fd)
 (h:∀(kV doc pm:Value)(an:Option Addr)(cdv ct:Value)(us:List Value),us.length=ps.length->bindArgs (fnOf x qual (defArgs st) (defBody st) (defScope st) .none kV doc pm an cdv ct) ⟨us,[]⟩=pure (ps.zip us)):Binds K fd ps []:=by
 obtain⟨oc,od,kV,doc,pm,an,cdv,ct,osl,rfl,lk,hcd⟩:=F.ex;exact .all (h kV doc pm an cdv ct)
theorem ZC {x qual:Str} {st:Stmt} {f:Addr} {oc:Value} {od an:Option Addr} {osl:Array (Option Value)} {kV doc pm cdv ct:Value} (l:K.lookup f=some ⟨oc,od,.func (fnOf x qual (defArgs st) (defBody st) (defScope st) .none kV doc pm an cdv ct),osl⟩)
 (c:codeIn K cdv qual=true) (k:keepIn K (.ref f)=true):Fun K x qual st f (fnOf x qual (defArgs st) (defBody st) (defScope st) .none kV doc pm an cdv ct):=⟨⟨oc,od,kV,doc,pm,an,cdv,ct,osl,rfl,l,c⟩,k⟩
end
section
variable{X:Cx}
theorem pv (i:Nat) {x:Str} {pos:Pos} (hN:X.N[i]? = some x:=by rfl) (hv:Vis X.env.scope x:=by first|exact Or.inl rfl|exact Or.inr (Or.inl rfl)|exact Or.inr (Or.inr rfl)) (hd:(x == ("__debug__" : Str))=false:=by decide)
 (hcd:(x == ("__classdict__" : Str))=false:=by decide):PE X (.Name x pos) (YM i):=Zg8 hN hv hd hcd
end
theorem XH{A B:Prop}(h:B):if false=true then A else B:=by
 rw [if_neg Bool.false_ne_true];exact h
theorem XI{A B:Prop}(h:A):if true=true then A else B:=by
 rw [if_pos rfl];exact h
def Same(H H':Hp):Prop:=∀b o,H b=some o->H' b=some o
theorem Same.refl(H:Hp):Same H H:=λ_ _ h=>h
theorem Same.trans{H H1 H2:Hp}(a:Same H H1)(b:Same H1 H2):Same H H2:=λc o h=>b c o (a c o h)
theorem Same.free{H H':Hp}(e:Same H H'){l:Addr}(h:H' l=Option.none):H l=Option.none:=by
 cases q:H l with
 |none=>rfl
 |some o=>
  rw [e l o q]at h;cases h
theorem Same.seq{K:PySem.W.Frag}{H H':Hp}{a:Addr}{xs:List V}(e:Same H H')(h:SqL K H a xs):SqL K H' a xs:=by
 rcases h with(h|⟨o,h⟩)|h
 · exact .inl (.inl (e _ _ h))
 · exact .inl (.inr ⟨o,e _ _ h⟩)
 · exact .inr h
end L2
namespace HT
open PySem PySem.W PySem.Calls PyProof.Rows
def de(P:Params)(x:Str)(t:Nat)(v:Value):DictEntry:=⟨PyData.keyHash P x,.str x t,v⟩
def dO(c:Value)(es:List DictEntry)(n:Nat):Obj:=⟨c,none,.dict es.toArray n,#[]⟩
def cO(vs:List Value):Obj:=⟨.type "code",none,.fields vs.toArray,#[]⟩
def fO(x q:Str)(st:Stmt)(dv kv doc pm:Value)(an:Option Addr)(cd ct:Value):Obj:=⟨.type "function",none,.func (fnOf x q (L2.defArgs st) (L2.defBody st) (L2.defScope st) dv kv doc pm an cd ct),#[]⟩
def c3(x q:Str)(t l a n r:Nat)(r2:Nat)(v w:Value)(r3 k k2:Nat):Obj:=cO [.str x t,.str q (t+1),.str "/claim/cut.py" (t+2),.int l 0,.int a 0,.int 0 0,.int 0 0,.int n 0,.ref r,.bool true,.int 181 0,.ref r2,.none,v,w,.ref r3,.int k 0,.int l 0,.str "/claim/cut.py" k2]
def f3(x q:Str)(st:Stmt)(m:Str)(t c:Nat):Obj:=fO x q st .none .none .none (.str m t) none (.ref c) .none
def met{α:Type}(_:α):Bool:=true
noncomputable def Zit(P:Params):BT:=
 ((((((((((BT.nil.ins 0 (boot_o_0 P)).ins 1 (boot_o_1 P)).ins 2 (boot_o_2 P)).ins 3 (boot_o_3 P)).ins 4 (boot_o_4 P)).ins 5 (boot_o_5 P)).ins 6 (boot_o_6 P)).ins 7 (boot_o_7 P)).ins 8 (boot_o_8 P)).ins 9 (boot_o_9 P)).ins 10 (boot_o_10 P)
noncomputable abbrev S0(w:World)(os:OsState):Shared:=⟨boot_heap w.params,Array.mk [],boot_drawn,boot_toks,os⟩
noncomputable abbrev S0T(w:World)(os:OsState):SharedT:=⟨Zit w.params,11,(boot_heap w.params).life,Array.mk [],boot_drawn,boot_toks,os⟩
theorem Zko(w:World)(os:OsState):(S0T w os).abs=S0 w os:=rfl
noncomputable def Zib(thr ok:Thread->Bool)(st:SharedT->Thread->Option (SharedT×Thread))(n:Nat):SharedT->Thread->Option SharedT:=
 @Nat.rec (λ_=>SharedT->Thread->Option SharedT) (λ_ _=>none)
  (λ_ ih s t => @Bool.rec (λ_=>Option SharedT) (@Bool.rec (λ_=>Option SharedT) none (@Option.rec (SharedT×Thread) (λ_=>Option SharedT) none (λr=>ih r.1 r.2) (st s t)) (ok t)) (some s) (thr t)) n
theorem Zb5{tb:String->Option Builtin}{p:Program}{w:World}{n₀:Nat}{ann:Option Value}:∀{n:Nat}{s s':SharedT}{t:Thread},Zib through (stepOk n₀ ann) (stepT (denote tb) p w) n s t=some s'->topRun tb p w n₀ ann n s.abs t=some s'.abs
 |0,_,_,_,h=>by cases h
 |n+1,s,s',t,h=>by
  replace h : @Bool.rec (λ_=>Option SharedT) (@Bool.rec (λ_=>Option SharedT) none (@Option.rec (SharedT×Thread) (λ_=>Option SharedT) none (λr=>Zib through (stepOk n₀ ann) (stepT (denote tb) p w) n r.1 r.2) (stepT (denote tb) p w s t)) (stepOk n₀ ann t)) (some s) (through t)=some s':=h;unfold topRun;cases ht:through t with
  |true=>rw [ht]at h;cases h;rfl
  |false=>
   rw [ht]at h;cases hk:stepOk n₀ ann t with
   |false=>rw [hk]at h;cases h
   |true=>
    rw [hk]at h;cases hs:stepT (denote tb) p w s t with
    |none=>rw [hs]at h;cases h
    |some r=>obtain⟨s₂,t₂⟩:=r;rw [hs]at h;rw [stepT_spec hs];exact Zb5 h
theorem left_of {p q:Program} {loose:List Str} {Xt:Shared->Bool} {α:Type} {Yf:Shared->α} {Ya:World->α} {N:Nat}
 (e:opening p=plainProg p.main.scope.names) (hN:Nat.ble 600 N=true) (f:∀s,fenceModules? p s=some s)
 (run:∀w:World,(λos=>(Zib through (stepOk 11 (some (.ref 6))) (stepT (denote treeTable) p w) N (S0T w os) (topStub p)).map λs=>((staticsOk (importedModules p.main.body) (boot_heap w.params) s.abs.heap&&namesBound p s.abs.heap&&gensDone s.abs&&laidKept (boot_heap w.params) s.abs.heap),
   openSeen q loose (importedModules p.main.body) Xt true s.abs,Yf s.abs))=λ_=>some (true,openGood q loose,Ya w)):LeftO p q loose Xt Yf Ya N:=λw=>by
 obtain⟨⟨h,gs,d,k,os⟩,e,e'⟩:=Option.map_eq_some_iff.mp (boot_open e hN f w);obtain⟨rfl,rfl,rfl,rfl⟩:h=boot_heap w.params/\gs=Array.mk []/\d=boot_drawn/\k=boot_toks:=by simpa using e'
 obtain⟨s1,r,l⟩:=Option.map_eq_some_iff.mp (congrFun (run w) os);obtain⟨l1,l2,l3⟩:_/\_/\_:=by simpa only [Prod.mk.injEq]using l
 have r:=Zb5 r;rw [Zko]at r;have z1:((boot_heap w.params).isNs mainGlobals&&(Array.mk []:Array GenState).size == 0)=true:=by kernel_rfl
 have z2:(boot_heap w.params).objs.size=11:=rfl;have z3:(boot_heap w.params).nsMap mainGlobals "__annotations__" = some (.ref 6):=by kernel_rfl
 have t:topFrom treeTable p w N (S0 w os)=some s1.abs:=by
  unfold topFrom;dsimp only;rw [z1,z2,z3,r];show(match staticsOk (importedModules p.main.body) (boot_heap w.params) s1.abs.heap&&namesBound p s1.abs.heap&&gensDone s1.abs&&laidKept (boot_heap w.params) s1.abs.heap with|true=>_|false=>_)=_;rw [l1]
 unfold openEnds;rw [e];show(topFrom treeTable p w N _).map _=_;rw [t];exact congrArg some (Prod.ext l2 l3)
end HT
namespace L2
open PySem Builtin Builtin.Str
abbrev tx(cs:List Nat):Str:=⟨cs.toArray⟩
theorem tx_inj{a b:List Nat}:tx a=tx b ↔ a=b:=by
 constructor
 · intro h
   have h2:a.toArray=b.toArray:=congrArg Str.cps h;simpa using h2
 · rintro rfl;rfl
theorem Jw(cs:List Nat):(tx cs).cps.toList=cs:=by simp [tx]
theorem Xm(cs:List Nat):(tx cs).length=cs.length:=by simp [tx,Str.length]
theorem Zhi(a b:List Nat):tx a++tx b=tx (a++b):=by
 show Str.mk (a.toArray++b.toArray)=Str.mk (a++b).toArray;simp
def Z4(n d:Nat):Option Int->Nat
 |none=>d
 |some v=>if v<0 then(v+(n:Int)).toNat else min v.toNat n
def cutL{α:Type}(xs:List α)(lo hi:Option Int):List α:=(xs.drop (Z4 xs.length 0 lo)).take (Z4 xs.length xs.length hi-Z4 xs.length 0 lo)
theorem Zfa(lo hi:Option Int)(n:Nat):strSliceIndices lo hi 1 n=(List.range (Z4 n n hi-Z4 n 0 lo)).map λk=>Z4 n 0 lo+k:=by
 have clip:∀v:Int,max 0 (min (if v<0 then v+(n:Int)else v) (n:Int))=(((if v<0 then(v+(n:Int)).toNat else min v.toNat n):Nat):Int):=by
  intro v
  by_cases h:v<0
  · rw [if_pos h,if_pos h];omega
  · rw [if_neg h,if_neg h];omega
 have key:∀(a b:Nat),sliceRange (a:Int) (b:Int) 1=(List.range (b-a)).map λk=>a+k:=by
  intro a b;unfold sliceRange;simp only [show(1:Int)>0 by decide,if_true]
  have e:(if(a:Int)<(b:Int)then((b:Int)-(a:Int)+1-1) / 1 else 0).toNat=b-a:=by
   split
   · rw [Int.ediv_one];omega
   · omega
  rw [e];refine List.map_congr_left λk _ => ?_
  omega
 unfold strSliceIndices;simp only [show(1:Int)>0 by decide,if_true];cases lo with
 |none=>
  cases hi with
  |none=>exact key 0 n
  |some v=>
   have:=key 0 (Z4 n n (some v));refine Eq.trans ?_ this;show sliceRange 0 (max 0 (min (if v<0 then v+(n:Int)else v) (n:Int))) 1=_;rw [clip v];rfl
 |some u=>
  cases hi with
  |none=>
   have:=key (Z4 n 0 (some u)) n;refine Eq.trans ?_ this;show sliceRange (max 0 (min (if u<0 then u+(n:Int)else u) (n:Int))) n 1=_;rw [clip u];rfl
  |some v=>
   have:=key (Z4 n 0 (some u)) (Z4 n n (some v));refine Eq.trans ?_ this;show sliceRange (max 0 (min (if u<0 then u+(n:Int)else u) (n:Int))) (max 0 (min (if v<0 then v+(n:Int)else v) (n:Int))) 1=_;rw [clip u,clip v];rfl
theorem Zb6{α:Type}(xs:List α)(l:Nat):∀k,l+k<=xs.length->((List.range k).map λj=>l+j).filterMap (λj=>xs[j]?)=(xs.drop l).take k
 |0,_=>by simp
 |k+1,h=>by
  rw [List.range_succ,List.map_append,List.filterMap_append,Zb6 xs l k (by omega)];have hx:xs[l+k]? = some (xs[l+k]'(by omega)):=List.getElem?_eq_getElem (by omega);rw [List.take_add_one,List.getElem?_drop,hx];simp [hx]
theorem ZdV(n:Nat)(o:Option Int):Z4 n n o<=n:=by
 cases o with
 |none=>exact Nat.le_refl _
 |some v=>
  show(if v<0 then(v+(n:Int)).toNat else min v.toNat n)<=n
  split<;>omega
theorem Zeu(cs:List Nat)(lo hi:Option Int):Txt.slice (tx cs) lo hi=tx (cutL cs lo hi):=by
 have hn:(tx cs).length=cs.length:=Xm cs;have hb:=ZdV cs.length hi
 have hp:((strSliceIndices lo hi 1 cs.length).filterMap λj=>cs[j]?)=cutL cs lo hi:=by
  rw [Zfa];unfold cutL
  by_cases h:Z4 cs.length 0 lo<=Z4 cs.length cs.length hi
  · exact Zb6 cs _ _ (by omega)
  · have e:Z4 cs.length cs.length hi-Z4 cs.length 0 lo=0:=by omega
    rw [e];simp
 unfold Txt.slice;rw [hn]
 by_cases hc:((1:Int) == 1&&(strSliceIndices lo hi 1 cs.length).length == cs.length)=true
 · rw [if_pos hc]
   have hl:(strSliceIndices lo hi 1 cs.length).length=cs.length:=by simpa using hc
   rw [Zfa,List.length_map,List.length_range]at hl;have e0:Z4 cs.length 0 lo=0\/cs.length=0:=by omega
   rw [tx_inj];unfold cutL;rw [hl];rcases e0 with e0|e0
   · rw [e0];simp
   · have:cs=[]:=List.eq_nil_of_length_eq_zero e0
     subst this;simp
 · rw [if_neg hc]
   have:((strSliceIndices lo hi 1 cs.length).filterMap λj=>(tx cs).cps[j]?)=cutL cs lo hi:=by
    rw [<-hp];simp [tx]
   rw [this]
end L2
namespace L2
open PySem Builtin Builtin.Str
def Jx(c:Nat):Bool:=decide (48<=c)&&decide (c<=57)
def Zic(cs:List Nat):Nat:=cs.foldl (λacc c=>acc*10+(c-48)) 0
end L2
namespace L2
open PySem PySem.Spec PyProof.Rows
section
variable{prog:Program}{w:World}{A:Around}{R:Result->Shared->Prop}{s:Shared}
theorem Zbv {elt target iter:Expr} {ifs:List Expr} {scope:Scope} {pos:Pos} {it acc:Value} {env:Env} (I:Nat->Shared->Prop)
 (turn:∀n s,I n s->wpAny (model prog w) A (pyNext it) (λr s₁=>match r with
   |none=>R (.ok .next) s₁
   |some v=>wpAny (model prog w) A (letOwnedTupleGo target it v) (λ_ s₀=>wpAny (model prog w) A (assign target env v) (λ_ s₂=>
    wpAny (model prog w) A (forIn ifs true λc r=>if r=true then do let ok <-isTrue c env (eval c env);pure (ForInStep.yield ok)else pure (ForInStep.yield r)) (λok s₃=>
     if ok=true then wpAny (model prog w) A (eval elt env) (λx s₄=>
      wpAny (model prog w) A (call (.builtin "list.append") [acc,x]) (λ_ s₅=>∃m,m<n/\I m s₅) (notedBy (model prog w) A env λe s'=>R (.error e) s') s₄) (notedBy (model prog w) A env λe s'=>R (.error e) s') s₃
     else ∃m,m<n/\I m s₃) (notedBy (model prog w) A env λe s'=>R (.error e) s') s₂) (notedBy (model prog w) A env λe s'=>R (.error e) s') s₀) (notedBy (model prog w) A env λe s'=>R (.error e) s') s₁) (notedBy (model prog w) A env λe s'=>R (.error e) s') s)
 (n:Nat) (h:I n s) :
 codeAny (model prog w) A (.compLoop (.ListComp elt [⟨target,iter,ifs,0⟩] scope pos) 0 it acc env) R s:=by
 refine codeAny_loop rfl I (λn s hI => ?_) n h;show wpAny _ A ((compTurn (.ListComp elt [⟨target,iter,ifs,0⟩] scope pos) 0 it acc env).onRaise (λx=>do noteFrame x env;theTreesLotGoes x)) _ _ s;refine wpAny_noted ?_;rw [compTurn_list];refine wpAny_bind (wpAny_standAt (wpAny_bind (wpAny_mono (turn n s hI) (λr s₁ h₁ => ?_) λ_ _ h'=>h')));cases r with
 |none=>exact wpAny_pure h₁
 |some v=>
  refine wpAny_bind (wpAny_mono h₁ (λ_ s₀ h₀ => ?_) λ_ _ h'=>h');refine wpAny_bind (wpAny_mono h₀ (λ_ s₂ h₂=>wpAny_bind (wpAny_mono h₂ (λok s₃ h₃ => ?_) λ_ _ h'=>h')) λ_ _ h'=>h');cases ok with
  |false=>exact wpAny_pure ⟨rfl,h₃⟩
  |true=>
   exact wpAny_bind (wpAny_bind (wpAny_mono h₃ (λx s₄ h₄=>wpAny_bind (wpAny_mono h₄ (λ_ s₅ h₅=>wpAny_pure (wpAny_pure ⟨rfl,h₅⟩)) λ_ _ h'=>h')) λ_ _ h'=>h'))
end
def YI(cells:List (Str×Addr)):List (Str×NameKind)->List (Str×Addr)->List (Str×Addr)
 | [],acc=>acc
 |(n,k)::r,acc=>YI cells r (if(k == .free)=true then(n,(cells.lookup n).getD 0)::acc else acc)
theorem Zab{env:Env}:∀(names:List (Str×NameKind))(acc:List (Str×Addr)),(∀x∈names,x.2 = .free->∃c,env.cells.lookup x.1=some c) ->
 (forIn names acc λ(x:Str×NameKind) (r:List (Str×Addr))=>match x with
   |(name,kind)=>if(kind == .free)=true then(do let c <-cellOf env name;pure (ForInStep.yield ((name,c)::r)))else pure (ForInStep.yield r))=(pure (YI env.cells names acc):Sem _)
 | [],acc,_=>rfl
 |(n,k)::r,acc,h=>by
  rw [List.forIn_cons];show((if(k == .free)=true then(do let c <-cellOf env n;pure (ForInStep.yield ((n,c)::acc)))else pure (ForInStep.yield acc)) >>= _)=_
  by_cases hk:(k == .free)=true
  · obtain⟨c,hc⟩:=h (n,k) List.mem_cons_self (by simpa using hk)
    have e:cellOf env n=pure c:=by
     unfold cellOf;rw [hc]
    rw [if_pos hk,e];show(forIn r ((n,c)::acc) _:Sem _)=_;rw [Zab r _ λx hx=>h x (List.mem_cons_of_mem _ hx)]
    conv=>rhs;unfold YI
    rw [if_pos hk,hc];rfl
  · rw [if_neg hk]
    show(forIn r acc _:Sem _)=_;rw [Zab r _ λx hx=>h x (List.mem_cons_of_mem _ hx)]
    conv=>rhs;unfold YI
    rw [if_neg hk]
theorem Zai{scope:Scope}{env:Env}(h:∀x∈scope.names,x.2 = .free->∃c,env.cells.lookup x.1=some c):closureFor scope env=pure (YI env.cells scope.names []):=by
 have e:=Zab (env:=env) scope.names [] h;unfold closureFor;show((forIn scope.names ([]:List (Str×Addr)) _:Sem _) >>= λcs=>pure cs)=_
 have e2:(forIn scope.names ([]:List (Str×Addr)) λ(x:Str×NameKind) (r:List (Str×Addr))=>match x with
  |(name,kind)=>if(kind == .free)=true then(do let c <-cellOf env name;pure (ForInStep.yield ((name,c)::r)))else pure (ForInStep.yield r))=(pure (YI env.cells scope.names []):Sem _):=e
 rw [e2];rfl
theorem Vt{cells:List (Str×Addr)}{x:Str}{c:Addr}:∀(names:List (Str×NameKind))(acc:List (Str×Addr)),(∀y∈names,y.2 = .free->∃c,cells.lookup y.1=some c) ->
 (∀c,acc.lookup x=some c->cells.lookup x=some c)->(YI cells names acc).lookup x=some c->cells.lookup x=some c
 | [],acc,_,ha,h=>ha c h
 |(n,k)::r,acc,hf,ha,h=>by
  unfold YI at h;refine Vt r _ (λy hy=>hf y (List.mem_cons_of_mem _ hy)) (λc' h' => ?_) h
  by_cases hk:(k == .free)=true
  · rw [if_pos hk]at h'
    obtain⟨c0,hc0⟩:=hf (n,k) List.mem_cons_self (by simpa using hk);rw [List.lookup_cons]at h';cases hx:x == n with
    |true=>
     rw [hx]at h';have e:x=n:=eq_of_beq hx;subst e;have h'':(cells.lookup x).getD 0=c':=Option.some.inj h';have hc0':cells.lookup x=some c0:=hc0;rw [hc0']at h'' ⊢;exact congrArg some h''
    |false=>
     rw [hx]at h';exact ha c' h'
  · rw [if_neg hk]at h'
    exact ha c' h'
theorem Zat{cells:List (Str×Addr)}{x:Str}:∀(names:List (Str×NameKind))(acc:List (Str×Addr)),((x,NameKind.free)∈names\/∃c,acc.lookup x=some c)->∃c,(YI cells names acc).lookup x=some c
 | [],acc,h=>by
  rcases h with h|h
  · cases h
  · exact h
 |(n,k)::r,acc,h=>by
  unfold YI;refine Zat r _ ?_;rcases h with h|⟨c,h⟩
  · rcases List.mem_cons.mp h with e|e
    · cases e
      refine .inr ⟨(cells.lookup x).getD 0,?_⟩;rw [if_pos (by rfl),List.lookup_cons];simp
    · exact .inl e
  · refine .inr ?_
    by_cases hk:(k == .free)=true
    · rw [if_pos hk,List.lookup_cons]
      cases hx:x == n with
      |true=>exact⟨_,rfl⟩
      |false=>exact⟨c,h⟩
    · rw [if_neg hk]
      exact⟨c,h⟩
structure CompSc(X:Cx)(scope:Scope)(tn cn:List Str)(js:List Nat):Prop where
 kind:scope.kind = .function
 nocell:∀y∈scope.names,y.2 ≠ .cell
 names:∀y∈scope.names,y.2 = .local->scope.names.lookup y.1=some .local
 free:∀y∈scope.names,y.2 = .free->X.env.kindOf y.1=some .cell\/X.env.kindOf y.1=some .free
 cap:∀(k:Nat)(x:Str),cn[k]? = some x->∃j,js[k]? = some j/\X.N[j]? = some x/\(X.env.kindOf x=some .cell\/X.env.kindOf x=some .free)/\scope.names.lookup x=some .free
 len:cn.length=js.length
def Jy(onames:List (Str×NameKind))(oN:List Str)(names:List (Str×NameKind))(cn:List Str)(js:List Nat):Bool:=
 names.all (λy => !(y.2 == .cell))&&names.all (λy => !(y.2 == .local)||(names.lookup y.1 == some .local)) &&
 names.all (λy => !(y.2 == .free)||(onames.lookup y.1 == some .cell||onames.lookup y.1 == some .free)) &&
 ((cn.zip js).all λp=>oN[p.2]? == some p.1&&(onames.lookup p.1 == some .cell||onames.lookup p.1 == some .free)&&names.lookup p.1 == some .free)&&(cn.length == js.length)
theorem CompSc.mk'{X:Cx}{scope:Scope}{tn cn:List Str}{js:List Nat}{osc:Scope}{oN:List Str}(hk:scope.kind = .function)(ho:X.env.scope=osc)(hN:X.N=oN)(h:Jy osc.names oN scope.names cn js=true):CompSc X scope tn cn js:=by
 unfold Jy at h;simp only [Bool.and_eq_true]at h;obtain⟨⟨⟨⟨h1,h2⟩,h3⟩,h4⟩,h5⟩:=h;rw [List.all_eq_true]at h1 h2 h3 h4;have hlen:cn.length=js.length:=by simpa using h5
 refine⟨hk,λy hy => ?_,λy hy e => ?_,λy hy e => ?_,λk x e => ?_,hlen⟩
 · have:=h1 y hy
   simpa using this
 · have:=h2 y hy
   simpa [e]using this
 · have:=h3 y hy
   unfold Env.kindOf;rw [ho];simpa [e]using this
 · have hkl:k<cn.length:=(List.getElem?_eq_some_iff.mp e).1
   have hkj:k<js.length:=by omega
   refine⟨js[k],by simp [hkj],?_⟩
   have hz:(x,js[k])∈cn.zip js:=by
    have e2:(cn.zip js)[k]? = some (x,js[k]):=by
     rw [List.getElem?_zip_eq_some];exact⟨e,by simp [hkj]⟩
    exact List.mem_of_getElem? e2
   have:=h4 _ hz;unfold Env.kindOf;rw [ho,hN];simp only [Bool.and_eq_true,Bool.or_eq_true,beq_iff_eq]at this;exact⟨this.1.1,this.1.2,this.2⟩
def Qw(σ:St)(js:List Nat):St:=js.map λj=>(σ[j]?).getD none
def blk(n:Nat)(σ:St)(js:List Nat):St:=List.replicate n none++Qw σ js
def UT(X:Cx)(scope:Scope)(N':List Str)(C:Addr)(s₂:Shared)(H₂:Hp)(fp:List Addr)(xe:Value->Shared->Prop):Cx:=
 { X with N:=N',s₀:=s₂,H₀:=H₂,env:=compEnvC scope (YI X.env.cells scope.names []) C X.env,outer:=X.stack,ex:=fp,fn:=λ_=>false,pn:=[],xe:=xe }
section
variable{X:Cx}{pins:List (Addr×Obj)}{σ:St}{H₂:Hp}{s₂:Shared}{scope:Scope}{tn cn:List Str}{js:List Nat}
theorem CompSc.clos(S:CompSc X scope tn cn js)(ok:X.Ok):∀y∈scope.names,y.2 = .free->∃c,X.env.cells.lookup y.1=some c:=λy hy e=>ok.has y.1 (S.free y hy e)
theorem Zaa{env:Env}:∀{names:List (Str×NameKind)}{x:Str}{k:NameKind},(names.map λ(n,k)=>if(k == NameKind.free&&env.scope.kind == .function&&env.kindOf n == some .cell)then(n,NameKind.cell)else(n,k)).lookup x=some k ->
 (k = .cell\/k = .free)->(∀y∈names,y.2 ≠ .cell)->(x,NameKind.free)∈names
 | [],_,_,h,_,_=>by simp at h
 |(n,k0)::r,x,k,h,hk,hc=>by
  have ih := @Zaa env r x k;have h:List.lookup x ((if(k0 == NameKind.free&&env.scope.kind == .function&&env.kindOf n == some .cell)=true then(n,NameKind.cell)else(n,k0))::_)=_:=h
  by_cases hb:(k0 == NameKind.free&&env.scope.kind == .function&&env.kindOf n == some .cell)=true
  · rw [if_pos hb,List.lookup_cons]at h
    have e0:k0 = .free:=by
     simp only [Bool.and_eq_true]at hb;simpa using hb.1.1
    cases hx:x == n with
    |true=>
     have e:x=n:=eq_of_beq hx;subst e;subst e0;exact List.mem_cons_self
    |false=>
     rw [hx]at h;exact List.mem_cons_of_mem _ (ih h hk λy hy=>hc y (List.mem_cons_of_mem _ hy))
  · rw [if_neg hb,List.lookup_cons]at h
    cases hx:x == n with
    |true=>
     rw [hx]at h;have e:x=n:=eq_of_beq hx;have e0:k0=k:=Option.some.inj h;subst e;subst e0;rcases hk with hk|hk
     · exact absurd hk (hc (x,k0) List.mem_cons_self)
     · subst hk
       exact List.mem_cons_self
    |false=>
     rw [hx]at h;exact List.mem_cons_of_mem _ (ih h hk λy hy=>hc y (List.mem_cons_of_mem _ hy))
theorem Zam{env:Env}:∀{names:List (Str×NameKind)}{x:Str},names.lookup x=some .free ->
 (names.map λ(n,k)=>if(k == NameKind.free&&env.scope.kind == .function&&env.kindOf n == some .cell)then(n,NameKind.cell)else(n,k)).lookup x=some .cell \/
 (names.map λ(n,k)=>if(k == NameKind.free&&env.scope.kind == .function&&env.kindOf n == some .cell)then(n,NameKind.cell)else(n,k)).lookup x=some .free
 | [],_,h=>by simp at h
 |(n,k0)::r,x,h=>by
  have ih := @Zam env r x
  show List.lookup x ((if(k0 == NameKind.free&&env.scope.kind == .function&&env.kindOf n == some .cell)=true then(n,NameKind.cell)else(n,k0))::_)=_ \/
   List.lookup x ((if(k0 == NameKind.free&&env.scope.kind == .function&&env.kindOf n == some .cell)=true then(n,NameKind.cell)else(n,k0))::_)=_
  cases hx:x == n with
  |true=>
   simp only [List.lookup_cons,hx]at h;cases h
   by_cases hb:(NameKind.free == NameKind.free&&env.scope.kind == .function&&env.kindOf n == some .cell)=true
   · rw [if_pos hb];simp [List.lookup_cons,hx]
   · rw [if_neg hb];simp [List.lookup_cons,hx]
  |false=>
   simp only [List.lookup_cons,hx]at h
   by_cases hb:(k0 == NameKind.free&&env.scope.kind == .function&&env.kindOf n == some .cell)=true
   · rw [if_pos hb];simp only [List.lookup_cons,hx];exact ih h
   · rw [if_neg hb];simp only [List.lookup_cons,hx];exact ih h
theorem ZfY{C:Addr}{fp:List Addr}{xe:Value->Shared->Prop}(S:CompSc X scope tn cn js)(I:Inv X pins σ H₂ s₂)(hC:s₂.heap.objs.size<=C)(hf:∀b∈fp,YO X pins H₂ b)(ho:∀b∈fp,∃o,s₂.heap.get? b=some o/\∀v,o.data ≠ .cell v) :
 (UT X scope (tn++cn) C s₂ H₂ fp xe).Ok where
 mod:=I.ok.mod
 kind:=S.kind
 glob:=I.ok.glob
 blt:=I.ok.blt
 above:=hC
 inj:=λx y c h1 h2=>I.ok.inj x y c (Vt _ [] (S.clos I.ok) (λ_ z=>by cases z) h1) (Vt _ [] (S.clos I.ok) (λ_ z=>by cases z) h2)
 has:=λx hx=>by
  refine Zat _ _ (.inl ?_);rcases hx with hx|hx
  · exact Zaa (env:=X.env) (k:=.cell) hx (Or.inl (Eq.refl NameKind.cell)) S.nocell
  · exact Zaa (env:=X.env) (k:=.free) hx (Or.inr (Eq.refl NameKind.free)) S.nocell
 cab:=λx c h _=>by cases h
 hd:=I.ok.hd
 frames:=I.ok.frames
 stk := .inl rfl
 exf:=λb hb=>by
  obtain⟨o,e,_⟩:=ho b hb;obtain⟨_,_,_,_,f4,_⟩:=hf b hb;exact⟨Nat.ne_of_lt (Nat.lt_of_lt_of_le (Heap.lt_size e) hC),λx c h=>f4 x c (Vt _ [] (S.clos I.ok) (λ_ z=>by cases z) h)⟩
 bs:=I.bs
 bsz:=Nat.le_trans I.ok.bsz I.sz
 noex:=λb o e hb=>by
  obtain⟨_,_,_,f3,_,_⟩:=hf b hb;rcases f3 with z|z
  · exact I.ok.noex b o e z
  · exact absurd (Nat.lt_of_lt_of_le (Heap.lt_size (I.ok.bs b o e).1) z) (Nat.lt_irrefl _)
 exfs:=λb hb z=>by
  obtain⟨_,f1,f2,_,_,_⟩:=hf b hb;exact(List.mem_cons.mp (I.stkSub b z)).elim f1 f2
 funs:=I.stack
 frf:=I.stkFree
theorem Zbc {C:Addr} {fp:List Addr} {s:Shared} {H:Hp} {m:Str->Option Value} (S:CompSc X scope tn cn js) (I:Inv X pins σ H₂ s₂) (hf:∀b∈fp,YO X pins H₂ b)
 (u:Un (frs X.stack) fp H₂ H s₂.heap s.heap) :
 ∀(i:Nat)(x:Str)(v:V),(tn++cn)[i]? = some x->(blk tn.length σ js)[i]? = some (some v)->∃z,RelV v z/\Zj5 (compEnvC scope (YI X.env.cells scope.names []) C X.env) s.heap m x z:=by
 intro i x v e1 e2;unfold blk at e2
 by_cases hi:i<tn.length
 · rw [List.getElem?_append_left (by simpa using hi),List.getElem?_replicate,if_pos hi]at e2
   cases e2
 · have hi':tn.length<=i:=by omega
   rw [List.getElem?_append_right hi']at e1;rw [List.getElem?_append_right (by simpa using hi'),List.length_replicate]at e2;obtain⟨j,hj,hN,hk,hm⟩:=S.cap _ _ e1;unfold Qw at e2;rw [List.getElem?_map,hj]at e2;have e3:(σ[j]?).getD none=some v:=Option.some.inj e2
   have e4:σ[j]? = some (some v):=by
    cases q:σ[j]? with
    |none=>rw [q]at e3;cases e3
    |some z=>rw [q]at e3;exact congrArg some e3
   obtain⟨m0,_,hl⟩:=I.loc
   have hv:Vis X.env.scope x:=by
    rcases hk with hk|hk
    · exact .inr (.inl hk)
    · exact .inr (.inr hk)
   obtain⟨z,rz,l⟩:=hl j x v hN e4 hv;refine⟨z,rz,?_⟩
   obtain⟨c,hc,ob,ho,hd⟩:∃c,X.env.cells.lookup x=some c/\s₂.heap.IsCell c (some z):=by
    rcases l with⟨k,_⟩|⟨_,c,hc,q⟩
    · rcases hk with hk|hk
      · rw [hk]at k;cases k
      · rw [hk]at k;cases k
    · exact⟨c,hc,q⟩
   obtain⟨c',hc'⟩:=Zat (cells:=X.env.cells) (x:=x) scope.names [] (.inl (PySem.mem_of_lookup hm))
   have ec:c'=c:=by
    have:=Vt _ [] (S.clos I.ok) (λ_ z=>by cases z) hc';rw [hc]at this;exact(Option.some.inj this).symm
   subst ec;have nf:c'∉fp:=λhb=>(hf c' hb).2.2.2.2.1 x c' hc rfl
   obtain⟨sl,q⟩:=u.any ho (I.freeC x c' hc) nf;exact .inr ⟨Zam hm,c',hc',⟨_,q,hd⟩⟩
theorem Zdi(S:CompSc X scope tn cn js):(blk tn.length σ js).length=(tn++cn).length:=by
 unfold blk Qw;rw [List.length_append,List.length_append,List.length_replicate,List.length_map,S.len]
theorem ZcD {C:Addr} {fp:List Addr} {xe:Value->Shared->Prop} {s:Shared} {H:Hp} {σ':St} {pins':List (Addr×Obj)} (S:CompSc X scope tn cn js) (I:Inv X pins σ H₂ s₂) (hf:∀b∈fp,YO X pins H₂ b)
 (I':Inv (UT X scope (tn++cn) C s₂ H₂ fp xe) pins' σ' H s):Inv (UT X scope (tn++cn) C s₂ H₂ fp xe) pins' (blk tn.length σ js) H s:=by
 obtain⟨m,hn,_⟩:=id I'.loc;exact⟨I'.ok,I'.os,I'.bare,I'.base,⟨m,hn,λi x v e1 e2 _=>Zbc S I hf I'.base i x v e1 e2⟩,I'.cell,I'.free,I'.freeC,I'.pin,I'.hok,Zdi S⟩
theorem ZcE {C D:Addr} {fp:List Addr} {xe:Value->Shared->Prop} {h:Heap} {tk:Nat} {ob:Obj} {m:Str->Option Value} (S:CompSc X scope tn cn js) (I:Inv X pins σ H₂ s₂) (hC:s₂.heap.objs.size<=C) (hD:s₂.heap.objs.size<=D) (hDC:D≠C)
 (hf:∀b∈fp,YO X pins H₂ b) (ho:∀b∈fp,∃o,s₂.heap.get? b=some o/\∀v,o.data ≠ .cell v) (k:∀b o,s₂.heap.get? b=some o->h.get? b=some o) (hn:h.Ns C m) (hob:h.get? D=some ob) (hcell:∀v,ob.data ≠ .cell v) :
 Inv (UT X scope (tn++cn) C s₂ H₂ fp xe) [(D,ob)] (blk tn.length σ js) H₂ { s₂ with heap:=h,toks:=tk }:=by
 have ok:=ZfY (xe:=xe) S I hC hf ho;have u:Un (frs X.stack) fp H₂ H₂ s₂.heap h:=Un.kept k;refine⟨ok,rfl,I.bare,u,⟨m,hn,λi x v e1 e2 _=>Zbc (s:={ s₂ with heap:=h,toks:=tk }) S I hf u i x v e1 e2⟩,λx c e => ?_,I.hok.fresh hC,λx c e => ?_,λp hp => ?_,I.hok.kept k,Zdi S⟩
 · obtain⟨v,o,q,d⟩:=I.cell x c (Vt _ [] (S.clos I.ok) (λ_ z=>by cases z) e)
   exact⟨v,o,k c o q,d⟩
 · exact I.freeC x c (Vt _ [] (S.clos I.ok) (λ_ z=>by cases z) e)
 · have e : p = (D, ob) := by
    have:p∈([]:List (Addr×Obj))++[(D,ob)]:=hp;simpa using this
   subst e;refine⟨hob,I.hok.fresh hD,hDC,λz => ?_,hcell⟩;have z:D∈frs X.stack:=z;rcases List.mem_cons.mp (I.stkSub D z)with e|e
   · exact absurd (Nat.lt_of_lt_of_le I.lt (by rw [<-e];exact hD)) (Nat.lt_irrefl _)
   · exact I.nofs hD e
theorem Zb7 {C D:Addr} {fp:List Addr} {xe:Value->Shared->Prop} {s:Shared} {H:Hp} {σ':St} {ys:List V} {its:List Value} {n:Nat} {h':Heap} (S:CompSc X scope tn cn js) (I:Inv X pins σ H₂ s₂) (hC:s₂.heap.objs.size<=C) (hD:s₂.heap.objs.size<=D) (hDC:D≠C)
 (hf:∀b∈fp,YO X pins H₂ b) (I':Inv (UT X scope (tn++cn) C s₂ H₂ fp xe) [(D,{ cls := .type "list",data := .seq its.toArray n })] σ' H s) (hv:Vals ys its) (hz:ys.length<=sizeLine) (hs:Heap.SameBut C s.heap h') :
 Inv X pins σ (upd H D (.lst ys)) { s with heap:=h' }:=by
 have pd:=I'.pin (D,{ cls := .type "list",data := .seq its.toArray n }) (List.mem_append_right _ List.mem_cons_self);have pd1:s.heap.get? D=some { cls := .type "list",data := .seq its.toArray n }:=pd.1;have pd2:H D=none:=pd.2.1;have hD':h'.get? D=some { cls := .type "list",data := .seq its.toArray n }:=(hs.2 D hDC).trans pd1;have hCf:H C=none:=I'.free;have old:∀b o,s₂.heap.get? b=some o->b≠C/\b≠D:=λb o e=>⟨Nat.ne_of_lt (Nat.lt_of_lt_of_le (Heap.lt_size e) hC),Nat.ne_of_lt (Nat.lt_of_lt_of_le (Heap.lt_size e) hD)⟩
 have u:=I'.base;have u:Un (frs X.stack) fp H₂ H s₂.heap s.heap:=u;refine I.call' (s':={ s with heap:=h' }) (ch:=fp) (H':=upd H D (.lst ys)) I'.os ⟨λb o e n hb hx => ?_,λb o e n hb hx => ?_,λb o e n hx => ?_,λb o e hx => ?_,λb xs e => ?_,λb o xs e => ?_,λb ps e => ?_⟩ (λb o e => ?_) I'.bare (λb hb => ?_)
 · exact(hs.2 b (old b o e).1).trans (u.keep b o e n hb hx)
 · obtain⟨sl,q⟩:=u.slot b o e n hb hx
   exact⟨sl,(hs.2 b (old b o e).1).trans q⟩
 · rw [ZA (old b o e).2]
   exact u.free b o e n hx
 · obtain⟨o',q⟩:=u.there b o e hx
   exact⟨o',(hs.2 b (old b o e).1).trans q⟩
 · have q:=u.tups b xs e
   rw [ZA (Yr q pd2)];exact q
 · have q:=u.frzs b o xs e
   rw [ZA (Yr q pd2)];exact q
 · obtain⟨more,q⟩:=u.tbls b ps e
   exact⟨more,by rw [ZA (Yr q pd2)];exact q⟩
 · by_cases hb:b=D
   · subst hb
     rw [ZW]at e;cases e;exact⟨hz,its,n,hv,hD'⟩
   · rw [ZA hb]at e
     refine(I'.hok b o e).stay (λc v hc q=>(hs.2 c ?_).trans q) (λc q=>by rw [ZA (Yr q pd2)];exact q) λc xs q=>by rw [ZA (Yr q pd2)];exact q
     rintro rfl
     rcases hc with rfl|hc
     · rw [hCf]at e;cases e
     · rw [hCf]at hc;cases hc
 · obtain⟨f0,f1,f2,f3,f4,f5⟩:=hf b hb
   exact⟨f3,f1,f4,f5⟩
end
def PTs(X:Cx)(ifs:List Expr)(t:TT):Prop:=
 ∀(pins:List (Addr×Obj))(s:Shared)(σ:St)(H:Hp)(Q:Bool->Hp->Prop),Inv X pins σ H s->t σ H Q ->
  wpAny (model X.prog X.w) X.A (forIn ifs true λc r=>if r=true then do let ok <-isTrue c X.env (eval c X.env);pure (ForInStep.yield ok)else pure (ForInStep.yield r)) (TP X pins σ Q) X.xe s
def tYes:TT:=λ_ H Q=>Q true H
theorem Y1{X:Cx}:PTs X [] tYes:=λ_ _ _ H _ I h=>wpAny_tests_nil ⟨H,I,h⟩
theorem ZfZ{X:Cx}{c:Expr}{t:TT}(h:PT X c t):PTs X [c] t:=λpins s σ H Q I q=>wpAny_tests_one (h pins s σ H Q I q)
def ZfE(wi:TI)(g:TG)(tt:TT)(te:TE)(n:Nat)(js:List Nat):TE:=λσ H Q=>wi σ H λJ H1=>
 ∃W:Nat->Nat->List V->Hp->Prop,(∃m,W 0 m [] H1)/\∀i m ys H,W i m ys H ->
  (J.stop i H/\∀p,H p=none->Q (.ref p) (upd H p (.lst ys))) \/
  (J.go i H/\∀x H',J.yld i H x H'->g x (blk n σ js) H' λσ2 H2=>tt σ2 H2 λb H3=>
    if b=true then te σ2 H3 λy H4=>ys.length<sizeLine/\∃m',m'<m/\W (i+1) m' (ys++[y]) H4 else ∃m',m'<m/\W (i+1) m' ys H3)
section
variable{X:Cx}{tg iter elt:Expr}{ifs:List Expr}{scope:Scope}{pos:Pos}{wi:TI}{g:TG}{tt:TT}{te:TE}{tn cn:List Str}{js:List Nat}
abbrev Xn(X:Cx)(scope:Scope)(N':List Str)(C:Addr)(s₂:Shared)(H₂:Hp)(fp:List Addr):Cx:=UT X scope N' C s₂ H₂ fp λ_ _=>False
theorem UU{α:Type}{M:Model}{A:Around}{m:Sem α}{Q:α->Shared->Prop}{E:Value->Shared->Prop}{s:Shared}(h:wpAny M A m Q (λ_ _=>False) s):wpAny M A m Q E s:=wpAny_mono h (λ_ _ q=>q) λ_ _ z=>z.elim
theorem ZaI {pins:List (Addr×Obj)} {σ:St} {H₂:Hp} {s₂:Shared} {it:Addr} {fp:List Addr} {tnx:Nat->Heap->Prop} {J:It} {E:Value->Shared->Prop} {RR:Value->Addr->Result->Shared->Prop} {W:Nat->Nat->List V->Hp->Prop} {m0:Nat}
 (hc:X.calm=true) (S:CompSc X scope tn cn js)
 (hg:∀C s₂ H₂ fp,PG (Xn X scope (tn++cn) C s₂ H₂ fp) tg g) (ht:∀C s₂ H₂ fp,PTs (Xn X scope (tn++cn) C s₂ H₂ fp) ifs tt) (he:∀C s₂ H₂ fp,PE (Xn X scope (tn++cn) C s₂ H₂ fp) elt te)
 (I2:Inv X pins σ H₂ s₂) (T:Turn X.prog X.w X.K tg J fp it tnx) (st2:tnx 0 s₂.heap) (f2:∀b∈fp,YO X pins H₂ b) (w0:W 0 m0 [] H₂)
 (turn:∀i m ys H,W i m ys H->(J.stop i H/\∀C D s its n σ',s₂.heap.objs.size<=C->s₂.heap.objs.size<=D->D≠C->Vals ys its->ys.length<=sizeLine ->
   Inv (Xn X scope (tn++cn) C s₂ H₂ fp) [(D,{ cls := .type "list",data := .seq its.toArray n })] σ' H s->RR (.ref D) C (.ok .next) s) \/
   (J.go i H/\∀x H',J.yld i H x H'->g x (blk tn.length σ js) H' λσ2 H2=>tt σ2 H2 λb H3=>
     if b=true then te σ2 H3 λy H4=>ys.length<sizeLine/\∃m',m'<m/\W (i+1) m' (ys++[y]) H4 else ∃m',m'<m/\W (i+1) m' ys H3)) :
 wpAny (model X.prog X.w) X.A (newList []) (λacc s₃=>wpAny (model X.prog X.w) X.A (newFunctionEnv scope X.env.globals (YI X.env.cells scope.names []) [] X.env.qual none .none (some X.env)) (λcenv s₄=>
  codeAny (model X.prog X.w) X.A (.compStart (.ListComp elt [⟨tg,iter,ifs,0⟩] scope pos) 0 (.ref it) acc { cenv with scope:=relabel scope X.env }) (RR acc cenv.locals) s₄) E s₃) E s₂:=by
 refine wpAny_newObj_type (wpAny_newFunctionEnv S.nocell (by intro y hy;simp at hy) (λh₁ hns₁ hsb₁ => ?_) S.kind);dsimp only at hns₁ hsb₁ ⊢;generalize hH2:s₂.heap.push { cls := .type "list",dict:=none,data := .seq ([]:List Value).toArray }=HH at hns₁ hsb₁ ⊢;have hCs:HH.objs.size=s₂.heap.objs.size+1:=by rw [<-hH2,Heap.size_push]
 have hDC:s₂.heap.objs.size≠HH.objs.size:=by rw [hCs];exact Nat.ne_of_lt (Nat.lt_succ_self _)
 have hC:s₂.heap.objs.size<=HH.objs.size:=by rw [hCs];exact Nat.le_succ _
 have hD:s₂.heap.objs.size<=s₂.heap.objs.size:=Nat.le_refl _;have old:∀b o,s₂.heap.get? b=some o->h₁.get? b=some o:=λb o e=>hsb₁.extBut b o (by rw [hCs];exact Nat.ne_of_lt (Nat.lt_succ_of_lt (Heap.lt_size e))) (Heap.get?_push_of_some _ (hH2▸Heap.get?_push_of_some _ e))
 have hacc:h₁.get? s₂.heap.objs.size=some { cls := .type "list",dict:=none,data := .seq ([]:List Value).toArray }:=hsb₁.extBut _ _ hDC (Heap.get?_push_of_some _ (hH2▸Heap.get?_push_size _ rfl));have hob:=T.obj _ _ st2
 have I3:Inv (Xn X scope (tn++cn) HH.objs.size s₂ H₂ fp) [(s₂.heap.objs.size,{ cls := .type "list",dict:=none,data := .seq ([]:List Value).toArray })] (blk tn.length σ js) H₂ { s₂ with heap:=h₁,toks:=s₂.toks+([]:List (Str×Value)).length }:=
  ZcE S I2 hC hD hDC f2 hob old hns₁ hacc (λv z=>by cases z)
 have st3:tnx 0 h₁:=T.keep _ _ _ st2 λb hb o e=>old b o e
 generalize hX':Xn X scope (tn++cn) HH.objs.size s₂ H₂ fp=X' at I3;generalize hs3:({ s₂ with heap:=h₁,toks:=s₂.toks+([]:List (Str×Value)).length }:Shared)=s3 at I3 ⊢;have st3':tnx 0 s3.heap:=by rw [<-hs3];exact st3
 have stat:∀{pins':List (Addr×Obj)}{H':Hp},(∀b∈fp,H' b=none)->(∀p∈pins',p.1=s₂.heap.objs.size)->∀b∈fp,YO X' pins' H' b:=λ{pins' H'} hn hp b hb=>by
  subst hX';obtain⟨o,e,_⟩:=hob b hb;obtain⟨f0,f1,f2',f3,f4,f5⟩:=f2 b hb;refine⟨hn b hb,Nat.ne_of_lt (Nat.lt_of_lt_of_le (Heap.lt_size e) hC),λz=>(List.mem_cons.mp (I2.stkSub b z)).elim f1 f2',.inl hb,λx c h=>f4 x c (Vt _ [] (S.clos I2.ok) (λ_ z=>by cases z) h),λp hpp => ?_⟩
  have:p∈pins':=by
   have q:p∈([]:List (Addr×Obj))++pins':=hpp;simpa using q
  rw [hp p this];exact Nat.ne_of_gt (Heap.lt_size e)
 have loop:codeAny (model X.prog X.w) X.A (.compLoop (.ListComp elt [⟨tg,iter,ifs,0⟩] scope pos) 0 (.ref it) (.ref s₂.heap.objs.size) X'.env) (RR (.ref s₂.heap.objs.size) HH.objs.size) s3:=by
  refine Zbv (λk s'=>∃i ys its n H',Inv X' [(s₂.heap.objs.size,{ cls := .type "list",data := .seq its n })] (blk tn.length σ js) H' s'/\Vals ys its.toList/\ys.length<=sizeLine/\tnx i s'.heap/\(∀b∈fp,H' b=none)/\W i k ys H') ?_ m0
   ⟨0,[],#[],0,H₂,I3,.nil,Nat.zero_le _,st3',λb hb=>(f2 b hb).1,w0⟩
  rintro k s4 ⟨i,ys,its,n,H4,I4,hv4,hz4,st4,fr4,w4⟩
  have eP:X'.prog=X.prog:=by rw [<-hX'];rfl
  have eW:X'.w=X.w:=by rw [<-hX'];rfl
  have eK:X'.K=X.K:=by rw [<-hX'];rfl
  have eA:X'.A=X.A:=by rw [<-hX'];rfl
  have eC:X'.calm=true:=by rw [<-hX'];exact hc
  have eE:X'.xe=λ_ _=>False:=by rw [<-hX'];rfl
  rcases turn i k ys H4 w4 with⟨stop,qn⟩|⟨go,step⟩
  · have z:=T.done X' eP eW eK eC i _ s4 (blk tn.length σ js) H4 (λ_ _=>False) I4 (stat fr4 (λp hp=>by simp at hp;rw [hp])) st4 stop
    rw [eA]at z;refine UU (thn z λr s5 ⟨hr,I5⟩ => ?_);subst hr;subst hX';exact qn _ _ s5 its.toList n _ hC hD hDC hv4 hz4 (by simpa using I5)
  · have z:=T.item X' eP eW eK eC i _ s4 (blk tn.length σ js) H4 (λ_ _=>False) I4 (stat fr4 (λp hp=>by simp at hp;rw [hp])) st4 go
    rw [eA]at z;refine UU (thn z λr s5 ⟨u,hr,h5⟩ => ?_);subst hr;refine UU (thn h5 λ_ s6 ⟨x,H6,I6,r6,y6,st6,fr6⟩ => ?_);have I6':=I6.pinned (stat fr6 (λp hp=>by simp at hp;rw [hp])) (T.obj _ _ st6);have hg':PG X' tg g:=by rw [<-hX'];exact hg _ _ _ _
    have ht':PTs X' ifs tt:=by rw [<-hX'];exact ht _ _ _ _
    have he':PE X' elt te:=by rw [<-hX'];exact he _ _ _ _
    have z7:=hg' _ s6 _ H6 x u _ I6' r6 (step x H6 y6);rw [eP,eW,eA,eE]at z7;refine UU (thn z7 λ_ s7 ⟨σ7,H7,I7,q7⟩ => ?_);have z8:=ht' _ s7 σ7 H7 _ I7 q7;rw [eP,eW,eA,eE]at z8;refine UU (thn z8 λok s8 ⟨H8,I8,q8⟩ => ?_)
    have key:∀{σ9:St}{H9:Hp}{s9:Shared}{its':Array Value}{n':Nat},Inv X' ([(s₂.heap.objs.size,{ cls := .type "list",data := .seq its' n' })]++X7 fp s6.heap) σ9 H9 s9 ->
     Inv X' [(s₂.heap.objs.size,{ cls := .type "list",data := .seq its' n' })] (blk tn.length σ js) H9 s9/\tnx (i+1) s9.heap/\∀b∈fp,H9 b=none:=λ{σ9 H9 s9 its' n'} I9=>by
     refine⟨?_,T.keep _ _ _ st6 λb hb o e=>(I9.pin (b,o) (List.mem_append_right _ (List.mem_append_right _ (Jr hb e)))).1,λb hb => ?_⟩
     · have I9':=I9.unpinned
       subst hX';exact ZcD S I2 f2 I9'
     · obtain⟨o,e,d⟩:=T.obj _ _ st6 b hb
       exact(I9.pin (b,o) (List.mem_append_right _ (List.mem_append_right _ (Jr hb e)))).2.1
    cases ok with
    |false=>
     rw [if_neg Bool.false_ne_true]at q8 ⊢;obtain⟨m',hm,w8⟩:=q8;obtain⟨I9,st9,fr9⟩:=key I8;exact⟨m',hm,i+1,ys,its,n,H8,I9,hv4,hz4,st9,fr9,w8⟩
    |true=>
     rw [if_pos rfl]at q8 ⊢;have z9:=he' _ s8 σ7 H8 _ I8 q8;rw [eP,eW,eA,eE]at z9;refine UU (thn z9 λv s9 ⟨y,H9,I9,r9,hl9,m',hm,w9⟩ => ?_);have pd:=I9.pin (s₂.heap.objs.size,{ cls := .type "list",data := .seq its n }) (List.mem_append_right _ (List.mem_append_left _ List.mem_cons_self));have hpl:s9.heap.PlainList s₂.heap.objs.size its:=⟨n,pd.1⟩
     have hlen:its.size=ys.length:=by rw [hv4.length];simp
     refine wpAny_list_append_plain (hsz:=by omega) hpl λh10 hl10 hs10 => ?_
     obtain⟨n10,e10⟩:=hl10;have I10:Inv X' (X7 fp s6.heap) σ7 H9 s9:=I9.pins_of λp hp=>I9.pin p (List.mem_append_right _ (List.mem_append_right _ hp))
     have nD:∀b∈fp,b≠s₂.heap.objs.size:=λb hb=>by
      obtain⟨o,e,_⟩:=hob b hb;exact Nat.ne_of_lt (Heap.lt_size e)
     have I11:Inv X' (X7 fp s6.heap) σ7 H9 { s9 with heap:=h10 }:=by
      refine I10.turned (t':=s9.toks) (it:=s₂.heap.objs.size) (λb o hb e=>(hs10.2 b hb).trans e) pd.2.1 pd.2.2.1 ?_ ?_ ?_
      · subst hX';exact .inr (Nat.le_refl _)
      · subst hX'
        intro x c h;obtain⟨v',o',q,_⟩:=I2.cell x c (Vt _ [] (S.clos I2.ok) (λ_ z=>by cases z) h);exact Nat.ne_of_lt (Heap.lt_size q)
      · intro p hp
        have hp':p∈X7 fp s6.heap:=by
         subst hX';have q:p∈([]:List (Addr×Obj))++X7 fp s6.heap:=hp;simpa using q
        exact nD _ (Za5 hp').1
     have I12:Inv X' ([(s₂.heap.objs.size,{ cls := .type "list",data := .seq (its.push v) n10 })]++X7 fp s6.heap) σ7 H9 { s9 with heap:=h10 }:=I11.pins_of λp hp=>by
      rcases List.mem_append.mp hp with q|q
      · have e:p=(s₂.heap.objs.size,{ cls := .type "list",data := .seq (its.push v) n10 }):=by simpa using q
        subst e;exact⟨e10,pd.2.1,pd.2.2.1,pd.2.2.2.1,λv z=>by cases z⟩
      · exact I11.pin p (List.mem_append_right _ q)
     obtain⟨J1,J2,J3⟩:=key I12;refine⟨m',hm,i+1,ys++[y],its.push v,n10,H9,J1,?_,?_,J2,J3,w9⟩
     · have:(its.push v).toList=its.toList++[v]:=by simp
       rw [this];exact hv4.append (.cons r9 .nil)
     · rw [List.length_append,List.length_singleton]
       omega
 have eEnv:({ newEnv scope HH.objs.size X.env.globals (YI X.env.cells scope.names []) X.env.qual none .none (some X.env) builtinsNs with scope:=relabel scope X.env }:Env)=X'.env:=by rw [<-hX'];rfl
 have loop2:=loop;rw [<-eEnv]at loop loop2;exact codeAny_compStart_list loop (T.self X.A 0 s3 _ _ st3' loop2)
theorem XJ (hc:X.calm=true) (S:CompSc X scope tn cn js) (hi:PI X tg iter wi)
 (hg:∀C s₂ H₂ fp,PG (Xn X scope (tn++cn) C s₂ H₂ fp) tg g) (ht:∀C s₂ H₂ fp,PTs (Xn X scope (tn++cn) C s₂ H₂ fp) ifs tt) (he:∀C s₂ H₂ fp,PE (Xn X scope (tn++cn) C s₂ H₂ fp) elt te)
 (hs:∀x,foldedSetIterable iter X.env x=pure x:=by intro _;rfl) :
 PE X (.ListComp elt [⟨tg,iter,ifs,0⟩] scope pos) (ZfE wi g tt te tn.length js):=by
 intro pins s σ H Q I h;rw [eval_ListComp];refine wpAny_comprehension_free (use:=none) (cl:=YI X.env.cells scope.names []) rfl hs (Zai (S.clos I.ok)) S.kind S.names (thn (hi pins s σ H _ I h) λv s1 h1=>thn h1 λitv s2 h2 => ?_);obtain⟨it,fp,tnx,J,H2,e,I2,T,st2,f2,W,⟨m0,w0⟩,turn⟩:=h2;subst e;refine ZaI (RR:=λacc C=>compPost (model X.prog X.w) X.A X.xe none (EP X pins σ Q) acc C) (W:=W) (m0:=m0) hc S hg ht he I2 T st2 f2 w0 λi m ys H w => ?_
 rcases turn i m ys H w with⟨stop,qn⟩|r
 · refine .inl ⟨stop,λC D s its n σ' hC hD hDC hv hz I' => ?_⟩
   obtain⟨m',hn,_⟩:=id I'.loc;refine⟨m',hn,λh' hs' => ?_⟩;have pd:=I'.pin (D,{ cls := .type "list",data := .seq its.toArray n }) (List.mem_append_right _ List.mem_cons_self);exact⟨.ref D,_,Zb7 S I2 hC hD hDC f2 I' hv hz hs',rfl,qn D pd.2.1⟩
 · exact .inr r
end
end L2
namespace L2
open PySem PySem.Spec PyProof.Rows
abbrev S(cs:List Nat):V := .str (tx cs)
theorem Ziu{a b:List Nat}:S a=S b ↔ a=b:=by
 constructor
 · intro h
   exact tx_inj.mp (V.str.inj h)
 · rintro rfl;rfl
section
variable{X:Cx}{pos:Pos}
theorem Ua{x:Str}{j:Nat}(cs:List Nat)(h:x=tx cs):PE X (.Constant (.str x) j pos) (tC (S cs)):=by
 subst h;exact Zg9
def Its(cs:List Nat):It:=⟨λi _=>i<cs.length,λi H v H'=>H'=H/\∃c,cs[i]? = some c/\v=S [c],λi _=>cs.length<=i⟩
theorem Jz(x:Str):strIterType x = "str_ascii_iterator" \/ strIterType x = "str_iterator" := by
 unfold strIterType
 split
 · exact .inl rfl
 · exact .inr rfl
theorem Zev{P:Program}{w:World}{K:PySem.W.Frag}{tg:Expr}(it:Addr)(cs:List Nat)(t:Tok):Turn P w K tg (Its cs) [it] it (λi h=>h.IsStrIter it (strIterType (tx cs)) (tx cs) t i) where
 mem:=by simp
 obj:=λi h st b hb=>by
  have e:b=it:=by simpa using hb
  subst e;obtain⟨o,e,c,d⟩:=st;exact⟨o,e,λv z=>by rw [d]at z;cases z⟩
 keep:=λi h h' st k=>by
  obtain⟨o,e,r⟩:=st;exact⟨o,k it (by simp) o e,r⟩
 item:=by
  intro X hP hw hK hc i pins s σ H E I hf st hg;subst hP hw hK;obtain⟨f0,f1,f2,f3,f4,f5⟩:=hf it (by simp);have hg:i<cs.length:=hg;have hx:(tx cs).cps[i]? = some cs[i]:=by simp [tx,hg]
  have fin:∀(h':Heap),h'.IsStrIter it (strIterType (tx cs)) (tx cs) t (i+1)->Heap.SameBut it s.heap h' ->
   ∃u,some (Value.str ⟨#[cs[i]]⟩ s.toks)=some u/\wpAny (model X.prog X.w) X.A (letOwnedTupleGo tg (.ref it) u) (λ_ s2=>∃x H',Inv X pins σ H' s2/\RelV x u/\(Its cs).yld i H x H'/\s2.heap.IsStrIter it (strIterType (tx cs)) (tx cs) t (i+1)/\∀b∈[it],H' b=none) E { s with heap:=h',toks:=s.toks+1 }:=λh' st' sb=>by
   have I1:Inv X pins σ H { s with heap:=h',toks:=s.toks+1 }:=I.turned (λb o hb e=>(sb.2 b hb).trans e) f0 f1 f3 f4 f5;obtain⟨o,e,hc',d⟩:=id st';refine⟨_,rfl,Jq (s:={ s with heap:=h',toks:=s.toks+1 }) e hc' d ?_ ⟨S [cs[i]],H,I1,⟨s.toks,rfl⟩,⟨rfl,cs[i],by simp [hg],rfl⟩,st',λb hb=>(hf b hb).1⟩⟩;rcases Jz (tx cs)with z|z<;>rw [z]<;>decide
  rcases Jz (tx cs)with z|z
  · rw [z]at st
    refine wpAny_pyNext_ascii_item st hx λh' st' sb=>fin h' (by rw [z];exact st') sb
  · rw [z]at st
    refine wpAny_pyNext_wide_item st hx λh' st' sb=>fin h' (by rw [z];exact st') sb
 done:=by
  intro X hP hw hK hc i pins s σ H E I hf st hg;subst hP hw hK;obtain⟨f0,f1,f2,f3,f4,f5⟩:=hf it (by simp);have hg:cs.length<=i:=hg;have hx:(tx cs).cps[i]? = none:=by simp [tx];omega
  rcases Jz (tx cs)with z|z
  · rw [z]at st
    exact wpAny_pyNext_ascii_end (I.ok.hd hc) st hx λh' eb=>⟨rfl,I.turned (t':=s.toks) (λb o hb e=>eb b o hb e) f0 f1 f3 f4 f5⟩
  · rw [z]at st
    exact wpAny_pyNext_wide_end (I.ok.hd hc) st hx λh' eb=>⟨rfl,I.turned (t':=s.toks) (λb o hb e=>eb b o hb e) f0 f1 f3 f4 f5⟩
 self:=λ_ i _ _ _ st h=>by
  rcases Jz (tx cs)with z|z
  · rw [z]at st
    exact wpAny_pyIter_striter_ascii st h
  · rw [z]at st
    exact wpAny_pyIter_striter_wide st h
variable{tg:Expr}
def Zid(K:PySem.W.Frag)(tl:TE):TI:=λσ H R=>tl σ H λx H1=>(∃a xs,x = .ref a/\SqL K H1 a xs/\R (Itl K a) H1)\/(∃a xs,x = .ref a/\SqT K H1 a xs/\R (Itt K a) H1)\/∃cs,x=S cs/\R (Its cs) H1
theorem Zhj{l:Expr}{tl:TE}(hl:PE X l tl):PI X tg l (Zid X.K tl):=by
 intro pins s σ H R I h;refine thn (hl pins s σ H _ I h) λv s1 ⟨x,H1,I1,r1,q1⟩ => ?_
 rcases q1 with⟨a,xs,e,hq,q⟩|⟨a,xs,e,hq,q⟩|⟨cs,e,q⟩
 · subst e
   cases r1;obtain⟨its,rv,p,hz⟩:=I1.list hq;refine wpAny_pyIter_list p.isList ?_;refine⟨s1.heap.objs.size,[s1.heap.objs.size],_,_,H1,rfl,I1.kept (t':=s1.toks) λb o e=>Heap.get?_push_of_some _ e,ZdN a _,⟨_,Heap.get?_push_size _ rfl,rfl,rfl⟩,λb hb => ?_,q⟩;have e:b=s1.heap.objs.size:=by simpa using hb
   subst e;exact I1.fpOk (Nat.le_refl _) (I1.hok.fresh (Nat.le_refl _))
 · have hpi:=Zhc (X:=X) (tg:=tg) (l:=l) (tl:=λ_ H Q=>Q (.ref a) H)
   subst e;cases r1;obtain⟨its,rv,p,hz⟩:=I1.tuple hq;refine wpAny_pyIter_tuple (show s1.heap.IsTuple a its.toArray from p) ?_;refine⟨s1.heap.objs.size,[s1.heap.objs.size],_,_,H1,rfl,I1.kept (t':=s1.toks) λb o e=>Heap.get?_push_of_some _ e,ZaG a _,⟨_,Heap.get?_push_size _ rfl,rfl,rfl⟩,λb hb => ?_,q⟩;have e:b=s1.heap.objs.size:=by simpa using hb
   subst e;exact I1.fpOk (Nat.le_refl _) (I1.hok.fresh (Nat.le_refl _))
 · subst e
   obtain⟨t,rfl⟩:=r1;refine wpAny_pyIter_strU ?_;refine⟨s1.heap.objs.size,[s1.heap.objs.size],_,_,H1,rfl,I1.kept (t':=s1.toks) λb o e=>Heap.get?_push_of_some _ e,Zev _ cs t,⟨_,Heap.get?_push_size _ rfl,rfl,rfl⟩,λb hb => ?_,q⟩;have e:b=s1.heap.objs.size:=by simpa using hb
   subst e;exact I1.fpOk (Nat.le_refl _) (I1.hok.fresh (Nat.le_refl _))
def rAddS:R2:=λx y H Q=>∃a b,x=S a/\y=S b/\a.length+b.length<=sizeLine/\Q (S (a++b)) H
theorem op_addS:OpR X (binaryOp .Add) rAddS:=by
 intro pins s σ H x y v u Q I rx ry h;obtain⟨a,b,rfl,rfl,hz,q⟩:=h;refine Zcz pins s σ H _ _ v u Q I rx ry ⟨tx a,tx b,rfl,rfl,by rw [Xm,Xm];exact hz,?_⟩;rw [Zhi];exact q
def Ziv:R2:=λx y H Q=>rI0 (λi j => .int (i+j)) x y H Q\/rAddS x y H Q\/Zkn x y H Q
def rIxSt:R2:=λx y H Q=>∃a i c,x=S a/\y = .int i/\a.length<=sizeLine/\atI a i=some c/\Q (S [c]) H
theorem Zkp:IxR X rIxSt:=by
 intro value slice pins s σ H x y v u Q I rx ry h hs;obtain⟨a,i,c,rfl,rfl,hz,he,q⟩:=h;exact Zhg value slice pins s σ H _ _ v u Q I rx ry ⟨tx a,i,c,rfl,rfl,by rw [Xm];exact hz,by rw [Jw];exact he,q⟩ hs
def X9(K:PySem.W.Frag):R2:=λx y H Q=>Zkb K x y H Q\/Zkc K x y H Q\/rIxSt x y H Q
theorem Zkq:IxR X (X9 X.K):=ix_list.or (ix_tup.or Zkp)
def rSlS:V->Option Int->Option Int->Hp->VK->Prop:=λx lo hi H Q=>∃a,x=S a/\a.length<=sizeLine/\Q (S (cutL a lo hi)) H
theorem sl_S:SlR X rSlS:=by
 intro pins s σ H x v vl vu lo hi sl Q I rx hs pl pu h;obtain⟨a,rfl,hz,q⟩:=h;obtain⟨t,rfl⟩:=rx;refine⟨"str",_,F.slot_str_getitem.lookup,typeIs_str _ _ _,?_⟩;have fin:∀t' k,EP X pins σ Q (.str (Txt.slice (tx a) lo hi) t') { s with toks:=k }:=λt' k=>⟨S (cutL a lo hi),H,I.tok _,⟨t',by rw [Zeu]⟩,q⟩
 have hle:(Txt.slice (tx a) lo hi).length<=sizeLine:=Nat.le_trans (Txt.slice_le _ _ _) (by rw [Xm];exact hz);cases pl with
 |none=>
  cases pu with
  |none=>exact wpAny_getItem_str_slice (l:=none) (u:=none) (st:=none) hs rfl (post_val_or_str ⟨hle,fin⟩)
  |int j uj=>exact wpAny_getItem_str_slice (l:=none) (u:=some (j,uj)) (st:=none) hs rfl (post_val_or_str ⟨hle,fin⟩)
 |int i ui=>
  cases pu with
  |none=>exact wpAny_getItem_str_slice (l:=some (i,ui)) (u:=none) (st:=none) hs rfl (post_val_or_str ⟨hle,fin⟩)
  |int j uj=>exact wpAny_getItem_str_slice (l:=some (i,ui)) (u:=some (j,uj)) (st:=none) hs rfl (post_val_or_str ⟨hle,fin⟩)
def Zie(K:PySem.W.Frag):V->Option Int->Option Int->Hp->VK->Prop:=λx lo hi H Q=>rSlS x lo hi H Q\/Zkd K x lo hi H Q\/Zka K x lo hi H Q
theorem Zkr:SlR X (Zie X.K):=sl_S.or (sl_list.or Zhf)
def ZfF(K:PySem.W.Frag):List V->Hp->VK->Prop:=λxs H Q=>(∃a,xs=[S a]/\a.length<=sizeLine/\Q (.int a.length) H)\/∃p ys,xs=[.ref p]/\(SqL K H p ys\/SqT K H p ys)/\Q (.int ys.length) H
theorem ZdW:Yt X (.builtin "len") (ZfF X.K):=by
 intro pins s σ H xs us Q I rs q;rcases q with⟨a,rfl,hz,q⟩|q
 · exact Zbt pins s σ H _ us Q I rs ⟨tx a,rfl,by rw [Xm];exact hz,by rw [Xm];exact q⟩
 · exact Zbs pins s σ H xs us Q I rs q
def rIntX:List V->Hp->VK->Prop:=λxs H Q=>(∃a,xs=[S a]/\a.length<=640/\a≠[]/\a.all Jx=true/\Q (.int (Zic a:Nat)) H)\/(∃k,xs=[.bl k]/\Q (.int (if k then 1 else 0)) H)
theorem ZdX:Yt X (.type "int") rIntX:=by
 intro pins s σ H xs us Q I rs h;rcases h with⟨a,rfl,hl,hne,hd,q⟩|h
 · obtain⟨u,rfl,t,rfl⟩:=Xl rs
   have hd':PySem.NumText.AllDigits (tx a).cps.toList:=by
    rw [Jw];intro c hc;have:=List.all_eq_true.mp hd c hc;unfold Jx at this;rw [Bool.and_eq_true,decide_eq_true_eq,decide_eq_true_eq]at this;exact this
   have e:=PySem.intText_digits hd' (by rw [Jw];exact hne) (by rw [Xm];omega);rw [Jw]at e;exact PySem.W.KIN.call_text e (by rw [Xm];exact hl) ⟨.int (Zic a:Nat),H,I.tok _,⟨_,rfl⟩,q⟩
 · exact ZdP pins s σ H xs us Q I rs (.inr h)
theorem Zew:Yt X (.builtin "isinstance") (λxs H Q=>∃x c cv t b,xs=[x,c]/\(∀v,RelV c v->v=cv)/\TyOf X.K H x t/\kitOne X.K t cv=some b/\Q (.bl b) H):=by
 intro pins s σ H xs us Q I rs h;obtain⟨x,c,cv,t,b,rfl,hc,ty,e,q⟩:=h;obtain⟨u,w',rfl,rx,rc⟩:=ZfD rs;have ec:=hc _ rc;subst ec;exact ZdR I rx ty e λtk=>⟨.bl b,H,I.tok tk,rfl,q⟩
end
section
variable{X:Cx}{K:PySem.W.Frag}{pos:Pos}{tg:Expr}
theorem Zx(hK:X.K=K:=by rfl):IxR X (X9 K):=hK▸Zkq
theorem JA(hK:X.K=K:=by rfl):SlR X (Zie K):=hK▸Zkr
theorem Yk(hK:X.K=K:=by rfl):Yt X (.builtin "len") (ZfF K):=hK▸ZdW
def Zks(K:PySem.W.Frag):List V->Hp->VK->Prop:=λxs H Q=>∃x c cv t b,xs=[x,c]/\(∀v,RelV c v->v=cv)/\TyOf K H x t/\kitOne K t cv=some b/\Q (.bl b) H
theorem Xo{l:Expr}{tl:TE}(hl:PE X l tl)(hK:X.K=K:=by rfl):PI X tg l (Zid K tl):=hK▸Zhj hl
def Zhk(K:PySem.W.Frag):List V->Hp->VK->Prop:=λxs H Q=>∃p ys,xs=[.ref p]/\(SqL K H p ys\/SqT K H p ys)/\∀l,H l=none->Q (.ref l) (upd H l (.lst ys))
theorem XM {o e:Expr} {es:List Expr} {to:TE} {t:TA} {name:Str} {apos cpos:Pos} {T id:String} {r:V->List V->Hp->VK->Prop} (pa:PlainAttrs T) (slot:Slot T name id) (hty:typeOf (.builtin id)=pure (.type "method_descriptor")) (hm:MtR X id r) (ho:PE X o to) (ha:PA X (e::es) t)
 (hbase:attributeBase o name X.env (eval o X.env)=eval o X.env:=by rfl)
 (hfew:((backTo cpos (starEach (e::es) X.env)).all (λx => !x.1)&&(backToKw cpos (keywordEach [] X.env)).all (λx=>x.1.isSome)
   && decide ((e::es).length+([]:List Keyword).length+(if([]:List Keyword).isEmpty then 0 else 1)<30))=true:=by rfl)
 (hline:(apos.endLine == cpos.line)=true:=by rfl) (hs:starEach (e::es) X.env=(false,eval e X.env)::starEach es X.env:=by rfl) (hplain:(backTo cpos (starEach es X.env)).any (·.1)=false:=by rfl) (hK:X.K=K:=by rfl) :
 PE X (.Call (.Attribute o name apos) (e::es) [] cpos) (tBM K T r to t):=hK▸Zis pa slot hty hm ho ha hbase hfew hline hs hplain
theorem Qx {es:List Expr} {k:Nat} {t:TGs} {n:Nat} (h:PGs X es t) (hc:X.calm=true:=by rfl)
 (hn:(assignEach es X.env).length=n:=by rfl) (hst:(assignEach es X.env).findIdx? (·.1)=none:=by rfl) (hK:X.K=K:=by rfl):PG X (.Tuple es k pos) (Zh5 K n t):=hK▸Zhb hc h hn hst
end
end L2
namespace L2
open PySem PySem.Spec PyProof.Rows
theorem Zex{H:Hp}{q:Addr}{o:HO}(h:H q=none):Same H (upd H q o):=λb u e=>by
 rw [ZA (Yr e h)];exact e
structure Walk(J:It)(xs:List V)(H:Hp):Prop where
 go:∀i,i<xs.length->J.go i H
 yld:∀(i:Nat)v H',i<xs.length->J.yld i H v H'->H'=H/\xs[i]? = some v
 stop:∀i,xs.length<=i->J.stop i H
end L2
namespace L2
open PySem PySem.Spec PyProof.Rows
section
variable{X:Cx}{tg:Expr}
end
end L2
namespace L2
open PySem PySem.Spec PyProof.Rows
section
variable{X:Cx}{elts:List Expr}{x1:Nat}{tpos:Pos}
end
end L2
namespace L2
open PySem PySem.Spec PyProof.Rows
section
variable{κ:Type} [DecidableEq κ]
def XN(kvs:List (κ×V))(k:κ):Option V:=(kvs.find? λkv=>decide (kv.1=k)).map (·.2)
def JB(kvs:List (κ×V))(k:κ)(v:V):List (κ×V):=
 if(kvs.any λkv=>decide (kv.1=k))=true then kvs.map (λkv=>if kv.1=k then(kv.1,v)else kv)else kvs++[(k,v)]
theorem Zb8{p:κ×V}{r:List (κ×V)}{k:κ}(e:p.1=k):XN (p::r) k=some p.2:=by simp [XN,List.find?_cons,e]
theorem Zb9{p:κ×V}{r:List (κ×V)}{k:κ}(e:¬p.1=k):XN (p::r) k=XN r k:=by simp [XN,List.find?_cons,e]
theorem RelO.getD{o:Option V}{u:Option Value}{d:V}{d':Value}(r:RelO o u)(rd:RelV d d'):RelV (o.getD d) (u.getD d'):=by
 cases o with
 |none=>cases u with
  |none=>exact rd
  |some _=>exact(show False from r).elim
 |some _=>cases u with
  |none=>exact(show False from r).elim
  |some _=>exact r
theorem KV.val{kvs:List (κ×V)}{vs:List (κ×Value)}(r:KV kvs vs)(k:κ):RelO (XN kvs k) (valueAt vs k):=by
 unfold KV at r
 induction r with
 |nil=>exact True.intro
 | @cons p q ps qs h t ih=>
  obtain⟨h1,h2⟩:=h
  by_cases e:p.1=k
  · have e':q.1=k:=h1.symm.trans e
    have b:valueAt (q::qs) k=some q.2:=by simp [valueAt,List.find?_cons,e']
    rw [Zb8 e,b];exact h2
  · have e':¬q.1=k:=λz=>e (h1.trans z)
    have b:valueAt (q::qs) k=valueAt qs k:=by simp [valueAt,List.find?_cons,e']
    rw [Zb9 e,b];exact ih
theorem KV.length{kvs:List (κ×V)}{vs:List (κ×Value)}(r:KV kvs vs):kvs.length=vs.length:=Paired.length r
end
abbrev KT(H:Hp):List (List Key×V)->List (List Key×Addr×Value)->Prop:=Paired λp q=>p.1=q.1/\H q.2.1=some (.tup (p.1.map kV))/\RelV p.2 q.2.2
theorem KT.val{H:Hp}{kvs:List (List Key×V)}{xs:List (List Key×Addr×Value)}(r:KT H kvs xs)(k:List Key):RelO (XN kvs k) ((atKey xs k).map (·.2)):=by
 induction r with
 |nil=>exact True.intro
 | @cons p q ps qs h t ih=>
  obtain⟨h1,_,h2⟩:=h
  by_cases e:p.1=k
  · have e':q.1=k:=h1.symm.trans e
    have b:atKey (q::qs) k=some q.2:=by simp [atKey,List.find?_cons,e']
    rw [Zb8 e,b];exact h2
  · have e':¬q.1=k:=λz=>e (h1.trans z)
    have b:atKey (q::qs) k=atKey qs k:=by simp [atKey,List.find?_cons,e']
    rw [Zb9 e,b];exact ih
section
variable{P:Program}{w:World}{H:Hp}{h:Heap}{a:Addr}
end
def DGet(H:Hp)(a:Addr)(y:V)(r:Option V):Prop:=
 (∃kvs k,Rd H a (.dK kvs)/\y=kV k/\r=XN kvs k)\/∃kvs k b,Rd H a (.dT kvs)/\y = .ref b/\H b=some (.tup (k.map kV))/\r=XN kvs k
def DPut(H:Hp)(a:Addr)(y v:V)(H':Hp):Prop:=
 (∃kvs k,H a=some (.dK kvs)/\y=kV k/\kvs.length<sizeLine/\H'=upd H a (.dK (JB kvs k v))) \/
 ∃kvs k b,H a=some (.dT kvs)/\y = .ref b/\H b=some (.tup (k.map kV))/\kvs.length<sizeLine/\H'=upd H a (.dT (JB kvs k v))
theorem DGet.k{H:Hp}{a:Addr}{kvs:List (Key×V)}{k:Key}(e:H a=some (.dK kvs)):DGet H a (kV k) (XN kvs k) := .inl ⟨kvs,k,.inl e,rfl,rfl⟩
theorem DGet.t{H:Hp}{a b:Addr}{kvs:List (List Key×V)}{k:List Key}(e:H a=some (.dT kvs))(eb:H b=some (.tup (k.map kV))):DGet H a (.ref b) (XN kvs k) := .inr ⟨kvs,k,b,.inl e,rfl,eb,rfl⟩
theorem DPut.k{H:Hp}{a:Addr}{kvs:List (Key×V)}{k:Key}{v:V}(e:H a=some (.dK kvs))(hl:kvs.length<sizeLine):DPut H a (kV k) v (upd H a (.dK (JB kvs k v))) := .inl ⟨kvs,k,e,rfl,hl,rfl⟩
theorem DPut.t{H:Hp}{a b:Addr}{kvs:List (List Key×V)}{k:List Key}{v:V}(e:H a=some (.dT kvs))(eb:H b=some (.tup (k.map kV)))(hl:kvs.length<sizeLine) :
 DPut H a (.ref b) v (upd H a (.dT (JB kvs k v))) := .inr ⟨kvs,k,b,e,rfl,eb,hl,rfl⟩
section
variable{X:Cx}{pins:List (Addr×Obj)}{σ:St}{H:Hp}{s:Shared}{a:Addr}{y v:V}{u r:Value}{o:Option V}{A:Around}{E:Value->Shared->Prop}
end
section
variable{X:Cx}{pins:List (Addr×Obj)}{σ:St}{H:Hp}{s:Shared}{a:Addr}{kvs:List (Key×V)}{k:Key}{u:Value}{A:Around}{E:Value->Shared->Prop}
end
section
variable{X:Cx}{o i e value:Expr}{pos pos' tpos:Pos}{td ty tv:TE}
end
section
variable{X:Cx}{pos:Pos}
end
structure M1(X:Cx)(o:Expr)(m:Str)(apos:Pos)(e:Expr)(cpos:Pos):Prop where
 base:attributeBase o m X.env (eval o X.env)=eval o X.env
 few:((backTo cpos (starEach [e] X.env)).all (λx => !x.1)&&(backToKw cpos (keywordEach [] X.env)).all (λx=>x.1.isSome)
  && decide (([e]:List Expr).length+([]:List Keyword).length+(if([]:List Keyword).isEmpty then 0 else 1)<30))=true
 line:(apos.endLine == cpos.line)=true
 trees:backTo cpos (starEach [e] X.env)=[(false,eval e X.env)]
structure M2(X:Cx)(o:Expr)(m:Str)(apos:Pos)(e f:Expr)(cpos:Pos):Prop where
 base:attributeBase o m X.env (eval o X.env)=eval o X.env
 few:((backTo cpos (starEach [e,f] X.env)).all (λx => !x.1)&&(backToKw cpos (keywordEach [] X.env)).all (λx=>x.1.isSome)
  && decide (([e,f]:List Expr).length+([]:List Keyword).length+(if([]:List Keyword).isEmpty then 0 else 1)<30))=true
 line:(apos.endLine == cpos.line)=true
 trees:backTo cpos (starEach [e,f] X.env)=[(false,eval e X.env),(false,eval f X.env)]
section
variable{X:Cx}{pins:List (Addr×Obj)}{σ:St}{H:Hp}{s:Shared}{a:Addr}{y d:V}{u r:Value}{o:Option V}{A:Around}{E:Value->Shared->Prop}
end
section
variable{X:Cx}{o e f:Expr}{apos cpos:Pos}{td ty tx:TE}
end
section
variable{X:Cx}{pins:List (Addr×Obj)}{σ:St}{H:Hp}{s:Shared}{a:Addr}{kvs:List (Key×V)}{A:Around}{E:Value->Shared->Prop}
end
section
variable{X:Cx}{pins:List (Addr×Obj)}{σ:St}{H:Hp}{s:Shared}{a:Addr}{y:V}{u:Value}{A:Around}{E:Value->Shared->Prop}
end
end L2
namespace DL
open PySem PySem.Spec L2
inductive D where
 |non
 |bl (b:Bool)
 |int (i:Int)
 |str (cs:List Nat)
 |lst (xs:List D)
 |tup (xs:List D)
 |obj (c:String) (ks:List String) (xs:List D)
 |dct (ks:List Key) (xs:List D)
 |dtt (ks:List (List Key)) (xs:List D)
def KL(K:PySem.W.Frag)(a:Addr)(vs:List V):Prop:=∃(o:Obj) (its:Array Value) (n:Nat),K.lookup a=some o/\o.cls = .type "list" /\ o.dict=none/\o.data = .seq its n/\its.size<=sizeLine/\Vals vs its.toList
structure Kn where
 c:String->Addr
 K:PySem.W.Frag
def ZD:D->Bool
 | .non=>true
 | .bl _=>true
 | .int _=>true
 | .str _=>true
 |_=>false
mutual
def Rep(cA:Kn)(av:Addr->Prop)(H:Hp):D->V->Prop
 | .non,v=>v = .non
 | .bl b,v=>v = .bl b
 | .int i,v=>v = .int i
 | .str cs,v=>v=S cs
 | .lst xs,v=>∃a vs,v = .ref a/\(av a->KL cA.K a vs)/\SqL cA.K H a vs/\RepL cA av H xs vs
 | .tup xs,v=>∃a vs,v = .ref a/\¬av a/\H a=some (.tup vs)/\RepL cA av H xs vs
 | .obj c ks xs,v=>∃a dx vs,v = .ref a/\¬av a/\H a=some (.ins (cA.c c) dx ((ks.map Str.ofString).zip vs))/\ks.length=xs.length/\RepL cA av H xs vs
 | .dct ks xs,v=>∃a vs,v = .ref a/\¬av a/\H a=some (.dK (ks.zip vs))/\ks.length=xs.length/\RepL cA av H xs vs
 | .dtt ks xs,v=>∃a vs,v = .ref a/\¬av a/\H a=some (.dT (ks.zip vs))/\ks.length=xs.length/\RepL cA av H xs vs
def RepL(cA:Kn)(av:Addr->Prop)(H:Hp):List D->List V->Prop
 | [],vs=>vs=[]
 |x::xs,vs=>∃v r,vs=v::r/\Rep cA av H x v/\RepL cA av H xs r
end
section
variable{cA:Kn}{G:Cn}{av av':Addr->Prop}{H H':Hp}
theorem Rd.ext{a:Addr}{u:HO}(h:Rd H a u)(k:∀o,H a=some o->H' a=some o):Rd H' a u:=by
 rcases h with h|⟨o,h⟩
 · exact .inl (k _ h)
 · exact .inr ⟨o,k _ h⟩
theorem Rd.there{a:Addr}{u:HO}(h:Rd H a u):H a≠none:=by
 rcases h with h|⟨o,h⟩<;>rw [h]<;>exact λz=>by cases z
theorem JC{K:PySem.W.Frag}{a:Addr}{vs:List V}(n:av a->KL K a vs)(r:SqL K H a vs)(k:∀b o,¬av b->H b=some o->H' b=some o):SqL K H' a vs:=by
 by_cases h:av a
 · exact .inr (n h)
 · rcases r with r|r
   · exact .inl (Rd.ext r λo=>k a o h)
   · exact .inr r
theorem Ziw{K:PySem.W.Frag}{a:Addr}{vs:List V}(n:av a->KL K a vs)(r:SqL K H a vs)(k:∀b,av' b->av b\/H b=none):av' a->KL K a vs:=λz=>by
 rcases k a z with z|z
 · exact n z
 · rcases r with r|r
   · exact absurd z (Rd.there r)
   · exact r
mutual
theorem Rep.ext:∀{d:D}{v:V},(∀b o,¬av b->H b=some o->H' b=some o)->Rep cA av H d v->Rep cA av H' d v
 | .non,_,_,h=>h
 | .bl _,_,_,h=>h
 | .int _,_,_,h=>h
 | .str _,_,_,h=>h
 | .lst xs,v,k,h=>by
  unfold Rep at h ⊢;obtain⟨a,vs,e,n,r,l⟩:=h;exact⟨a,vs,e,n,JC n r k,RepL.ext k l⟩
 | .tup xs,v,k,h=>by
  unfold Rep at h ⊢;obtain⟨a,vs,e,n,r,l⟩:=h;exact⟨a,vs,e,n,k a _ n r,RepL.ext k l⟩
 | .obj c ks xs,v,k,h=>by
  unfold Rep at h ⊢;obtain⟨a,dx,vs,e,n,r,z,l⟩:=h;exact⟨a,dx,vs,e,n,k a _ n r,z,RepL.ext k l⟩
 | .dct ks xs,v,k,h=>by
  unfold Rep at h ⊢;obtain⟨a,vs,e,n,r,z,l⟩:=h;exact⟨a,vs,e,n,k a _ n r,z,RepL.ext k l⟩
 | .dtt ks xs,v,k,h=>by
  unfold Rep at h ⊢;obtain⟨a,vs,e,n,r,z,l⟩:=h;exact⟨a,vs,e,n,k a _ n r,z,RepL.ext k l⟩
theorem RepL.ext:∀{xs:List D}{vs:List V},(∀b o,¬av b->H b=some o->H' b=some o)->RepL cA av H xs vs->RepL cA av H' xs vs
 | [],_,_,h=>h
 |x::xs,vs,k,h=>by
  unfold RepL at h ⊢;obtain⟨v,r,e,h1,h2⟩:=h;exact⟨v,r,e,Rep.ext k h1,RepL.ext k h2⟩
end
mutual
theorem Rep.av:∀{d:D}{v:V},(∀b,av' b->av b\/H b=none)->Rep cA av H d v->Rep cA av' H d v
 | .non,_,_,h=>h
 | .bl _,_,_,h=>h
 | .int _,_,_,h=>h
 | .str _,_,_,h=>h
 | .lst xs,v,k,h=>by
  unfold Rep at h ⊢;obtain⟨a,vs,e,n,r,l⟩:=h;exact⟨a,vs,e,Ziw n r k,r,RepL.av k l⟩
 | .tup xs,v,k,h=>by
  unfold Rep at h ⊢;obtain⟨a,vs,e,n,r,l⟩:=h;exact⟨a,vs,e,λz=>(k a z).elim n (by rw [r];exact λz=>by cases z),r,RepL.av k l⟩
 | .obj c ks xs,v,k,h=>by
  unfold Rep at h ⊢;obtain⟨a,dx,vs,e,n,r,z,l⟩:=h;exact⟨a,dx,vs,e,λy=>(k a y).elim n (by rw [r];exact λz=>by cases z),r,z,RepL.av k l⟩
 | .dct ks xs,v,k,h=>by
  unfold Rep at h ⊢;obtain⟨a,vs,e,n,r,z,l⟩:=h;exact⟨a,vs,e,λy=>(k a y).elim n (by rw [r];exact λz=>by cases z),r,z,RepL.av k l⟩
 | .dtt ks xs,v,k,h=>by
  unfold Rep at h ⊢;obtain⟨a,vs,e,n,r,z,l⟩:=h;exact⟨a,vs,e,λy=>(k a y).elim n (by rw [r];exact λz=>by cases z),r,z,RepL.av k l⟩
theorem RepL.av:∀{xs:List D}{vs:List V},(∀b,av' b->av b\/H b=none)->RepL cA av H xs vs->RepL cA av' H xs vs
 | [],_,_,h=>h
 |x::xs,vs,k,h=>by
  unfold RepL at h ⊢;obtain⟨v,r,e,h1,h2⟩:=h;exact⟨v,r,e,Rep.av k h1,RepL.av k h2⟩
end
theorem Rep.same{d:D}{v:V}(k:Same H H')(h:Rep cA av H d v):Rep cA av H' d v:=h.ext λb o _=>k b o
theorem RepL.same{xs:List D}{vs:List V}(k:Same H H')(h:RepL cA av H xs vs):RepL cA av H' xs vs:=h.ext λb o _=>k b o
theorem RepL.nil:RepL cA av H [] []:=by unfold RepL;rfl
theorem RepL.cons{d:D}{v:V}{xs:List D}{vs:List V}(h:Rep cA av H d v)(t:RepL cA av H xs vs):RepL cA av H (d::xs) (v::vs):=by
 unfold RepL;exact⟨v,vs,rfl,h,t⟩
theorem RepL.uncons{d:D}{xs:List D}{vs:List V}(h:RepL cA av H (d::xs) vs):∃v r,vs=v::r/\Rep cA av H d v/\RepL cA av H xs r:=by
 unfold RepL at h;exact h
theorem RepL.nil_of{vs:List V}(h:RepL cA av H [] vs):vs=[]:=by
 unfold RepL at h;exact h
theorem RepL.length:∀{xs:List D}{vs:List V},RepL cA av H xs vs->xs.length=vs.length
 | [],vs,h=>by rw [h.nil_of];rfl
 |x::xs,vs,h=>by
  obtain⟨v,r,rfl,_,t⟩:=h.uncons;rw [List.length_cons,List.length_cons,RepL.length t]
theorem RepL.get:∀{xs:List D}{vs:List V}{i:Nat}{x:D},RepL cA av H xs vs->xs[i]? = some x->∃v,vs[i]? = some v/\Rep cA av H x v
 | [],_,_,_,_,e=>by simp at e
 |y::xs,vs,0,x,h,e=>by
  obtain⟨v,r,rfl,h1,_⟩:=h.uncons;simp at e;subst e;exact⟨v,rfl,h1⟩
 |y::xs,vs,i+1,x,h,e=>by
  obtain⟨v,r,rfl,_,t⟩:=h.uncons;obtain⟨u,h1,h2⟩:=RepL.get (i:=i) t (by simpa using e);exact⟨u,by simpa using h1,h2⟩
theorem RepL.append:∀{xs ys:List D}{vs ws:List V},RepL cA av H xs vs->RepL cA av H ys ws->RepL cA av H (xs++ys) (vs++ws)
 | [],_,vs,_,h,t=>by rw [h.nil_of];exact t
 |x::xs,ys,vs,ws,h,t=>by
  obtain⟨v,r,rfl,h1,h2⟩:=h.uncons;exact .cons h1 (RepL.append h2 t)
theorem RepL.drop:∀{xs:List D}{vs:List V}(n:Nat),RepL cA av H xs vs->RepL cA av H (xs.drop n) (vs.drop n)
 |_,_,0,h=>h
 | [],vs,n+1,h=>by rw [h.nil_of];exact .nil
 |x::xs,vs,n+1,h=>by
  obtain⟨v,r,rfl,_,h2⟩:=h.uncons;exact RepL.drop n h2
theorem RepL.take:∀{xs:List D}{vs:List V}(n:Nat),RepL cA av H xs vs->RepL cA av H (xs.take n) (vs.take n)
 |_,_,0,h=>by simp;exact .nil
 | [],vs,n+1,h=>by rw [h.nil_of];exact .nil
 |x::xs,vs,n+1,h=>by
  obtain⟨v,r,rfl,h1,h2⟩:=h.uncons;exact .cons h1 (RepL.take n h2)
theorem RepL.set{d:D}{v:V}(hd:Rep cA av H d v):∀{xs:List D}{vs:List V}(i:Nat),RepL cA av H xs vs->RepL cA av H (xs.set i d) (vs.set i v)
 | [],vs,_,h=>by rw [h.nil_of];exact .nil
 |x::xs,vs,0,h=>by
  obtain⟨v',r,rfl,h1,h2⟩:=h.uncons;exact .cons hd h2
 |x::xs,vs,i+1,h=>by
  obtain⟨v',r,rfl,h1,h2⟩:=h.uncons;exact .cons h1 (RepL.set hd i h2)
def val:D->V
 | .bl b => .bl b
 | .int i => .int i
 | .str cs=>S cs
 |_ => .non
theorem Rep.val{d:D}{v:V}(hs:ZD d=true)(h:Rep cA av H d v):v=DL.val d:=by
 cases d<;>first|exact h|cases hs
theorem Rep.of_val{d:D}(hs:ZD d=true):Rep cA av H d (DL.val d):=by
 cases d<;>first|rfl|cases hs
theorem RepL.vals:∀{xs:List D}{vs:List V},xs.all ZD=true->RepL cA av H xs vs->vs=xs.map DL.val
 | [],vs,_,h=>h.nil_of
 |x::xs,vs,hs,h=>by
  rw [List.all_cons,Bool.and_eq_true]at hs;obtain⟨v,r,rfl,h1,h2⟩:=h.uncons;rw [List.map_cons,h1.val hs.1,RepL.vals hs.2 h2]
theorem RepL.of_vals:∀{xs:List D},xs.all ZD=true->RepL cA av H xs (xs.map DL.val)
 | [],_ => .nil
 |x::xs,hs=>by
  rw [List.all_cons,Bool.and_eq_true]at hs;exact .cons (.of_val hs.1) (RepL.of_vals hs.2)
def RepT(cA:Kn)(t i:Addr->Prop)(H:Hp):D->V->Prop
 | .lst xs,v=>∃a vs,v = .ref a/\(t a->KL cA.K a vs)/\SqL cA.K H a vs/\RepL cA i H xs vs
 | .tup xs,v=>∃a vs,v = .ref a/\¬t a/\H a=some (.tup vs)/\RepL cA i H xs vs
 | .obj c ks xs,v=>∃a dx vs,v = .ref a/\¬t a/\H a=some (.ins (cA.c c) dx ((ks.map Str.ofString).zip vs))/\ks.length=xs.length/\RepL cA i H xs vs
 | .dct ks xs,v=>∃a vs,v = .ref a/\¬t a/\H a=some (.dK (ks.zip vs))/\ks.length=xs.length/\RepL cA i H xs vs
 | .dtt ks xs,v=>∃a vs,v = .ref a/\¬t a/\H a=some (.dT (ks.zip vs))/\ks.length=xs.length/\RepL cA i H xs vs
 |d,v=>v=DL.val d
theorem Rep.t{d:D}{v:V}(h:Rep cA av H d v):RepT cA av av H d v:=by
 cases d<;>first|exact h|(unfold Rep at h;exact h)
theorem RepT.r{d:D}{v:V}(h:RepT cA av av H d v):Rep cA av H d v:=by
 cases d<;>first|exact h|(unfold Rep;exact h)
theorem RepT.weak{t t' i i':Addr->Prop}{d:D}{v:V}(ht:∀a,t' a->t a)(hi:∀a,i' a->i a)(h:RepT cA t i H d v):RepT cA t' i' H d v:=by
 cases d with
 |lst xs=>obtain⟨a,vs,e,n,r,l⟩:=h;exact⟨a,vs,e,λz=>n (ht a z),r,l.av λb z => .inl (hi b z)⟩
 |tup xs=>obtain⟨a,vs,e,n,r,l⟩:=h;exact⟨a,vs,e,λz=>n (ht a z),r,l.av λb z => .inl (hi b z)⟩
 |obj c ks xs=>obtain⟨a,dx,vs,e,n,r,z,l⟩:=h;exact⟨a,dx,vs,e,λz=>n (ht a z),r,z,l.av λb z => .inl (hi b z)⟩
 |dct ks xs=>obtain⟨a,vs,e,n,r,z,l⟩:=h;exact⟨a,vs,e,λz=>n (ht a z),r,z,l.av λb z => .inl (hi b z)⟩
 |dtt ks xs=>obtain⟨a,vs,e,n,r,z,l⟩:=h;exact⟨a,vs,e,λz=>n (ht a z),r,z,l.av λb z => .inl (hi b z)⟩
 |_=>exact h
theorem RepT.same{t i:Addr->Prop}{d:D}{v:V}(k:Same H H')(h:RepT cA t i H d v):RepT cA t i H' d v:=by
 cases d with
 |lst xs=>obtain⟨a,vs,e,n,r,l⟩:=h;exact⟨a,vs,e,n,k.seq r,l.same k⟩
 |tup xs=>obtain⟨a,vs,e,n,r,l⟩:=h;exact⟨a,vs,e,n,k a _ r,l.same k⟩
 |obj c ks xs=>obtain⟨a,dx,vs,e,n,r,z,l⟩:=h;exact⟨a,dx,vs,e,n,k a _ r,z,l.same k⟩
 |dct ks xs=>obtain⟨a,vs,e,n,r,z,l⟩:=h;exact⟨a,vs,e,n,k a _ r,z,l.same k⟩
 |dtt ks xs=>obtain⟨a,vs,e,n,r,z,l⟩:=h;exact⟨a,vs,e,n,k a _ r,z,l.same k⟩
 |_=>exact h
end
abbrev Env:=List (Option D)
structure Cn where
 cA:Kn
 pin:Nat->Option (Addr ⊕ V)
def AV(av:Addr->Prop)(A:Nat->Option Addr)(a:Addr):Prop:=av a\/∃i,A i=some a
def Own(cA:Kn)(av:Addr->Prop)(H:Hp):D->Addr->Prop
 | .lst xs,a=>∃vs,H a=some (.lst vs)/\RepL cA av H xs vs
 | .obj c ks xs,a=>∃dx vs,H a=some (.ins (cA.c c) dx ((ks.map Str.ofString).zip vs))/\ks.length=xs.length/\RepL cA av H xs vs
 | .dct ks xs,a=>∃vs,H a=some (.dK (ks.zip vs))/\ks.length=xs.length/\RepL cA av H xs vs
 | .dtt ks xs,a=>∃vs,H a=some (.dT (ks.zip vs))/\ks.length=xs.length/\RepL cA av H xs vs
 |_,_=>False
structure ER(G:Cn)(ow:List Nat)(H0:Hp)(av:Addr->Prop)(A:Nat->Option Addr)(σ:St)(H:Hp)(δ:Env):Prop where
 same:Same H0 H
 avd:∀a,av a->H0 a≠none
 fr:∀i a,A i=some a->H0 a=none
 inj:∀i j a,A i=some a->A j=some a->i=j
 live:∀i a,A i=some a->H a≠none
 dom:∀i,A i≠none->i∈ow
 dom':∀i∈ow,A i≠none
 len:σ.length=δ.length
 pin:∀i a,G.2 i=some (.inl a)->A i=some a
 kept:∀i v,G.2 i=some (.inr v)->σ[i]? = some (some v)
 var:∀(i:Nat)(d:D),δ[i]? = some (some d)->∃v,σ[i]? = some (some v)/\(A i=none->Rep G.1 (AV av A) H d v)/\(∀a,A i=some a->v = .ref a/\Own G.1 (AV av A) H d a)
inductive Ql where
 |cl|tp|dt
def RepQ(cA:Kn)(av:Addr->Prop)(A:Nat->Option Addr)(H:Hp):Ql->D->V->Prop
 | .cl,d,v=>RepT cA (AV av A) (AV av A) H d v
 | .tp,d,v=>RepT cA av (AV av A) H d v
 | .dt,d,v=>RepT cA av av H d v
def Ql.it:Ql->Ql
 | .dt => .dt
 |_ => .cl
section
variable{cA:Kn}{G:Cn}{ow:List Nat}{H0 H H':Hp}{av:Addr->Prop}{A:Nat->Option Addr}{σ:St}{δ:Env}
theorem AV.l{a:Addr}(h:av a):AV av A a := .inl h
def Ql.iv(q:Ql)(av:Addr->Prop)(A:Nat->Option Addr):Addr->Prop:=match q with
 | .dt=>av
 |_=>AV av A
theorem RepQ.tp{q:Ql}{d:D}{v:V}(h:RepQ cA av A H q d v):RepT cA av (q.iv av A) H d v:=by
 cases q with
 |cl=>exact h.weak (λa => .inl) λa z=>z
 |tp=>exact h
 |dt=>exact h
theorem RepQ.any{q:Ql}{d:D}{v:V}(h:RepQ cA av A H q d v):Rep cA av H d v:=by
 cases q with
 |cl=>exact(h.weak (λa => .inl) λa => .inl).r
 |tp=>exact(h.weak (λa z=>z) λa => .inl).r
 |dt=>exact h.r
theorem RepQ.same{q:Ql}{d:D}{v:V}(k:Same H H')(h:RepQ cA av A H q d v):RepQ cA av A H' q d v:=by
 cases q<;>exact RepT.same k h
theorem ER.mono(E:ER G ow H0 av A σ H δ)(k:Same H H'):ER G ow H0 av A σ H' δ:=by
 refine⟨E.same.trans k,E.avd,E.fr,E.inj,λi a e => ?_,E.dom,E.dom',E.len,E.pin,E.kept,λi d e => ?_⟩
 · have:=E.live i a e
   cases q:H a with
   |none=>exact absurd q this
   |some o=>rw [k a o q];exact λz=>by cases z
 · obtain⟨v,h1,h2,h3⟩:=E.var i d e
   refine⟨v,h1,λz=>(h2 z).same k,λa z=>⟨(h3 a z).1,?_⟩⟩;have:=(h3 a z).2;cases d with
   |lst xs=>obtain⟨vs,q1,q2⟩:=this;exact⟨vs,k _ _ q1,q2.same k⟩
   |obj c ks xs=>obtain⟨dx,vs,q1,q0,q2⟩:=this;exact⟨dx,vs,k _ _ q1,q0,q2.same k⟩
   |dct ks xs=>obtain⟨vs,q1,q0,q2⟩:=this;exact⟨vs,k _ _ q1,q0,q2.same k⟩
   |dtt ks xs=>obtain⟨vs,q1,q0,q2⟩:=this;exact⟨vs,k _ _ q1,q0,q2.same k⟩
   |_=>exact this
theorem ER.avl(E:ER G ow H0 av A σ H δ):∀a,AV av A a->H a≠none:=λa h=>by
 rcases h with h|⟨i,h⟩
 · have:=E.avd a h
   cases q:H0 a with
   |none=>exact absurd q this
   |some o=>rw [E.same a o q];exact λz=>by cases z
 · exact E.live i a h
theorem ER.avH(E:ER G ow H0 av A σ H δ):∀a,av a->H a≠none:=λa h=>E.avl a (.inl h)
end
def VE(G:Cn)(ow:List Nat)(te:TE)(q:Ql)(ε:Env->Option D):Prop:=
 ∀H0 av A σ H δ,ER G ow H0 av A σ H δ->∀d,ε δ=some d->∀Q:VK,(∀v H',Same H H'->RepQ G.1 av A H' q d v->Q v H')->te σ H Q
def VF(G:Cn)(ow:List Nat)(te:TE)(ε:Env->Option D):Prop:=
 ∀H0 av A σ H δ,ER G ow H0 av A σ H δ->∀d,ε δ=some d->∀Q:VK,(∀p vs xs H1,Same H H1->H1 p=none->RepL G.1 (AV av A) H1 xs vs->d = .lst xs->Q (.ref p) (upd H1 p (.lst vs)))->te σ H Q
def VT(G:Cn)(ow:List Nat)(tt:TT)(τ:Env->Option Bool):Prop:=
 ∀H0 av A σ H δ,ER G ow H0 av A σ H δ->∀b,τ δ=some b->∀Q:Bool->Hp->Prop,(∀H',Same H H'->Q b H')->tt σ H Q
def RepQL(cA:Kn)(av:Addr->Prop)(A:Nat->Option Addr)(H:Hp)(q:Ql):List D->List V->Prop
 | [],vs=>vs=[]
 |x::xs,vs=>∃v r,vs=v::r/\RepQ cA av A H q x v/\RepQL cA av A H q xs r
def VA(G:Cn)(ow:List Nat)(ta:TA)(q:Ql)(α:Env->Option (List D)):Prop:=
 ∀H0 av A σ H δ,ER G ow H0 av A σ H δ->∀ds,α δ=some ds->∀Q:List V->Hp->Prop,(∀vs H',Same H H'->RepQL G.1 av A H' q ds vs->Q vs H')->ta σ H Q
section
variable{cA:Kn}{G:Cn}{ow:List Nat}
theorem RepQL.same{av:Addr->Prop}{A:Nat->Option Addr}{H H':Hp}{q:Ql}(k:Same H H'):∀{xs:List D}{vs:List V},RepQL cA av A H q xs vs->RepQL cA av A H' q xs vs
 | [],_,h=>h
 |x::xs,vs,h=>by
  obtain⟨v,r,e,h1,h2⟩:=h;exact⟨v,r,e,h1.same k,RepQL.same k h2⟩
theorem RepQL.cl{av:Addr->Prop}{A:Nat->Option Addr}{H:Hp}:∀{xs:List D}{vs:List V},RepQL cA av A H .cl xs vs->RepL cA (AV av A) H xs vs
 | [],_,h=>by unfold RepL;exact h
 |x::xs,vs,h=>by
  obtain⟨v,r,e,h1,h2⟩:=h;subst e;exact .cons (RepT.r h1) (RepQL.cl h2)
theorem RepQL.any{av:Addr->Prop}{A:Nat->Option Addr}{H:Hp}{q:Ql}:∀{xs:List D}{vs:List V},RepQL cA av A H q xs vs->RepL cA av H xs vs
 | [],_,h=>by unfold RepL;exact h
 |x::xs,vs,h=>by
  obtain⟨v,r,e,h1,h2⟩:=h;subst e;exact .cons h1.any (RepQL.any h2)
theorem VE.dt{te:TE}{q:Ql}{ε:Env->Option D}(h:VE G ow te q ε):VE G ow te .dt ε:=λH0 av A σ H δ E d e Q k=>
 h H0 av A σ H δ E d e Q λv H' s r=>k v H' s r.any.t
theorem ZZ{H:Hp}{p:Addr}{o:HO}(h:H p=none):Same H (upd H p o):=Zex h
theorem VF.cl{te:TE}{ε:Env->Option D}(h:VF G ow te ε):VE G ow te .cl ε:=λH0 av A σ H δ E d e Q k=>
 h H0 av A σ H δ E d e Q λp vs xs H1 s hp l hd=>by
  subst hd;refine k _ _ (s.trans (ZZ hp)) ⟨p,vs,rfl,λz=>((E.mono s).avl p z hp).elim,SqL.of ZW,l.same (ZZ hp)⟩
def Za(i:Nat)(δ:Env):Option D:=match δ[i]? with
 |some (some d)=>some d
 |_=>none
theorem XO{i:Nat}{δ:Env}{d:D}(h:Za i δ=some d):δ[i]? = some (some d):=by
 unfold Za at h;cases e:δ[i]? with
 |none=>rw [e]at h;cases h
 |some o=>
  rw [e]at h;cases o with
  |none=>cases h
  |some x=>exact congrArg (some∘some) (Option.some.inj h)
theorem Zc(i:Nat)(hi:(ow.contains i)=false):VE G ow (YM i) .cl (Za i):=λH0 av A σ H δ E d e Q k=>by
 obtain⟨v,h1,h2,_⟩:=E.var i d (XO e)
 have hn:A i=none:=by
  cases q:A i with
  |none=>rfl
  |some a=>
   have:=E.dom i (by rw [q];exact λz=>by cases z);simp at hi;exact absurd this hi
 exact⟨v,h1,k v H (Same.refl H) (h2 hn).t⟩
theorem Ux(i:Nat)(hi:(ow.contains i)=true):VE G ow (YM i) .tp (Za i):=λH0 av A σ H δ E d e Q k=>by
 obtain⟨v,h1,_,h3⟩:=E.var i d (XO e);have hi':i∈ow:=by simpa using hi
 cases q:A i with
 |none=>exact absurd q (E.dom' i hi')
 |some a=>
  obtain⟨rfl,o⟩:=h3 a q;have na:¬av a:=λz=>E.avd a z (E.fr i a q)
  refine⟨_,h1,k _ H (Same.refl H) ?_⟩;cases d with
  |lst xs=>obtain⟨vs,q1,q2⟩:=o;exact⟨a,vs,rfl,λz=>(na z).elim,SqL.of q1,q2⟩
  |obj c ks xs=>obtain⟨dx,vs,q1,q0,q2⟩:=o;exact⟨a,dx,vs,rfl,na,q1,q0,q2⟩
  |dct ks xs=>obtain⟨vs,q1,q0,q2⟩:=o;exact⟨a,vs,rfl,na,q1,q0,q2⟩
  |dtt ks xs=>obtain⟨vs,q1,q0,q2⟩:=o;exact⟨a,vs,rfl,na,q1,q0,q2⟩
  |_=>exact False.elim o
def eC(d:D)(_:Env):Option D:=some d
theorem Zl{v:V}{d:D}(hs:ZD d=true)(hv:v=val d):VE G ow (tC v) .cl (eC d):=λH0 av A σ H δ E d' e Q k=>by
 have e':d=d':=Option.some.inj e;subst e' hv;exact k _ H (Same.refl H) (Rep.of_val hs).t
def Xb(cA:Kn)(r:R2)(f:D->D->Option D):Prop:=
 ∀(t t' i:Addr->Prop)(H:Hp)(x y:D)(vx vy:V)(d:D),(∀a,i a->H a≠none)->RepT cA t i H x vx->RepT cA t' i H y vy->f x y=some d->∀Q:VK,(∀v H',Same H H'->Rep cA i H' d v->Q v H')->r vx vy H Q
def eOp(f:D->D->Option D)(a b:Env->Option D)(δ:Env):Option D:=match a δ with
 |some x=>match b δ with
  |some y=>f x y
  |none=>none
 |none=>none
theorem Zca{f:D->D->Option D}{a b:Env->Option D}{δ:Env}{d:D}(h:eOp f a b δ=some d):∃x y,a δ=some x/\b δ=some y/\f x y=some d:=by
 unfold eOp at h;cases ea:a δ with
 |none=>rw [ea]at h;cases h
 |some x=>
  rw [ea]at h;cases eb:b δ with
  |none=>rw [eb]at h;cases h
  |some y=>rw [eb]at h;exact⟨x,y,rfl,rfl,h⟩
def Ql.jn:Ql->Ql->Ql
 | .dt,_ => .dt
 |_,.dt => .dt
 |_,_ => .cl
theorem Zf{r:R2}{f:D->D->Option D}{ta tb:TE}{qa qb:Ql}{a b:Env->Option D}(hr:Xb G.1 r f)(ha:VE G ow ta qa a)(hb:VE G ow tb qb b):VE G ow (tOp r ta tb) (qa.jn qb) (eOp f a b):=λH0 av A σ H δ E d e Q k=>by
 obtain⟨x,y,ex,ey,ed⟩:=Zca e;refine ha H0 av A σ H δ E x ex _ λvx H1 s1 r1=>hb H0 av A σ H1 δ (E.mono s1) y ey _ λvy H2 s2 r2 => ?_
 have E2:=(E.mono s1).mono s2;have r1':=(r1.same s2).tp;have r2':=r2.tp;have key:∀i:Addr->Prop,(∀a,i a->H2 a≠none)->RepT G.1 av i H2 x vx->RepT G.1 av i H2 y vy->(∀v H',Same H2 H'->Rep G.1 i H' d v->Q v H')->r vx vy H2 Q:=λi hi h1 h2 h3=>hr av av i H2 x y vx vy d hi h1 h2 ed Q h3
 have toav:∀{dd:D}{v:V},RepT G.1 av (AV av A) H2 dd v->RepT G.1 av av H2 dd v:=λh=>h.weak (λa z=>z) λa => .inl
 cases qa with
 |dt=>
  refine key av E2.avH r1' ?_ λv H' s3 r3=>k v H' ((s1.trans s2).trans s3) r3.t
  cases qb with
  |dt=>exact r2'
  |cl=>exact toav r2'
  |tp=>exact toav r2'
 |cl=>
  cases qb with
  |dt=>exact key av E2.avH (toav r1') r2' λv H' s3 r3=>k v H' ((s1.trans s2).trans s3) r3.t
  |cl=>exact key _ E2.avl r1' r2' λv H' s3 r3=>k v H' ((s1.trans s2).trans s3) r3.t
  |tp=>exact key _ E2.avl r1' r2' λv H' s3 r3=>k v H' ((s1.trans s2).trans s3) r3.t
 |tp=>
  cases qb with
  |dt=>exact key av E2.avH (toav r1') r2' λv H' s3 r3=>k v H' ((s1.trans s2).trans s3) r3.t
  |cl=>exact key _ E2.avl r1' r2' λv H' s3 r3=>k v H' ((s1.trans s2).trans s3) r3.t
  |tp=>exact key _ E2.avl r1' r2' λv H' s3 r3=>k v H' ((s1.trans s2).trans s3) r3.t
end
end DL
namespace DL
open PySem PySem.Spec L2
mutual
def toP:D->PyData
 | .non => .none
 | .bl b => .bool b
 | .int i => .int i
 | .str cs => .str (tx cs)
 | .lst xs => .list (Yu xs)
 | .tup xs => .tuple (Yu xs)
 | .obj _ _ _ => .dict []
 | .dct _ _ => .dict []
 | .dtt _ _ => .dict []
def Yu:List D->List PyData
 | []=>[]
 |x::xs=>toP x::Yu xs
end
section
variable{X:Cx}{cA:Kn}
mutual
theorem Qy{pins:List (Addr×Obj)}{σ:L2.St}{H:Hp}{s:Shared}{av:Addr->Prop}(hK:cA.K=X.K)(I:Inv X pins σ H s):∀(d:D)(v:V)(u:Value),PyData.canLay0 (toP d)=true->Rep cA av H d v->RelV v u->∃as,Reads s.heap u (toP d) as
 | .non,v,u,_,h,r=>by
  cases(show v = .non from h);cases r;exact⟨_,.none⟩
 | .bl b,v,u,_,h,r=>by
  cases(show v = .bl b from h);cases r;exact⟨_,.bool b⟩
 | .int i,v,u,_,h,r=>by
  cases(show v = .int i from h);obtain⟨t,rfl⟩:=r;exact⟨_,.int i t⟩
 | .str cs,v,u,_,h,r=>by
  cases(show v=S cs from h);obtain⟨t,rfl⟩:=r;exact⟨_,.str _ t⟩
 | .lst xs,v,u,c,h,r=>by
  unfold Rep at h;obtain⟨a,vs,rfl,_,rd,l⟩:=h;cases r;obtain⟨its,rv,⟨ob,n,e,hc,hd,hs⟩,z⟩:=I.list (show SqL X.K H a vs from hK▸rd);obtain⟨as,ra⟩:=Zau hK I xs vs its (by unfold toP PyData.canLay0 at c;exact c) l rv;unfold toP;exact⟨_,.list e hc hs (by simpa using ra)⟩
 | .tup xs,v,u,c,h,r=>by
  unfold Rep at h;obtain⟨a,vs,rfl,_,rd,l⟩:=h;cases r;obtain⟨z,its,rv,ob,e,hc,⟨n,hd⟩,_⟩:=(show ObjOk X.prog X.w H s.heap a (.tup vs)from I.hok a _ rd)
  obtain⟨as,ra⟩:=Zau hK I xs vs its (by unfold toP PyData.canLay0 at c;exact c) l rv;unfold toP;exact⟨_,.tuple e hc hd (by simpa using ra)⟩
 | .obj c' ks xs,v,u,c,h,r=>by
  unfold toP PyData.canLay0 at c;cases c
 | .dct ks xs,v,u,c,h,r=>by
  unfold toP PyData.canLay0 at c;cases c
 | .dtt ks xs,v,u,c,h,r=>by
  unfold toP PyData.canLay0 at c;cases c
theorem Zau{pins:List (Addr×Obj)}{σ:L2.St}{H:Hp}{s:Shared}{av:Addr->Prop}(hK:cA.K=X.K)(I:Inv X pins σ H s):∀(xs:List D)(vs:List V)(us:List Value),PyData.canLayAll0 (Yu xs)=true->RepL cA av H xs vs->Vals vs us->∃as,ReadsAll s.heap us (Yu xs) as
 | [],vs,us,_,h,r=>by
  rw [h.nil_of]at r;cases r;exact⟨_,.nil⟩
 |x::xs,vs,us,c,h,r=>by
  obtain⟨v,rr,rfl,h1,h2⟩:=h.uncons;cases r with
  |cons r1 r2=>
   unfold Yu PyData.canLayAll0 at c;rw [Bool.and_eq_true]at c;obtain⟨a1,q1⟩:=Qy hK I x v _ c.1 h1 r1;obtain⟨a2,q2⟩:=Zau hK I xs rr _ c.2 h2 r2;unfold Yu;exact⟨_,.cons q1 q2⟩
end
end
def eqD(x y:D):Option D:=
 if ZD x&&ZD y&&X8 (val x) (val y)then some (.bl (decide (val x=val y)))
 else if SeqAt.shaped (toP x)&&SeqAt.shaped (toP y)then some (.bl (PyData.eqv (toP x) (toP y)))else none
def neD(x y:D):Option D:=match eqD x y with
 |some (.bl b)=>some (.bl (!b))
 |_=>none
def JD(cA:Kn)(neg:Bool):R2:=λx y H Q=>∃av av' dx dy b,Rep cA av H dx x/\Rep cA av' H dy y/\eqD dx dy=some (.bl b)/\Q (.bl (neg != b)) H
section
variable{X:Cx}{cA:Kn}
theorem Xp(hu:X.A.units+64<cLine)(hK:cA.K=X.K:=by rfl):OpR X (compareOp .Eq) (JD cA false):=by
 intro pins s σ H x y v u Q I rx ry h;obtain⟨av,av',dx,dy,b,hx,hy,e,q⟩:=h;unfold eqD at e
 by_cases h1:(ZD dx&&ZD dy&&X8 (val dx) (val dy))=true
 · rw [if_pos h1]at e
   simp only [Bool.and_eq_true]at h1;obtain⟨⟨s1,s2⟩,s3⟩:=h1;have e1:=hx.val s1;have e2:=hy.val s2;subst e1 e2;have e':decide (val dx=val dy)=b:=by simpa using e
   exact Ziq pins s σ H _ _ v u Q I rx ry ⟨s3,by rw [e'];simpa using q⟩
 · rw [if_neg h1]at e
   by_cases h2:(SeqAt.shaped (toP dx)&&SeqAt.shaped (toP dy))=true
   · rw [if_pos h2]at e
     rw [Bool.and_eq_true]at h2;obtain⟨as,ra⟩:=Qy hK I dx x v (SeqAt.canLay_of_shaped h2.1) hx rx;obtain⟨bs,rb⟩:=Qy hK I dy y u (SeqAt.canLay_of_shaped h2.2) hy ry;have e':PyData.eqv (toP dx) (toP dy)=b:=by simpa using e
     exact PyProof.Rows.eq_dataH ra rb h2.1 h2.2 hu (by rw [e'];exact⟨.bl b,H,I,rfl,by simpa using q⟩)
   · rw [if_neg h2]at e
     cases e
theorem Xc(hu:X.A.units+64<cLine)(hK:cA.K=X.K:=by rfl):OpR X (compareOp .NotEq) (JD cA true):=by
 intro pins s σ H x y v u Q I rx ry h;obtain⟨av,av',dx,dy,b,hx,hy,e,q⟩:=h;unfold eqD at e
 by_cases h1:(ZD dx&&ZD dy&&X8 (val dx) (val dy))=true
 · rw [if_pos h1]at e
   simp only [Bool.and_eq_true]at h1;obtain⟨⟨s1,s2⟩,s3⟩:=h1;have e1:=hx.val s1;have e2:=hy.val s2;subst e1 e2;have e':decide (val dx=val dy)=b:=by simpa using e
   exact Zir pins s σ H _ _ v u Q I rx ry ⟨s3,by rw [e'];simpa using q⟩
 · rw [if_neg h1]at e
   by_cases h2:(SeqAt.shaped (toP dx)&&SeqAt.shaped (toP dy))=true
   · rw [if_pos h2]at e
     rw [Bool.and_eq_true]at h2;obtain⟨as,ra⟩:=Qy hK I dx x v (SeqAt.canLay_of_shaped h2.1) hx rx;obtain⟨bs,rb⟩:=Qy hK I dy y u (SeqAt.canLay_of_shaped h2.2) hy ry;have e':PyData.eqv (toP dx) (toP dy)=b:=by simpa using e
     exact PyProof.Rows.ne_dataH ra rb h2.1 h2.2 hu (by rw [e'];exact⟨.bl (!b),H,I,rfl,by simpa using q⟩)
   · rw [if_neg h2]at e
     cases e
theorem RepT.av0{t i:Addr->Prop}{H:Hp}{d:D}{v:V}(h:RepT cA t i H d v):Rep cA (λ_=>False) H d v:=(h.weak (λ_ z=>z.elim) λ_ z=>z.elim).r
theorem Zfb{x y d:D}(h:eqD x y=some d):∃b,d = .bl b:=by
 unfold eqD at h
 split at h
 · exact⟨_,(Option.some.inj h).symm⟩
 · split at h
   · exact⟨_,(Option.some.inj h).symm⟩
   · cases h
theorem Y2:Xb cA (JD cA false) eqD:=λt t' i H x y vx vy d _ hx hy e Q k=>by
 obtain⟨b,rfl⟩:=Zfb e;exact⟨_,_,x,y,b,hx.av0,hy.av0,e,k _ H (Same.refl H) (by cases b<;>rfl)⟩
theorem YQ:Xb cA (JD cA true) neD:=λt t' i H x y vx vy d _ hx hy e Q k=>by
 unfold neD at e;cases he:eqD x y with
 |none=>rw [he]at e;cases e
 |some z=>
  obtain⟨b,rfl⟩:=Zfb he;rw [he]at e;have e':D.bl (!b)=d:=Option.some.inj e;subst e';exact⟨_,_,x,y,b,hx.av0,hy.av0,he,k _ H (Same.refl H) (by cases b<;>rfl)⟩
def mulL(x:List Nat)(n:Int):List Nat:=(List.replicate n.toNat x).flatten
theorem Zbd(x:List Nat):∀(k:Nat)(acc:Array Nat),(List.replicate k x.toArray).foldl (· ++ ·) acc=acc++(List.replicate k x).flatten.toArray
 |0,acc=>by simp
 |k+1,acc=>by
  rw [List.replicate_succ,List.replicate_succ,List.foldl_cons,Zbd x k,List.flatten_cons];simp
theorem Zhl(x:List Nat)(n:Int):Txt.mul (tx x) n=tx (mulL x n):=by
 unfold Txt.mul mulL
 by_cases h1:n<1
 · rw [if_pos h1]
   have:n.toNat=0:=by omega
   rw [this];rfl
 · rw [if_neg h1]
   by_cases h2:(n == 1||(tx x).length == 0)=true
   · rw [if_pos h2]
     rw [Bool.or_eq_true]at h2;rcases h2 with h2|h2
     · have:n=1:=by simpa using h2
       subst this;simp
     · have : x = [] := by
        have:(tx x).length=0:=by simpa using h2
        rw [Xm]at this;exact List.eq_nil_of_length_eq_zero this
       subst this;simp
   · rw [if_neg h2]
     have:=Zbd x n.toNat #[];rw [this];simp
def rMulS:R2:=λx y H Q=>∃a n,x=S a/\y = .int n/\(n<2 ^ 63 /\ -(2 ^ 63)<=n/\a.length*n.toNat<=sizeLine)/\Q (S (mulL a n)) H
theorem op_mulS:OpR X (binaryOp .Mult) rMulS:=by
 intro pins s σ H x y v u Q I rx ry h;obtain⟨a,n,rfl,rfl,⟨h1,h2,h3⟩,q⟩:=h;obtain⟨t,rfl⟩:=rx;obtain⟨t',rfl⟩:=ry;refine SB.mul ⟨?_,λhn hc => ?_,λhn hc => ?_⟩ λt' k=>⟨S (mulL a n),H,I.tok _,⟨_,by rw [Zhl]⟩,q⟩
 · have e1:decide (n < -(2 ^ 63:Int))=false:=decide_eq_false (by omega)
   have e2:decide (n ≥ 2 ^ 63)=false:=decide_eq_false (by omega);rw [e1,e2];rfl
 · rw [Xm]
   have hs:sizeLine=16777216:=sizeLine_eq;intro hgt
   have h5:(a.length:Int)*n<=16777216:=by
    have:(a.length:Int)*n=((a.length*n.toNat:Nat):Int):=by
     rw [Int.natCast_mul,Int.toNat_of_nonneg (by omega)]
    rw [this];omega
   have h6:(2 ^ 63-1) / n<(a.length:Int):=hgt
   have h7:(2 ^ 63-1:Int)<(a.length:Int)*n:=by
    have:=Int.lt_mul_of_ediv_lt (show(0:Int)<n by omega) h6;rw [Int.mul_comm];rw [Int.mul_comm]at this;exact this
   omega
 · rw [Xm]
   show decide (a.length*n.toNat>sizeLine)=false;exact decide_eq_false (by omega)
instance (i j:Int):Decidable (CMul i j):=by unfold CMul;infer_instance
instance (i j:Int):Decidable (V8 i j):=by unfold V8;infer_instance
def addD:D->D->Option D
 | .int i,.int j=>some (.int (i+j))
 | .str a,.str b=>if a.length+b.length<=sizeLine then some (.str (a++b))else none
 |_,_=>none
def subD:D->D->Option D
 | .int i,.int j=>some (.int (i-j))
 |_,_=>none
def Qz:D->D->Option D
 | .int i,.int j=>if CMul i j then some (.int (i*j))else none
 | .str a,.int n=>if n<2 ^ 63 /\ -(2 ^ 63)<=n/\a.length*n.toNat<=sizeLine then some (.str (mulL a n))else none
 |_,_=>none
def QA:D->D->Option D
 | .int i,.int j=>if V8 i j then some (.int (i / j))else none
 |_,_=>none
def QB:D->D->Option D
 | .int i,.int j=>if 0<j then some (.int (i % j))else none
 |_,_=>none
def Z5(p:Int->Int->Bool):D->D->Option D
 | .int i,.int j=>some (.bl (p i j))
 |_,_=>none
theorem Zhm:Xb cA Ziv addD:=λt t' i H x y vx vy d _ hx hy e Q k=>by
 cases x<;>cases y<;>first|(cases e;done)|skip
 · cases(show vx=_ from hx);cases(show vy=_ from hy)
   cases e;exact .inl ⟨_,_,rfl,rfl,k _ H (Same.refl H) rfl⟩
 · cases(show vx=_ from hx);cases(show vy=_ from hy)
   rename_i a b;dsimp only [addD]at e
   by_cases hz:a.length+b.length<=sizeLine
   · rw [if_pos hz]at e
     cases e;exact .inr (.inl ⟨_,_,rfl,rfl,hz,k _ H (Same.refl H) rfl⟩)
   · rw [if_neg hz]at e;cases e
theorem Uy:Xb cA (rI0 λi j => .int (i-j)) subD:=λt t' i H x y vx vy d _ hx hy e Q k=>by
 cases x<;>cases y<;>first|(cases e;done)|skip
 cases(show vx=_ from hx);cases(show vy=_ from hy);cases e;exact⟨_,_,rfl,rfl,k _ H (Same.refl H) rfl⟩
theorem Va{p:Int->Int->Bool}:Xb cA (rI0 λi j => .bl (p i j)) (Z5 p):=λt t' i H x y vx vy d _ hx hy e Q k=>by
 cases x<;>cases y<;>first|(cases e;done)|skip
 cases(show vx=_ from hx);cases(show vy=_ from hy);cases e;exact⟨_,_,rfl,rfl,k _ H (Same.refl H) rfl⟩
def ixD:D->D->Option D
 | .lst xs,.int i=>atI xs i
 | .tup xs,.int i=>atI xs i
 | .str cs,.int i=>if cs.length<=sizeLine then(atI cs i).map λc => .str [c]else none
 |_,_=>none
theorem Zdj{av:Addr->Prop}{H:Hp}{xs:List D}{vs:List V}{i:Int}{d:D}(l:RepL cA av H xs vs)(h:atI xs i=some d):∃v,atI vs i=some v/\Rep cA av H d v:=by
 unfold atI at h ⊢;rw [l.length]at h;cases e:ixN vs.length i with
 |none=>rw [e]at h;cases h
 |some j=>
  rw [e]at h;exact l.get h
theorem Zy:Xb cA (X9 cA.K) ixD:=λt t' i H x y vx vy d _ hx hy e Q k=>by
 cases y<;>first|(cases x<;>cases e;done)|skip
 rename_i j;cases(show vy=_ from hy);cases x<;>first|(cases e;done)|skip
 · cases(show vx=_ from hx)
   rename_i cs;dsimp only [ixD]at e
   by_cases hz:cs.length<=sizeLine
   · rw [if_pos hz]at e
     cases ea:atI cs j with
     |none=>rw [ea]at e;cases e
     |some c=>
      rw [ea]at e;cases e;exact .inr (.inr ⟨cs,j,c,rfl,rfl,hz,ea,k _ H (Same.refl H) rfl⟩)
   · rw [if_neg hz]at e;cases e
 · obtain⟨a,vs,rfl,_,rd,l⟩:=hx
   obtain⟨v,h1,h2⟩:=Zdj l e;exact .inl ⟨a,vs,j,v,rfl,rfl,rd,h1,k v H (Same.refl H) h2⟩
 · obtain⟨a,vs,rfl,_,rd,l⟩:=hx
   obtain⟨v,h1,h2⟩:=Zdj l e;exact .inr (.inl ⟨a,vs,j,v,rfl,rfl,SqT.of rd,h1,k v H (Same.refl H) h2⟩)
end
end DL
namespace DL
open PySem PySem.Spec L2
section
variable{cA:Kn}{G:Cn}{ow:List Nat}
def bD:Option D->Option Bool
 |some (.bl b)=>some b
 |_=>none
theorem Zdk{o:Option D}{b:Bool}(h:bD o=some b):o=some (.bl b):=by
 cases o with
 |none=>cases h
 |some d=>cases d<;>first|(cases h;rfl)|cases h
def xB(ε:Env->Option D)(δ:Env):Option Bool:=bD (ε δ)
theorem YJ{te:TE}{q:Ql}{ε:Env->Option D}(h:VE G ow te q ε):VT G ow (tB te) (xB ε):=λH0 av A σ H δ E b e Q k=>
 h H0 av A σ H δ E _ (Zdk e) _ λv H' s r=>⟨b,by cases q<;>exact r,k H' s⟩
theorem ZX{te:TE}{q:Ql}{ε:Env->Option D}(h:VE G ow te q ε):VT G ow (ZgO te) (xB ε):=λH0 av A σ H δ E b e Q k=>
 h H0 av A σ H δ E _ (Zdk e) _ λv H' s r=>⟨b,by cases q<;>exact r,k H' s⟩
def Yc(τ:Env->Option Bool)(δ:Env):Option Bool:=match τ δ with
 |some b=>some (!b)
 |none=>none
theorem XQ{t:TT}{τ:Env->Option Bool}(h:VT G ow t τ):VT G ow (Zj7 t) (Yc τ):=λH0 av A σ H δ E b e Q k=>by
 unfold Yc at e;cases he:τ δ with
 |none=>rw [he]at e;cases e
 |some c=>
  rw [he]at e;cases e;exact h H0 av A σ H δ E c he _ λH' s=>k H' s
def QC(τ υ:Env->Option Bool)(δ:Env):Option Bool:=match τ δ with
 |some true=>υ δ
 |some false=>some false
 |none=>none
def xOr(τ υ:Env->Option Bool)(δ:Env):Option Bool:=match τ δ with
 |some true=>some true
 |some false=>υ δ
 |none=>none
theorem XR{t u:TT}{τ υ:Env->Option Bool}(h:VT G ow t τ)(h':VT G ow u υ):VT G ow (tOr t u) (xOr τ υ):=λH0 av A σ H δ E b e Q k=>by
 unfold xOr at e;cases he:τ δ with
 |none=>rw [he]at e;cases e
 |some c=>
  rw [he]at e;refine h H0 av A σ H δ E c he _ λH' s => ?_
  cases c with
  |true=>cases e;exact XI (k H' s)
  |false=>exact XH (h' H0 av A σ H' δ (E.mono s) b e _ λH2 s2=>k H2 (s.trans s2))
theorem Y3:VT G ow tYes (λ_=>some true):=λH0 av A σ H δ E b e Q k=>by
 cases e;exact k H (Same.refl H)
theorem blq{av:Addr->Prop}{A:Nat->Option Addr}{H:Hp}{q:Ql}{b:Bool}:RepQ cA av A H q (.bl b) (.bl b):=by cases q<;>exact rfl
theorem qbl{av:Addr->Prop}{A:Nat->Option Addr}{H:Hp}{q:Ql}{b:Bool}{v:V}(h:RepQ cA av A H q (.bl b) v):v = .bl b:=by cases q<;>exact h
def YC(a b:Env->Option D)(δ:Env):Option D:=match a δ with
 |some (.bl true)=>b δ
 |some (.bl false)=>some (.bl false)
 |_=>none
def eOr(a b:Env->Option D)(δ:Env):Option D:=match a δ with
 |some (.bl true)=>some (.bl true)
 |some (.bl false)=>b δ
 |_=>none
def Ub(a:Env->Option D)(δ:Env):Option D:=match a δ with
 |some (.bl b)=>some (.bl (!b))
 |_=>none
theorem UV{ta tb:TE}{qa qb:Ql}{a b:Env->Option D}(ha:VE G ow ta qa a)(hb:VE G ow tb qb b):VE G ow (ZgI ta tb) qb (YC a b):=λH0 av A σ H δ E d e Q k=>by
 unfold YC at e;cases he:a δ with
 |none=>rw [he]at e;cases e
 |some x=>
  rw [he]at e;cases x<;>first|(cases e;done)|skip
  rename_i c;refine ha H0 av A σ H δ E _ he _ λv H' s r=>⟨c,qbl r,?_⟩
  cases c with
  |true=>exact XI (hb H0 av A σ H' δ (E.mono s) d e _ λv2 H2 s2 r2=>k v2 H2 (s.trans s2) r2)
  |false=>cases e;exact XH (k _ H' s blq)
theorem Zhn{ta:TE}{qa:Ql}{a:Env->Option D}(ha:VE G ow ta qa a):VE G ow (ZgJ ta) .cl (Ub a):=λH0 av A σ H δ E d e Q k=>by
 unfold Ub at e;cases he:a δ with
 |none=>rw [he]at e;cases e
 |some x=>
  rw [he]at e;cases x<;>first|(cases e;done)|skip
  cases e;exact ha H0 av A σ H δ E _ he _ λv H' s r=>⟨_,qbl r,k _ H' s blq⟩
def eIf(τ:Env->Option Bool)(a b:Env->Option D)(δ:Env):Option D:=match τ δ with
 |some true=>a δ
 |some false=>b δ
 |none=>none
theorem Zix{t:TT}{ta tb:TE}{q:Ql}{τ:Env->Option Bool}{a b:Env->Option D}(ht:VT G ow t τ)(ha:VE G ow ta q a)(hb:VE G ow tb q b):VE G ow (tIf t ta tb) q (eIf τ a b):=λH0 av A σ H δ E d e Q k=>by
 unfold eIf at e;cases he:τ δ with
 |none=>rw [he]at e;cases e
 |some c=>
  rw [he]at e;refine ht H0 av A σ H δ E c he _ λH' s => ?_
  cases c with
  |true=>exact XI (ha H0 av A σ H' δ (E.mono s) d e _ λv H2 s2 r=>k v H2 (s.trans s2) r)
  |false=>exact XH (hb H0 av A σ H' δ (E.mono s) d e _ λv H2 s2 r=>k v H2 (s.trans s2) r)
def Uc:D->Bool
 | .non=>true
 |_=>false
theorem Zdl{av:Addr->Prop}{H:Hp}{d:D}{v:V}(h:Rep cA av H d v):decide (v = .non)=Uc d:=by
 cases d with
 |non=>cases(show v=_ from h);rfl
 |bl b=>cases(show v=_ from h);rfl
 |int i=>cases(show v=_ from h);rfl
 |str cs=>cases(show v=_ from h);rfl
 |lst xs=>unfold Rep at h;obtain⟨a,vs,rfl,_⟩:=h;rfl
 |tup xs=>unfold Rep at h;obtain⟨a,vs,rfl,_⟩:=h;rfl
 |obj c ks xs=>unfold Rep at h;obtain⟨a,dx,vs,rfl,_⟩:=h;rfl
 |dct ks xs=>unfold Rep at h;obtain⟨a,vs,rfl,_⟩:=h;rfl
 |dtt ks xs=>unfold Rep at h;obtain⟨a,vs,rfl,_⟩:=h;rfl
def Xq(a:Env->Option D)(δ:Env):Option D:=match a δ with
 |some d=>some (.bl (Uc d))
 |none=>none
def Vb(a:Env->Option D)(δ:Env):Option D:=match a δ with
 |some d=>some (.bl (!Uc d))
 |none=>none
theorem Zfc{ta:TE}{qa:Ql}{a:Env->Option D}(ha:VE G ow ta qa a):VE G ow (Zj6 ta) .cl (Xq a):=λH0 av A σ H δ E d e Q k=>by
 unfold Xq at e;cases he:a δ with
 |none=>rw [he]at e;cases e
 |some x=>
  rw [he]at e;cases e;refine ha H0 av A σ H δ E _ he _ λv H' s r => ?_
  rw [Zdl r.any];exact k _ H' s blq
theorem Zf0{ta:TE}{qa:Ql}{a:Env->Option D}(ha:VE G ow ta qa a):VE G ow (ZgH ta) .cl (Vb a):=λH0 av A σ H δ E d e Q k=>by
 unfold Vb at e;cases he:a δ with
 |none=>rw [he]at e;cases e
 |some x=>
  rw [he]at e;cases e;refine ha H0 av A σ H δ E _ he _ λv H' s r => ?_
  rw [Zdl r.any];exact k _ H' s blq
def QD(f g:D->D->Option D)(a b c:Env->Option D)(δ:Env):Option D:=match eOp f a b δ with
 |some (.bl true)=>eOp g b c δ
 |some (.bl false)=>some (.bl false)
 |_=>none
def Yl:D->Option D
 | .int i=>some (.int (-i))
 |_=>none
def eUn(f:D->Option D)(a:Env->Option D)(δ:Env):Option D:=match a δ with
 |some x=>f x
 |none=>none
theorem XS{ta:TE}{qa:Ql}{a:Env->Option D}(ha:VE G ow ta qa a):VE G ow (tUn (rU λi => .int (-i)) ta) .cl (eUn Yl a):=λH0 av A σ H δ E d e Q k=>by
 unfold eUn at e;cases he:a δ with
 |none=>rw [he]at e;cases e
 |some x=>
  rw [he]at e;cases x<;>first|(cases e;done)|skip
  cases e;refine ha H0 av A σ H δ E _ he _ λv H' s r => ?_
  have e1:=r.any;exact⟨_,e1,k _ H' s rfl⟩
def eNil(_:Env):Option (List D):=some []
def Zb(a:Env->Option D)(r:Env->Option (List D))(δ:Env):Option (List D):=match a δ with
 |some x=>match r δ with
  |some xs=>some (x::xs)
  |none=>none
 |none=>none
theorem Zm{q:Ql}:VA G ow tNil q eNil:=λH0 av A σ H δ E ds e Q k=>by
 cases e;exact k [] H (Same.refl H) rfl
theorem Ze{te:TE}{ta:TA}{q:Ql}{a:Env->Option D}{r:Env->Option (List D)}(ha:VE G ow te q a)(hr:VA G ow ta q r):VA G ow (Yj te ta) q (Zb a r):=λH0 av A σ H δ E ds e Q k=>by
 unfold Zb at e;cases he:a δ with
 |none=>rw [he]at e;cases e
 |some x=>
  rw [he]at e;cases hr':r δ with
  |none=>rw [hr']at e;cases e
  |some xs=>
   rw [hr']at e;cases e;exact ha H0 av A σ H δ E x he _ λv H1 s1 r1=>hr H0 av A σ H1 δ (E.mono s1) xs hr' _ λvs H2 s2 r2=>k _ H2 (s1.trans s2) ⟨v,vs,rfl,r1.same s2,r2⟩
theorem RepQL.length{av:Addr->Prop}{A:Nat->Option Addr}{H:Hp}{q:Ql}{xs:List D}{vs:List V}(h:RepQL cA av A H q xs vs):xs.length=vs.length:=h.any.length
def Zz(α:Env->Option (List D))(δ:Env):Option D:=match α δ with
 |some xs=>if xs.length<=sizeLine then some (.lst xs)else none
 |none=>none
theorem Yx{t:TA}{α:Env->Option (List D)}(h:VA G ow t .cl α):VF G ow (Js t) (Zz α):=λH0 av A σ H δ E d e Q k=>by
 unfold Zz at e;cases he:α δ with
 |none=>rw [he]at e;cases e
 |some xs=>
  rw [he]at e
  by_cases hz:xs.length<=sizeLine
  · have e':D.lst xs=d:=by simpa [hz]using e
    exact h H0 av A σ H δ E xs he _ λvs H1 s1 r1=>⟨by rw [<-r1.length];exact hz,λp hp=>k p vs xs H1 s1 hp r1.cl e'.symm⟩
  · simp [hz]at e
def Y4(α:Env->Option (List D))(δ:Env):Option D:=match α δ with
 |some xs=>if xs.length<=sizeLine then some (.tup xs)else none
 |none=>none
theorem ZcZ{t:TA}{α:Env->Option (List D)}(h:VA G ow t .cl α):VE G ow (Qt t) .cl (Y4 α):=λH0 av A σ H δ E d e Q k=>by
 unfold Y4 at e;cases he:α δ with
 |none=>rw [he]at e;cases e
 |some xs=>
  rw [he]at e
  by_cases hz:xs.length<=sizeLine
  · have e':D.tup xs=d:=by simpa [hz]using e
    subst e';refine h H0 av A σ H δ E xs he _ λvs H1 s1 r1=>⟨by rw [<-r1.length];exact hz,λp hp=>k _ _ (s1.trans (ZZ hp)) ⟨p,vs,rfl,λz=>(E.mono s1).avl p z hp,ZW,r1.cl.same (ZZ hp)⟩⟩
  · simp [hz]at e
def Uz(cA:Kn)(i:Addr->Prop)(H:Hp):List D->List V->Prop
 | [],vs=>vs=[]
 |x::xs,vs=>∃v r,vs=v::r/\(∃t,RepT cA t i H x v)/\Uz cA i H xs r
theorem RepQL.il{av:Addr->Prop}{A:Nat->Option Addr}{H:Hp}{q:Ql}:∀{xs:List D}{vs:List V},RepQL cA av A H q xs vs->Uz cA (q.iv av A) H xs vs
 | [],_,h=>h
 |x::xs,vs,h=>by
  obtain⟨v,r,e,h1,h2⟩:=h;exact⟨v,r,e,⟨_,h1.tp⟩,RepQL.il h2⟩
def Ud(cA:Kn)(r:List V->Hp->VK->Prop)(f:List D->Option D):Prop:=
 ∀(i:Addr->Prop)(H:Hp)(ds:List D)(vs:List V)(d:D),(∀a,i a->H a≠none)->Uz cA i H ds vs->f ds=some d->∀Q:VK,(∀v H',Same H H'->Rep cA i H' d v->Q v H')->r vs H Q
def eCB(f:List D->Option D)(α:Env->Option (List D))(δ:Env):Option D:=match α δ with
 |some ds=>f ds
 |none=>none
theorem ZS{r:List V->Hp->VK->Prop}{f:List D->Option D}{t:TA}{q:Ql}{α:Env->Option (List D)}(hr:Ud G.1 r f)(h:VA G ow t q α):VE G ow (tCB r t) q.it (eCB f α):=λH0 av A σ H δ E d e Q k=>by
 unfold eCB at e;cases he:α δ with
 |none=>rw [he]at e;cases e
 |some ds=>
  rw [he]at e;refine h H0 av A σ H δ E ds he _ λvs H1 s1 r1 => ?_
  have E1:=E.mono s1;cases q with
  |cl=>exact hr _ H1 ds vs d E1.avl r1.il e _ λv H' s r=>k v H' (s1.trans s) r.t
  |tp=>exact hr _ H1 ds vs d E1.avl r1.il e _ λv H' s r=>k v H' (s1.trans s) r.t
  |dt=>exact hr _ H1 ds vs d E1.avH r1.il e _ λv H' s r=>k v H' (s1.trans s) r.t
theorem il1{i:Addr->Prop}{H:Hp}{x:D}{vs:List V}(h:Uz cA i H [x] vs):∃v t,vs=[v]/\RepT cA t i H x v:=by
 obtain⟨v,r,rfl,⟨t,h1⟩,h2⟩:=h;cases(show r=[]from h2);exact⟨v,t,rfl,h1⟩
theorem il2{i:Addr->Prop}{H:Hp}{x y:D}{vs:List V}(h:Uz cA i H [x,y] vs):∃v u t t',vs=[v,u]/\RepT cA t i H x v/\RepT cA t' i H y u:=by
 obtain⟨v,r,rfl,⟨t,h1⟩,u,r',rfl,⟨t',h2⟩,h3⟩:=h;cases(show r'=[]from h3);exact⟨v,u,t,t',rfl,h1,h2⟩
def lenD:List D->Option D
 | [.str a]=>if a.length<=sizeLine then some (.int a.length)else none
 | [.lst xs]=>some (.int xs.length)
 | [.tup xs]=>some (.int xs.length)
 |_=>none
theorem Yd:Ud cA (ZfF cA.K) lenD:=λi H ds vs d _ h e Q k=>by
 cases ds with
 |nil=>cases e
 |cons x r=>
  cases r with
  |cons _ _=>cases x<;>cases e
  |nil=>
   obtain⟨v,t,rfl,hx⟩:=il1 h;cases x<;>first|(cases e;done)|skip
   · rename_i a
     dsimp only [lenD]at e
     by_cases hz:a.length<=sizeLine
     · rw [if_pos hz]at e
       cases e;exact .inl ⟨a,by rw [show v=S a from hx],hz,k _ H (Same.refl H) rfl⟩
     · rw [if_neg hz]at e;cases e
   · obtain⟨a,ws,rfl,_,rd,l⟩:=hx
     cases e;exact .inr ⟨a,ws,rfl,.inl rd,k _ H (Same.refl H) (by rw [l.length];rfl)⟩
   · obtain⟨a,ws,rfl,_,rd,l⟩:=hx
     cases e;exact .inr ⟨a,ws,rfl,.inr (SqT.of rd),k _ H (Same.refl H) (by rw [l.length];rfl)⟩
def minD:List D->Option D
 | [.int i,.int j]=>some (.int (if j<i then j else i))
 |_=>none
def QE:List D->Option D
 | [.int i,.int j]=>some (.int (if j>i then j else i))
 |_=>none
theorem Zf1{ds:List D}{d:D}(e:minD ds=some d):∃i j,ds=[.int i,.int j]/\d = .int (if j<i then j else i):=by
 unfold minD at e
 split at e
 · exact⟨_,_,rfl,(Option.some.inj e).symm⟩
 · cases e
theorem Zho:Ud cA (λxs H Q=>∃i j,xs=[.int i,.int j]/\Q (.int (if j<i then j else i)) H) minD:=λi H ds vs d _ h e Q k=>by
 obtain⟨a,b,rfl,rfl⟩:=Zf1 e;obtain⟨v,u,t,t',rfl,h1,h2⟩:=il2 h;cases(show v=_ from h1);cases(show u=_ from h2);exact⟨a,b,rfl,k _ H (Same.refl H) rfl⟩
def intD:List D->Option D
 | [.str a]=>if a.length<=640/\a≠[]/\a.all Jx=true then some (.int (Zic a:Nat))else none
 | [.bl b]=>some (.int (if b then 1 else 0))
 |_=>none
theorem Zhp:Ud cA rIntX intD:=λi H ds vs d _ h e Q k=>by
 unfold intD at e
 split at e
 · rename_i a
   obtain⟨v,t,rfl,hx⟩:=il1 h;cases(show v=_ from hx)
   by_cases hz:a.length<=640/\a≠[]/\a.all Jx=true
   · rw [if_pos hz]at e
     cases e;exact .inl ⟨a,rfl,hz.1,hz.2.1,hz.2.2,k _ H (Same.refl H) rfl⟩
   · rw [if_neg hz]at e;cases e
 · rename_i b
   obtain⟨v,t,rfl,hx⟩:=il1 h;cases(show v=_ from hx);cases e;exact .inr ⟨b,rfl,k _ H (Same.refl H) rfl⟩
 · cases e
def ZgR:List D->Option D
 | [.lst xs]=>some (.lst xs)
 | [.tup xs]=>some (.lst xs)
 |_=>none
end
end DL
namespace DL
open PySem PySem.Spec L2
inductive Out where
 |nx (δ:Env)
 |rt (d:D)
 |bk (δ:Env)
 |ct (δ:Env)
def Ziy(G:Cn)(owN owB owC:List Nat)(H0:Hp)(av:Addr->Prop)(De:Ends):Out->Prop
 | .nx δ'=>∀A' σ' H',ER G owN H0 av A' σ' H' δ'->De.nx σ' H'
 | .rt d=>∀v H',Same H0 H'->Rep G.1 av H' d v->De.rt v H'
 | .bk δ'=>∀A' σ' H',ER G owB H0 av A' σ' H' δ'->De.bk σ' H'
 | .ct δ'=>∀A' σ' H',ER G owC H0 av A' σ' H' δ'->De.ct σ' H'
def VS(G:Cn)(ow owN owB owC:List Nat)(ts:TS)(φ:Env->Option Out):Prop:=
 ∀H0 av A σ H δ,ER G ow H0 av A σ H δ->∀o,φ δ=some o->∀De:Ends,Ziy G owN owB owC H0 av De o->ts De σ H
def VG(G:Cn)(ow ow':List Nat)(g:TG)(γ:D->Env->Option Env):Prop:=
 ∀H0 av A σ H δ,ER G ow H0 av A σ H δ->∀d v,Rep G.1 (AV av A) H d v->∀δ',γ d δ=some δ'->∀Q:L2.St->Hp->Prop,(∀A' σ' H',Same H H'->ER G ow' H0 av A' σ' H' δ'->Q σ' H')->g v σ H Q
def sub(a b:List Nat):Bool:=a.all λx=>b.contains x
theorem JE{a b:List Nat}(h:sub a b=true):∀x∈a,x∈b:=λx hx=>by
 have:=List.all_eq_true.mp h x hx;simpa using this
section
variable{cA:Kn}{G:Cn}{ow owN owB owC ow1 ow2:List Nat}{H0 H H':Hp}{av:Addr->Prop}{A:Nat->Option Addr}{σ:L2.St}{δ:Env}
theorem Zby{α:Type}{l:List (Option α)}{i j:Nat}{x y:α}(h:(l.set i (some x))[j]? = some (some y)):(j=i/\y=x/\i<l.length)\/(j≠i/\l[j]? = some (some y)):=by
 by_cases e:j=i
 · subst e
   by_cases hl:j<l.length
   · rw [List.getElem?_set_self hl]at h
     exact .inl ⟨rfl,(Option.some.inj (Option.some.inj h)).symm,hl⟩
   · rw [List.getElem?_eq_none (by simpa using hl)]at h
     cases h
 · rw [List.getElem?_set_ne (Ne.symm e)]at h
   exact .inr ⟨e,h⟩
theorem ER.set{i:Nat}{d:D}{v:V}(E:ER G ow H0 av A σ H δ)(h:Rep G.1 (AV av A) H d v)(hw:∀j,j∈ow1 ↔ j∈ow/\j≠i)(hn:G.2 i=none) :
 ER G ow1 H0 av (λj=>if j=i then none else A j) (σ.set i (some v)) H (δ.set i (some d)):=by
 have less:∀b,AV av (λj=>if j=i then none else A j) b->AV av A b:=λb z=>by
  rcases z with z|⟨j,z⟩
  · exact .inl z
  · by_cases e:j=i
    · simp [e]at z
    · simp [e]at z;exact .inr ⟨j,z⟩
 refine⟨E.same,E.avd,λj a e => ?_,λj k a e1 e2 => ?_,λj a e => ?_,λj e => ?_,λj hj => ?_,by simp [E.len],λj a e=>(by
  have q:j≠i:=λz=>by rw [z,hn]at e;cases e
  simp only [q,if_false];exact E.pin j a e),(λj v' e=>by
  have q:j≠i:=λz=>by rw [z,hn]at e;cases e
  rw [List.getElem?_set_ne (Ne.symm q)];exact E.kept j v' e),λj d' e => ?_⟩
 · by_cases q:j=i
   · simp [q]at e
   · simp [q]at e;exact E.fr j a e
 · by_cases q:j=i
   · simp [q]at e1
   · by_cases q2:k=i
     · simp [q2]at e2
     · simp [q]at e1;simp [q2]at e2;exact E.inj j k a e1 e2
 · by_cases q:j=i
   · simp [q]at e
   · simp [q]at e;exact E.live j a e
 · by_cases q:j=i
   · simp [q]at e
   · simp [q]at e;exact(hw j).mpr ⟨E.dom j e,q⟩
 · obtain⟨h1,h2⟩:=(hw j).mp hj
   simp [h2];exact E.dom' j h1
 · rcases Zby e with⟨rfl,rfl,hl⟩|⟨q,e'⟩
   · refine⟨v,?_,λ_=>h.av λb z => .inl (less b z),λa z=>by simp at z⟩
     rw [List.getElem?_set_self (by rw [E.len];exact hl)]
   · obtain⟨v',h1,h2,h3⟩:=E.var j d' e'
     refine⟨v',by rw [List.getElem?_set_ne (Ne.symm q)];exact h1,λz => ?_,λa z => ?_⟩
     · simp [q]at z
       exact(h2 z).av λb z => .inl (less b z)
     · simp [q]at z
       obtain⟨r1,r2⟩:=h3 a z;refine⟨r1,?_⟩;cases d' with
       |lst xs=>obtain⟨vs,q1,q2⟩:=r2;exact⟨vs,q1,q2.av λb z => .inl (less b z)⟩
       |obj c ks xs=>obtain⟨dx,vs,q1,q0,q2⟩:=r2;exact⟨dx,vs,q1,q0,q2.av λb z => .inl (less b z)⟩
       |dct ks xs=>obtain⟨vs,q1,q0,q2⟩:=r2;exact⟨vs,q1,q0,q2.av λb z => .inl (less b z)⟩
       |dtt ks xs=>obtain⟨vs,q1,q0,q2⟩:=r2;exact⟨vs,q1,q0,q2.av λb z => .inl (less b z)⟩
       |_=>exact r2
theorem ER.own{i:Nat}{xs:List D}{vs:List V}{p:Addr}(E:ER G ow H0 av A σ H δ)(hp:H p=none)(l:RepL G.1 (AV av A) H xs vs)(hw:∀j,j∈ow1 ↔ j∈ow\/j=i)(hn:G.2 i=none) :
 ER G ow1 H0 av (λj=>if j=i then some p else A j) (σ.set i (some (.ref p))) (upd H p (.lst vs)) (δ.set i (some (.lst xs))):=by
 have hs:Same H (upd H p (.lst vs)):=ZZ hp
 have less:∀b,AV av (λj=>if j=i then some p else A j) b->AV av A b\/H b=none:=λb z=>by
  rcases z with z|⟨j,z⟩
  · exact .inl (.inl z)
  · by_cases e:j=i
    · simp [e]at z;subst z;exact .inr hp
    · simp [e]at z;exact .inl (.inr ⟨j,z⟩)
 have np:∀j a,A j=some a->a≠p:=λj a e z=>by subst z;exact E.live j a e hp
 have h0:H0 p=none:=by
  cases q:H0 p with
  |none=>rfl
  |some o=>rw [E.same p o q]at hp;cases hp
 refine⟨E.same.trans hs,E.avd,λj a e => ?_,λj k a e1 e2 => ?_,λj a e => ?_,λj e => ?_,λj hj => ?_,by simp [E.len],λj a e=>(by
  have q:j≠i:=λz=>by rw [z,hn]at e;cases e
  simp only [q,if_false];exact E.pin j a e),(λj v' e=>by
  have q:j≠i:=λz=>by rw [z,hn]at e;cases e
  rw [List.getElem?_set_ne (Ne.symm q)];exact E.kept j v' e),λj d' e => ?_⟩
 · by_cases q:j=i
   · simp [q]at e;subst e;exact h0
   · simp [q]at e;exact E.fr j a e
 · by_cases q:j=i
   · by_cases q2:k=i
     · rw [q,q2]
     · simp [q]at e1;simp [q2]at e2
       exact absurd e1.symm (np k a e2)
   · by_cases q2:k=i
     · simp [q]at e1;simp [q2]at e2
       exact absurd e2.symm (np j a e1)
     · simp [q]at e1;simp [q2]at e2;exact E.inj j k a e1 e2
 · by_cases q:j=i
   · simp [q]at e;subst e;rw [ZW];exact λz=>by cases z
   · simp [q]at e
     rw [ZA (np j a e)];exact E.live j a e
 · by_cases q:j=i
   · exact(hw j).mpr (.inr q)
   · simp [q]at e;exact(hw j).mpr (.inl (E.dom j e))
 · by_cases q:j=i
   · simp [q]
   · simp [q]
     exact E.dom' j (((hw j).mp hj).resolve_right q)
 · rcases Zby e with⟨rfl,rfl,hl⟩|⟨q,e'⟩
   · refine⟨.ref p,?_,λz=>by simp at z,λa z => ?_⟩
     · rw [List.getElem?_set_self (by rw [E.len];exact hl)]
     · simp at z
       subst z;exact⟨rfl,vs,ZW,(l.av less).same hs⟩
   · obtain⟨v',h1,h2,h3⟩:=E.var j d' e'
     refine⟨v',by rw [List.getElem?_set_ne (Ne.symm q)];exact h1,λz => ?_,λa z => ?_⟩
     · simp [q]at z
       exact((h2 z).av less).same hs
     · simp [q]at z
       obtain⟨r1,r2⟩:=h3 a z;refine⟨r1,?_⟩;cases d' with
       |lst xs=>obtain⟨vs',q1,q2⟩:=r2;exact⟨vs',hs _ _ q1,(q2.av less).same hs⟩
       |obj c ks xs=>obtain⟨dx,vs',q1,q0,q2⟩:=r2;exact⟨dx,vs',hs _ _ q1,q0,(q2.av less).same hs⟩
       |dct ks xs=>obtain⟨vs',q1,q0,q2⟩:=r2;exact⟨vs',hs _ _ q1,q0,(q2.av less).same hs⟩
       |dtt ks xs=>obtain⟨vs',q1,q0,q2⟩:=r2;exact⟨vs',hs _ _ q1,q0,(q2.av less).same hs⟩
       |_=>exact r2
theorem ER.put{i:Nat}{a:Addr}{d d':D}(E:ER G ow H0 av A σ H δ)(hi:A i=some a)(hd:δ[i]? = some (some d))(hk:∀b o,b≠a->H b=some o->H' b=some o)(hl:H' a≠none)(ho:Own G.1 (AV av A) H' d' a) :
 ER G ow H0 av A σ H' (δ.set i (some d')):=by
 have kk:∀b o,¬AV av A b->H b=some o->H' b=some o:=λb o n e=>hk b o (λz=>n (.inr ⟨i,by rw [z];exact hi⟩)) e
 refine⟨λb o e=>hk b o (λz => ?_) (E.same b o e),E.avd,E.fr,E.inj,λj b e => ?_,E.dom,E.dom',by simp [E.len],E.pin,E.kept,λj d'' e => ?_⟩
 · rw [z,E.fr i a hi]at e;cases e
 · by_cases q:b=a
   · subst q;exact hl
   · have:=E.live j b e
     cases e':H b with
     |none=>exact absurd e' this
     |some o=>rw [hk b o q e'];exact λz=>by cases z
 · rcases Zby e with⟨rfl,rfl,hl'⟩|⟨q,e'⟩
   · obtain⟨v,h1,_,h3⟩:=E.var j d hd
     obtain⟨r1,_⟩:=h3 a hi
     exact⟨v,h1,λz=>(by rw [hi]at z;cases z),λb z=>by
      rw [hi]at z;cases z;exact⟨r1,ho⟩⟩
   · obtain⟨v',h1,h2,h3⟩:=E.var j d'' e'
     refine⟨v',h1,λz=>(h2 z).ext kk,λb z => ?_⟩;obtain⟨r1,r2⟩:=h3 b z;have nb:b≠a:=λw=>q (E.inj j i a (by rw [<-w];exact z) hi)
     refine⟨r1,?_⟩;cases d'' with
     |lst xs=>obtain⟨vs,q1,q2⟩:=r2;exact⟨vs,hk _ _ nb q1,q2.ext kk⟩
     |obj c ks xs=>obtain⟨dx,vs,q1,q0,q2⟩:=r2;exact⟨dx,vs,hk _ _ nb q1,q0,q2.ext kk⟩
     |dct ks xs=>obtain⟨vs,q1,q0,q2⟩:=r2;exact⟨vs,hk _ _ nb q1,q0,q2.ext kk⟩
     |dtt ks xs=>obtain⟨vs,q1,q0,q2⟩:=r2;exact⟨vs,hk _ _ nb q1,q0,q2.ext kk⟩
     |_=>exact r2
theorem ER.freeze(i:Nat)(E:ER G ow H0 av A σ H δ)(hw:∀j,j∈ow1 ↔ j∈ow/\j≠i)(hn:G.2 i=none):ER G ow1 H0 av (λj=>if j=i then none else A j) σ H δ:=by
 have less:∀b,AV av (λj=>if j=i then none else A j) b->AV av A b:=λb z=>by
  rcases z with z|⟨j,z⟩
  · exact .inl z
  · by_cases e:j=i
    · simp [e]at z
    · simp [e]at z;exact .inr ⟨j,z⟩
 refine⟨E.same,E.avd,λj a e => ?_,λj k a e1 e2 => ?_,λj a e => ?_,λj e => ?_,λj hj => ?_,E.len,λj a e=>(by
  have q:j≠i:=λz=>by rw [z,hn]at e;cases e
  simp only [q,if_false];exact E.pin j a e),E.kept,λj d' e => ?_⟩
 · by_cases q:j=i
   · simp [q]at e
   · simp [q]at e;exact E.fr j a e
 · by_cases q:j=i
   · simp [q]at e1
   · by_cases q2:k=i
     · simp [q2]at e2
     · simp [q]at e1;simp [q2]at e2;exact E.inj j k a e1 e2
 · by_cases q:j=i
   · simp [q]at e
   · simp [q]at e;exact E.live j a e
 · by_cases q:j=i
   · simp [q]at e
   · simp [q]at e;exact(hw j).mpr ⟨E.dom j e,q⟩
 · obtain⟨h1,h2⟩:=(hw j).mp hj
   simp [h2];exact E.dom' j h1
 · obtain⟨v',h1,h2,h3⟩:=E.var j d' e
   refine⟨v',h1,λz => ?_,λa z => ?_⟩
   · by_cases q:j=i
     · subst q
       cases hA:A j with
       |none=>exact(h2 hA).av λb z => .inl (less b z)
       |some a=>
        obtain⟨rfl,r2⟩:=h3 a hA
        have na:¬AV av (λk=>if k=j then none else A k) a:=λz=>by
         rcases z with z|⟨k,z⟩
         · exact E.avd a z (E.fr j a hA)
         · by_cases qk:k=j
           · simp [qk]at z
           · simp [qk]at z;exact qk (E.inj k j a z hA)
        cases d' with
        |lst xs=>obtain⟨vs,q1,q2⟩:=r2;unfold Rep;exact⟨a,vs,rfl,λz=>(na z).elim,SqL.of q1,q2.av λb z => .inl (less b z)⟩
        |obj c ks xs=>obtain⟨dx,vs,q1,q0,q2⟩:=r2;unfold Rep;exact⟨a,dx,vs,rfl,na,q1,q0,q2.av λb z => .inl (less b z)⟩
        |dct ks xs=>obtain⟨vs,q1,q0,q2⟩:=r2;unfold Rep;exact⟨a,vs,rfl,na,q1,q0,q2.av λb z => .inl (less b z)⟩
        |dtt ks xs=>obtain⟨vs,q1,q0,q2⟩:=r2;unfold Rep;exact⟨a,vs,rfl,na,q1,q0,q2.av λb z => .inl (less b z)⟩
        |_=>exact False.elim r2
     · simp [q]at z
       exact(h2 z).av λb z => .inl (less b z)
   · by_cases q:j=i
     · simp [q]at z
     · simp [q]at z
       obtain⟨r1,r2⟩:=h3 a z;refine⟨r1,?_⟩;cases d' with
       |lst xs=>obtain⟨vs,q1,q2⟩:=r2;exact⟨vs,q1,q2.av λb z => .inl (less b z)⟩
       |obj c ks xs=>obtain⟨dx,vs,q1,q0,q2⟩:=r2;exact⟨dx,vs,q1,q0,q2.av λb z => .inl (less b z)⟩
       |dct ks xs=>obtain⟨vs,q1,q0,q2⟩:=r2;exact⟨vs,q1,q0,q2.av λb z => .inl (less b z)⟩
       |dtt ks xs=>obtain⟨vs,q1,q0,q2⟩:=r2;exact⟨vs,q1,q0,q2.av λb z => .inl (less b z)⟩
       |_=>exact r2
open Classical in
noncomputable def cut(A:Nat->Option Addr)(H:Hp):Hp:=λb=>if ∃i,A i=some b then none else H b
theorem Zcb{b:Addr}{o:HO}(h:cut A H b=some o):H b=some o/\¬∃i,A i=some b:=by
 unfold cut at h
 by_cases e:∃i,A i=some b
 · rw [if_pos e]at h;cases h
 · rw [if_neg e]at h;exact⟨h,e⟩
theorem Vu{b:Addr}(e:¬∃i,A i=some b):cut A H b=H b:=by
 unfold cut;rw [if_neg e]
theorem ER.cut(E:ER G ow H0 av A σ H δ):ER G ow (DL.cut A H) av A σ H δ:=by
 refine⟨λb o e=>(Zcb e).1,λa z => ?_,λi a e => ?_,E.inj,E.live,E.dom,E.dom',E.len,E.pin,E.kept,E.var⟩
 · rw [Vu λ⟨i,e⟩=>E.avd a z (E.fr i a e)]
   exact E.avH a z
 · unfold DL.cut
   rw [if_pos ⟨i,e⟩]
theorem ER.sub0(E:ER G ow H0 av A σ H δ):Same H0 (DL.cut A H):=λb o e=>by
 rw [Vu λ⟨i,z⟩=>by rw [E.fr i b z]at e;cases e];exact E.same b o e
theorem ER.uncut{A':Nat->Option Addr}{σ':L2.St}{δ':Env}(E:ER G ow H0 av A σ H δ)(E':ER G ow1 (DL.cut A H) av A' σ' H' δ'):ER G ow1 H0 av A' σ' H' δ':=
 ⟨E.sub0.trans E'.same,E.avd,λi a e=>E.sub0.free (E'.fr i a e),E'.inj,E'.live,E'.dom,E'.dom',E'.len,E'.pin,E'.kept,E'.var⟩
def sNext(δ:Env):Option Out:=some (.nx δ)
theorem YD:VS G ow ow owB owC tNext sNext:=λH0 av A σ H δ E o e De k=>by
 cases e;exact k A σ H E
def Zg(φ ψ:Env->Option Out)(δ:Env):Option Out:=match φ δ with
 |some (.nx δ')=>ψ δ'
 |r=>r
theorem Zu{t u:TS}{φ ψ:Env->Option Out}(h1:VS G ow ow1 owB owC t φ)(h2:VS G ow1 owN owB owC u ψ):VS G ow owN owB owC (Yn t u) (Zg φ ψ):=λH0 av A σ H δ E o e De k=>by
 unfold Zg at e;cases he:φ δ with
 |none=>rw [he]at e;cases e
 |some o1=>
  rw [he]at e;refine h1 H0 av A σ H δ E o1 he _ ?_;cases o1 with
  |nx δ'=>exact λA' σ' H' E'=>h2 H0 av A' σ' H' δ' E' o e De k
  |rt d=>cases e;exact k
  |bk δ'=>cases e;exact k
  |ct δ'=>cases e;exact k
def sIf(τ:Env->Option Bool)(φ ψ:Env->Option Out)(δ:Env):Option Out:=match τ δ with
 |some true=>φ δ
 |some false=>ψ δ
 |none=>none
theorem Yy{c:TT}{t u:TS}{τ:Env->Option Bool}{φ ψ:Env->Option Out}(hc:VT G ow c τ)(h1:VS G ow owN owB owC t φ)(h2:VS G ow owN owB owC u ψ):VS G ow owN owB owC (V7 c t u) (sIf τ φ ψ):=λH0 av A σ H δ E o e De k=>by
 unfold sIf at e;cases he:τ δ with
 |none=>rw [he]at e;cases e
 |some b=>
  rw [he]at e;refine hc H0 av A σ H δ E b he _ λH' s => ?_
  cases b with
  |true=>exact XI (h1 H0 av A σ H' δ (E.mono s) o e De k)
  |false=>exact XH (h2 H0 av A σ H' δ (E.mono s) o e De k)
def Zq(ε:Env->Option D)(δ:Env):Option Out:=match ε δ with
 |some d=>some (.rt d)
 |none=>none
theorem ZM{te:TE}{q:Ql}{ε:Env->Option D}(h:VE G ow te q ε):VS G ow owN owB owC (X5 te) (Zq ε):=λH0 av A σ H δ E o e De k=>by
 unfold Zq at e;cases he:ε δ with
 |none=>rw [he]at e;cases e
 |some d=>
  rw [he]at e;cases e;exact h H0 av A σ H δ E d he _ λv H' s r=>k v H' (E.same.trans s) r.any
def QF(_:Env):Option Out:=some (.rt .non)
def QG(_:Env):Option Out:=none
def Zj(i:Nat)(ε:Env->Option D)(δ:Env):Option Out:=match ε δ with
 |some d=>some (.nx (δ.set i (some d)))
 |none=>none
theorem QH{i:Nat}(h1:sub ow1 ow=true)(h2:ow1.contains i=false)(h3:sub ow (i::ow1)=true):∀j,j∈ow1 ↔ j∈ow/\j≠i:=λj=>by
 constructor
 · intro h
   refine⟨JE h1 j h,λe => ?_⟩;subst e;have:j∉ow1:=by simpa using h2
   exact this h
 · rintro⟨h,n⟩
   rcases List.mem_cons.mp (JE h3 j h)with e|e
   · exact absurd e n
   · exact e
theorem Zey{i:Nat}(h1:sub ow1 (i::ow)=true)(h2:ow1.contains i=true)(h3:sub ow ow1=true):∀j,j∈ow1 ↔ j∈ow\/j=i:=λj=>by
 constructor
 · intro h
   rcases List.mem_cons.mp (JE h1 j h)with e|e
   · exact .inr e
   · exact .inl e
 · rintro(h|rfl)
   · exact JE h3 j h
   · simpa using h2
theorem ZG{te:TE}{ε:Env->Option D}(i:Nat)(h:VE G ow te .cl ε)(hn:G.2 i=none)(h1:sub owN ow=true)(h2:owN.contains i=false)(h3:sub ow (i::owN)=true):VS G ow owN owB owC (Y0 te (YN i)) (Zj i ε):=λH0 av A σ H δ E o e De k=>by
 unfold Zj at e;cases he:ε δ with
 |none=>rw [he]at e;cases e
 |some d=>
  rw [he]at e;cases e;exact h H0 av A σ H δ E d he _ λv H' s r=>k _ _ H' ((E.mono s).set (RepT.r r) (QH h1 h2 h3) hn)
theorem Xr{te:TE}{ε:Env->Option D}(i:Nat)(h:VF G ow te ε)(hn:G.2 i=none)(h1:sub owN (i::ow)=true)(h2:owN.contains i=true)(h3:sub ow owN=true):VS G ow owN owB owC (Y0 te (YN i)) (Zj i ε):=λH0 av A σ H δ E o e De k=>by
 unfold Zj at e;cases he:ε δ with
 |none=>rw [he]at e;cases e
 |some d=>
  rw [he]at e;cases e;refine h H0 av A σ H δ E d he _ λp vs xs H1 s hp l hd => ?_
  subst hd;exact k _ _ _ ((E.mono s).own hp l (Zey h1 h2 h3) hn)
def QI(ε:Env->Option D)(δ:Env):Option Out:=match ε δ with
 |some _=>some (.nx δ)
 |none=>none
def Z7(i:Nat)(ε:Env->Option D)(δ:Env):Option Out:=match Za i δ with
 |some (.lst xs)=>match ε δ with
  |some d=>if xs.length<sizeLine then some (.nx (δ.set i (some (.lst (xs++[d])))))else none
  |none=>none
 |_=>none
theorem Vv{K:PySem.W.Frag}{te:TE}{ε:Env->Option D}(i:Nat)(hi:ow.contains i=true)(h:VE G ow te .cl ε):VS G ow ow owB owC (Jp (tBM K "list" rAppend (YM i) (Yj te tNil))) (Z7 i ε):=λH0 av A σ H δ E o e De k=>by
 unfold Z7 at e;cases hv:Za i δ with
 |none=>rw [hv]at e;cases e
 |some x=>
  rw [hv]at e;cases x<;>first|(cases e;done)|skip
  rename_i xs;dsimp only at e;cases he:ε δ with
  |none=>rw [he]at e;cases e
  |some d=>
   rw [he]at e;dsimp only at e
   by_cases hz:xs.length<sizeLine
   · rw [if_pos hz]at e
     cases e;have hi':i∈ow:=by simpa using hi
     cases hA:A i with
     |none=>exact absurd hA (E.dom' i hi')
     |some a=>
      obtain⟨v,h1,_,h3⟩:=E.var i _ (XO hv);obtain⟨rfl,vs,q1,q2⟩:=h3 a hA;refine⟨_,h1,.inl ⟨rfl,vs,SqL.of q1⟩,h H0 av A σ H δ E d he _ λv H' s r => ?_⟩;have E':=E.mono s;have q1':=s _ _ q1;refine⟨a,vs,v,rfl,rfl,q1',by rw [<-q2.length];exact hz,k A σ _ (E'.put hA (XO hv) (λb o hb e=>by rw [ZA hb];exact e) (by rw [ZW];exact λz=>by cases z) ⟨_,ZW,?_⟩)⟩
      have ex:∀b o,¬AV av A b->H' b=some o->upd H' a (.lst (vs++[v])) b=some o:=λb o n e=>by
       rw [ZA λz=>n (.inr ⟨i,by rw [z];exact hA⟩)];exact e
      exact((q2.same s).append (.cons (RepT.r r) .nil)).ext ex
   · rw [if_neg hz]at e;cases e
theorem VS.frz{t:TS}{φ:Env->Option Out}(i:Nat)(h:VS G ow1 owN owB owC t φ)(hn:G.2 i=none)(h1:sub ow1 ow=true)(h2:ow1.contains i=false)(h3:sub ow (i::ow1)=true):VS G ow owN owB owC t φ:=λH0 av A σ H δ E o e De k=>
 h H0 av _ σ H δ (E.freeze i (QH h1 h2 h3) hn) o e De k
def Zs(i:Nat)(d:D)(δ:Env):Option Env:=some (δ.set i (some d))
theorem Ye(i:Nat)(hi:ow.contains i=false)(hn:G.2 i=none):VG G ow ow (YN i) (Zs i):=λH0 av A σ H δ E d v r δ' e Q k=>by
 cases e
 exact k _ _ H (Same.refl H) (E.set r (λj=>by
  have:i∉ow:=by simpa using hi
  exact⟨λh=>⟨h,λz=>this (z▸h)⟩,λh=>h.1⟩) hn)
def VGs(G:Cn)(ow ow':List Nat)(g:TGs)(γ:List D->Env->Option Env):Prop:=
 ∀H0 av A σ H δ,ER G ow H0 av A σ H δ->∀ds vs,RepL G.1 (AV av A) H ds vs->∀δ',γ ds δ=some δ'->∀Q:L2.St->Hp->Prop,(∀A' σ' H',Same H H'->(∀b,AV av A' b->AV av A b)->ER G ow' H0 av A' σ' H' δ'->Q σ' H')->g vs σ H Q
def gsNil(ds:List D)(δ:Env):Option Env:=match ds with
 | []=>some δ
 |_=>none
theorem QJ:VGs G ow ow gNil gsNil:=λH0 av A σ H δ E ds vs r δ' e Q k=>by
 cases ds with
 |nil=>cases e;exact⟨r.nil_of,k A σ H (Same.refl H) (λ_ z=>z) E⟩
 |cons _ _=>cases e
def Z8(i:Nat)(γs:List D->Env->Option Env)(ds:List D)(δ:Env):Option Env:=match ds with
 |d::r=>γs r (δ.set i (some d))
 | []=>none
theorem Vc{gs:TGs}{γs:List D->Env->Option Env}(i:Nat)(hi:ow.contains i=false)(hn:G.2 i=none)(h:VGs G ow ow gs γs):VGs G ow ow (ZgK (YN i) gs) (Z8 i γs):=λH0 av A σ H δ E ds vs r δ' e Q k=>by
 cases ds with
 |nil=>cases e
 |cons d ds=>
  obtain⟨v,vr,rfl,r1,r2⟩:=r.uncons;refine⟨v,vr,rfl,?_⟩
  have less:∀b,AV av (λj=>if j=i then none else A j) b->AV av A b:=λb z=>by
   rcases z with z|⟨j,z⟩
   · exact .inl z
   · by_cases e:j=i
     · simp [e]at z
     · simp [e]at z;exact .inr ⟨j,z⟩
  have E1:ER G ow H0 av (λj=>if j=i then none else A j) (σ.set i (some v)) H (δ.set i (some d)):=E.set r1 (λj=>by
   have:i∉ow:=by simpa using hi
   exact⟨λh=>⟨h,λz=>this (z▸h)⟩,λh=>h.1⟩) hn
  exact h H0 av _ _ H _ E1 ds vr (r2.av λb z => .inl (less b z)) δ' e Q λA' σ' H' s l E'=>k A' σ' H' s (λb z=>less b (l b z)) E'
def YR(n:Nat)(γs:List D->Env->Option Env)(d:D)(δ:Env):Option Env:=match d with
 | .tup ds=>if ds.length=n then γs ds δ else none
 |_=>none
theorem QK{K:PySem.W.Frag}{n:Nat}{gs:TGs}{γs:List D->Env->Option Env}(h:VGs G ow ow gs γs):VG G ow ow (Zh5 K n gs) (YR n γs):=λH0 av A σ H δ E d v r δ' e Q k=>by
 cases d<;>first|(cases e;done)|skip
 rename_i ds;dsimp only [YR]at e
 by_cases hz:ds.length=n
 · rw [if_pos hz]at e
   unfold Rep at r;obtain⟨a,vs,rfl,_,rd,l⟩:=r;exact⟨a,vs,rfl,SqT.of rd,by rw [<-l.length];exact hz,h H0 av A σ H δ E ds vs l δ' e Q λA' σ' H' s _ E'=>k A' σ' H' s E'⟩
 · rw [if_neg hz]at e;cases e
def UA(cA:Kn)(iv:Addr->Prop)(J:It)(xs:List D)(H0:Hp):Prop:=∀H,Same H0 H ->
 (∀i,i<xs.length->J.go i H) /\
 (∀(i:Nat)x v H',xs[i]? = some x->J.yld i H v H'->Same H H'/\∀av':Addr->Prop,(∀b,av' b->H b≠none)->(∀b,av' b->iv b\/H0 b=none)->Rep cA av' H' x v) /\
 (∀i,xs.length<=i->J.stop i H)
def VI(G:Cn)(ow:List Nat)(wi:TI)(ι:Env->Option (List D)):Prop:=
 ∀H0 av A σ H δ,ER G ow H0 av A σ H δ->∀xs,ι δ=some xs->∀R:It->Hp->Prop,(∀J H1,Same H H1->UA G.1 (AV av A) J xs (DL.cut A H1)->R J H1)->wi σ H R
def Yz(γ:D->Env->Option Env)(φ:Env->Option Out):List D->Env->Option Out
 | [],δ=>some (.nx δ)
 |x::r,δ=>match γ x δ with
  |none=>none
  |some δ1=>match φ δ1 with
   |none=>none
   |some (.nx δ2)=>Yz γ φ r δ2
   |some (.ct δ2)=>Yz γ φ r δ2
   |some (.bk δ2)=>some (.nx δ2)
   |some (.rt d)=>some (.rt d)
def ZQ(ι:Env->Option (List D))(γ:D->Env->Option Env)(φ:Env->Option Out)(δ:Env):Option Out:=match ι δ with
 |some xs=>Yz γ φ xs δ
 |none=>none
theorem YS{wi:TI}{g:TG}{tb:TS}{ι:Env->Option (List D)}{γ:D->Env->Option Env}{φ:Env->Option Out}(hi:VI G ow wi ι)(hg:VG G ow ow g γ)(hb:VS G ow ow ow ow tb φ):VS G ow ow owB owC (Zh7 wi g tb) (ZQ ι γ φ):=λH0 av A σ H δ E o e De k=>by
 unfold ZQ at e;cases he:ι δ with
 |none=>rw [he]at e;cases e
 |some xs=>
  rw [he]at e;have e:Yz γ φ xs δ=some o:=e;refine hi H0 av A σ H δ E xs he _ λJ H1 s1 W => ?_
  have E1:=E.mono s1;refine⟨λi m σ' H'=>m=xs.length-i/\i<=xs.length/\∃A' δ',ER G ow (DL.cut A H1) av A' σ' H' δ'/\Yz γ φ (xs.drop i) δ'=some o,⟨xs.length,by simp,Nat.zero_le _,A,δ,E1.cut,e⟩,?_⟩
  rintro i m σ' H' ⟨rfl,hle,A',δ',E',e'⟩
  obtain⟨w1,w2,w3⟩:=W H' E'.same
  by_cases hlt:i<xs.length
  · refine .inr ⟨w1 i hlt,λσ2 H2=>∃A2 δ2,ER G ow (DL.cut A H1) av A2 σ2 H2 δ2/\Yz γ φ (xs.drop (i+1)) δ2=some o,λσ2 H2 ⟨A2,δ2,E2,e2⟩=>⟨xs.length-(i+1),by omega,rfl,hlt,A2,δ2,E2,e2⟩,λv H2 y => ?_⟩
    have hx:xs[i]? = some xs[i]:=List.getElem?_eq_getElem hlt;obtain⟨s2,rep⟩:=w2 i _ v H2 hx y;have E2:=E'.mono s2
    have rep':Rep G.1 (AV av A') H2 xs[i] v:=rep _ E'.avl λb z=>by
     rcases z with z|⟨j,z⟩
     · exact .inl (.inl z)
     · exact .inr (E'.fr j b z)
    rw [List.drop_eq_getElem_cons hlt]at e';unfold Yz at e';cases hγ:γ xs[i] δ' with
    |none=>rw [hγ]at e';cases e'
    |some δ1=>
     rw [hγ]at e';dsimp only at e';refine hg _ av A' σ' H2 δ' E2 _ v rep' δ1 hγ _ λA3 σ3 H3 s3 E3 => ?_
     cases hφ:φ δ1 with
     |none=>rw [hφ]at e';cases e'
     |some o1=>
      rw [hφ]at e';refine hb _ av A3 σ3 H3 δ1 E3 o1 hφ _ ?_;cases o1 with
      |nx δ2=>exact λA4 σ4 H4 E4=>⟨A4,δ2,E4,e'⟩
      |ct δ2=>exact λA4 σ4 H4 E4=>⟨A4,δ2,E4,e'⟩
      |bk δ2=>cases e';exact λA4 σ4 H4 E4=>k A4 σ4 H4 (E1.uncut E4)
      |rt d=>cases e';exact λv H4 s4 r4=>k v H4 (E1.sub0.trans s4) r4
  · have ei:i=xs.length:=by omega
    subst ei;rw [List.drop_length]at e';cases e';exact .inl ⟨w3 _ (Nat.le_refl _),k A' σ' H' (E1.uncut E')⟩
def Yp(τ:Env->Option Bool)(φ:Env->Option Out):Nat->Env->Option Out
 |0,_=>none
 |n+1,δ=>match τ δ with
  |none=>none
  |some false=>some (.nx δ)
  |some true=>match φ δ with
   |none=>none
   |some (.nx δ2)=>Yp τ φ n δ2
   |some (.ct δ2)=>Yp τ φ n δ2
   |some (.bk δ2)=>some (.nx δ2)
   |some (.rt d)=>some (.rt d)
theorem JF{τ:Env->Option Bool}{φ:Env->Option Out}:∀(n k:Nat)(δ:Env)(o:Out),Yp τ φ n δ=some o->Yp τ φ (n+k) δ=some o
 |0,_,_,_,h=>by cases h
 |n+1,k,δ,o,h=>by
  rw [Nat.add_right_comm];unfold Yp at h ⊢;cases ht:τ δ with
  |none=>rw [ht]at h;cases h
  |some b=>
   rw [ht]at h;cases b with
   |false=>exact h
   |true=>
    dsimp only at h ⊢;cases hp:φ δ with
    |none=>rw [hp]at h;cases h
    |some o1=>
     rw [hp]at h;cases o1 with
     |nx δ2=>exact JF n k δ2 o h
     |ct δ2=>exact JF n k δ2 o h
     |bk δ2=>exact h
     |rt d=>exact h
open Classical in
noncomputable def Z9(τ:Env->Option Bool)(φ:Env->Option Out)(δ:Env):Option Out:=if h:∃n o,Yp τ φ n δ=some o then Yp τ φ (Classical.choose h) δ else none
theorem JG{τ:Env->Option Bool}{φ:Env->Option Out}{δ:Env}{n:Nat}{o:Out}(h:Yp τ φ n δ=some o):Z9 τ φ δ=some o:=by
 have hx:∃n o,Yp τ φ n δ=some o:=⟨n,o,h⟩
 unfold Z9;rw [dif_pos hx];obtain⟨o',ho'⟩:=Classical.choose_spec hx;have h1:=JF _ n δ o' ho';have h2:=JF _ (Classical.choose hx) δ o h;rw [Nat.add_comm,h2]at h1;rw [ho',h1]
theorem Zah{τ:Env->Option Bool}{φ:Env->Option Out}{δ:Env}{o:Out}(h:Z9 τ φ δ=some o):∃n,Yp τ φ n δ=some o:=by
 unfold Z9 at h
 split at h
 · exact⟨_,h⟩
 · cases h
theorem QL{c:TT}{tb:TS}{τ:Env->Option Bool}{φ:Env->Option Out}(hc:VT G ow c τ)(hb:VS G ow ow ow ow tb φ):VS G ow ow owB owC (ZcX c tb) (Z9 τ φ):=λH0 av A σ H δ E o e De k=>by
 obtain⟨n,e⟩:=Zah e;refine⟨λm σ' H'=>∃A' δ',ER G ow H0 av A' σ' H' δ'/\Yp τ φ m δ'=some o,⟨n,A,δ,E,e⟩,?_⟩
 rintro m σ' H' ⟨A',δ',E',e'⟩
 cases m with
 |zero=>cases e'
 |succ m=>
  unfold Yp at e';cases ht:τ δ' with
  |none=>rw [ht]at e';cases e'
  |some b=>
   rw [ht]at e';refine hc H0 av A' σ' H' δ' E' b ht _ λH2 s2 => ?_
   have E2:=E'.mono s2;cases b with
   |false=>cases e';exact XH (k A' σ' H2 E2)
   |true=>
    dsimp only at e';refine XI ⟨λσ3 H3=>∃A3 δ3,ER G ow H0 av A3 σ3 H3 δ3/\Yp τ φ m δ3=some o,λσ3 H3 ⟨A3,δ3,E3,e3⟩=>⟨m,Nat.lt_succ_self _,A3,δ3,E3,e3⟩,?_⟩;cases hφ:φ δ' with
    |none=>rw [hφ]at e';cases e'
    |some o1=>
     rw [hφ]at e';refine hb H0 av A' σ' H2 δ' E2 o1 hφ _ ?_;cases o1 with
     |nx δ2=>exact λA4 σ4 H4 E4=>⟨A4,δ2,E4,e'⟩
     |ct δ2=>exact λA4 σ4 H4 E4=>⟨A4,δ2,E4,e'⟩
     |bk δ2=>cases e';exact k
     |rt d=>cases e';exact k
end
end DL
namespace DL
open PySem PySem.Spec L2
section
variable{cA:Kn}{G:Cn}{ow owN owB owC:List Nat}
def Z2(ε:Env->Option D)(δ:Env):Option (List D):=match ε δ with
 |some (.lst xs)=>some xs
 |some (.tup xs)=>some xs
 |some (.str cs)=>some (cs.map λc => .str [c])
 |_=>none
theorem Rep.cut{av:Addr->Prop}{A:Nat->Option Addr}{H:Hp}{d:D}{v:V}(h:Rep cA (AV av A) H d v):Rep cA (AV av A) (DL.cut A H) d v:=h.ext λb o n e=>by
 rw [Vu λ⟨i,z⟩=>n (.inr ⟨i,z⟩)];exact e
theorem RepL.cut{av:Addr->Prop}{A:Nat->Option Addr}{H:Hp}{d:List D}{v:List V}(h:RepL cA (AV av A) H d v):RepL cA (AV av A) (DL.cut A H) d v:=h.ext λb o n e=>by
 rw [Vu λ⟨i,z⟩=>n (.inr ⟨i,z⟩)];exact e
theorem ZcF{iv:Addr->Prop}{H0:Hp}{a:Addr}{vs:List V}{xs:List D}(rd:SqL cA.K H0 a vs)(l:RepL cA iv H0 xs vs):UA cA iv (Itl cA.K a) xs H0:=λH s=>by
 have rd':SqL cA.K H a vs:=s.seq rd;refine⟨λi hi => ?_,λi x v H' hx y => ?_,λi hi=>⟨vs,rd',by rw [<-l.length];exact hi⟩⟩
 · obtain⟨v,hv,_⟩:=l.get (List.getElem?_eq_getElem hi)
   exact⟨vs,v,rd',hv⟩
 · obtain⟨rfl,hy⟩:=y
   obtain⟨v',hv,r⟩:=l.get hx;rw [hy vs rd']at hv;cases hv;exact⟨Same.refl _,λav' _ h2=>(r.av h2).same s⟩
theorem ZdY{K:PySem.W.Frag}{iv:Addr->Prop}{H0:Hp}{a:Addr}{vs:List V}{xs:List D}(rd:H0 a=some (.tup vs))(l:RepL cA iv H0 xs vs):UA cA iv (Itt K a) xs H0:=λH s=>by
 have rd':SqT K H a vs:=SqT.of (s _ _ rd);refine⟨λi hi => ?_,λi x v H' hx y => ?_,λi hi=>⟨vs,rd',by rw [<-l.length];exact hi⟩⟩
 · obtain⟨v,hv,_⟩:=l.get (List.getElem?_eq_getElem hi)
   exact⟨vs,v,rd',hv⟩
 · obtain⟨rfl,hy⟩:=y
   obtain⟨v',hv,r⟩:=l.get hx;rw [hy vs rd']at hv;cases hv;exact⟨Same.refl _,λav' _ h2=>(r.av h2).same s⟩
theorem ZdZ{iv:Addr->Prop}{H0:Hp}{cs:List Nat}:UA cA iv (Its cs) (cs.map λc => .str [c]) H0:=λH s=>by
 refine⟨λi hi=>(show i<cs.length by simpa using hi),λi x v H' hx y => ?_,λi hi=>(show cs.length<=i by simpa using hi)⟩;obtain⟨rfl,c,hc,rfl⟩:=y;rw [List.getElem?_map,hc]at hx;cases hx;exact⟨Same.refl _,λ_ _ _=>rfl⟩
theorem Xs{tl:TE}{ε:Env->Option D}(h:VE G ow tl .cl ε):VI G ow (Zid G.1.K tl) (Z2 ε):=λH0 av A σ H δ E xs e R k=>by
 unfold Z2 at e;cases he:ε δ with
 |none=>rw [he]at e;cases e
 |some d=>
  rw [he]at e;refine h H0 av A σ H δ E d he _ λv H1 s r => ?_
  cases d<;>first|(cases e;done)|skip
  · cases e
    exact .inr (.inr ⟨_,r,k _ H1 s ZdZ⟩)
  · cases e
    obtain⟨a,vs,rfl,na,rd,l⟩:=r;exact .inl ⟨a,vs,rfl,rd,k _ H1 s (ZcF (JC na rd λb o n e=>by rw [Vu λ⟨i,z⟩=>n (.inr ⟨i,z⟩)];exact e) l.cut)⟩
  · cases e
    obtain⟨a,vs,rfl,na,rd,l⟩:=r;exact .inr (.inl ⟨a,vs,rfl,SqT.of rd,k _ H1 s (ZdY (by rw [Vu λ⟨i,z⟩=>na (.inr ⟨i,z⟩)];exact rd) l.cut)⟩)
def ZO(lo c:Int)(n:Nat):List D:=(List.range n).map λk => .int (lo+(k:Nat)*c)
theorem Zbe{iv:Addr->Prop}{H0:Hp}{lo:Int}{n:Nat}:UA cA iv (Itr lo n) (ZO lo 1 n) H0:=λH s=>by
 refine⟨λi hi=>(show i<n by simpa [ZO]using hi),λi x v H' hx y => ?_,λi hi=>(show n<=i by simpa [ZO]using hi)⟩;obtain⟨rfl,rfl⟩:=y;have hi:i<n:=by have:=(List.getElem?_eq_some_iff.mp hx).1;simpa [ZO]using this
 have:x = .int (lo+i):=by
  unfold ZO at hx;rw [List.getElem?_map,List.getElem?_range hi]at hx;have:=Option.some.inj hx;rw [<-this];show D.int (lo+(i:Int)*1)=_;rw [Int.mul_one]
 subst this;exact⟨Same.refl _,λ_ _ _=>rfl⟩
def ZI(α:Env->Option (List D))(δ:Env):Option (List D):=match α δ with
 |some [.int j]=>if -(2 ^ 62)<=j/\j<2 ^ 62 then some (ZO 0 1 j.toNat)else none
 |some [.int i,.int j]=>if -(2 ^ 62)<=i/\i<2 ^ 62 /\ -(2 ^ 62)<=j/\j<2 ^ 62 then some (ZO i 1 (j-i).toNat)else none
 |some [.int i,.int j,.int c]=>if c≠0/\c.natAbs<1073741824/\Builtin.Range.small i j c=true then some (ZO i c (Builtin.Range.rangeSize i j c).toNat)else none
 |_=>none
theorem ql1{av:Addr->Prop}{A:Nat->Option Addr}{H:Hp}{q:Ql}{x:Int}{vs:List V}(h:RepQL cA av A H q [.int x] vs):vs=[.int x]:=by
 obtain⟨v,r,rfl,h1,h2⟩:=h;have:=h1.any;cases(show v=_ from this);cases(show r=[]from h2);rfl
theorem ql2{av:Addr->Prop}{A:Nat->Option Addr}{H:Hp}{q:Ql}{x y:Int}{vs:List V}(h:RepQL cA av A H q [.int x,.int y] vs):vs=[.int x,.int y]:=by
 obtain⟨v,r,rfl,h1,h2⟩:=h;have:=h1.any;cases(show v=_ from this);rw [ql1 h2]
theorem Xu{ta:TA}{q:Ql}{a:Env->Option (List D)}(h:VA G ow ta q a)(hl:∀δ ds,a δ=some ds->ds.length=1):VI G ow (ZgL ta) (ZI a):=λH0 av A σ H δ E xs e R k=>by
 unfold ZI at e;cases he:a δ with
 |none=>rw [he]at e;cases e
 |some ds=>
  rw [he]at e;refine h H0 av A σ H δ E ds he _ λvs H1 s r => ?_
  have hln:=hl δ ds he
  split at e
  · rename_i j he2
    cases he2
    by_cases hz : -(2 ^ 62)<=j/\j<2 ^ 62
    · rw [if_pos hz]at e
      cases e;exact⟨j,ql1 r,hz.1,hz.2,k _ H1 s Zbe⟩
    · rw [if_neg hz]at e;cases e
  · rename_i he2;cases he2;simp at hln
  · rename_i he2;cases he2;simp at hln
  · cases e
theorem Zbz{ta:TA}{q:Ql}{a:Env->Option (List D)}(h:VA G ow ta q a)(hl:∀δ ds,a δ=some ds->ds.length=2):VI G ow (ZgM ta) (ZI a):=λH0 av A σ H δ E xs e R k=>by
 unfold ZI at e;cases he:a δ with
 |none=>rw [he]at e;cases e
 |some ds=>
  rw [he]at e;refine h H0 av A σ H δ E ds he _ λvs H1 s r => ?_
  have hln:=hl δ ds he
  split at e
  · rename_i he2;cases he2;simp at hln
  · rename_i i j he2
    cases he2
    by_cases hz : -(2 ^ 62)<=i/\i<2 ^ 62 /\ -(2 ^ 62)<=j/\j<2 ^ 62
    · rw [if_pos hz]at e
      cases e;exact⟨i,j,ql2 r,hz,k _ H1 s Zbe⟩
    · rw [if_neg hz]at e;cases e
  · rename_i he2;cases he2;simp at hln
  · cases e
theorem Zf2{δ:Env}{ds:List D}(h:eNil δ=some ds):ds.length=0:=by cases h;rfl
theorem Zcc{a:Env->Option D}{r:Env->Option (List D)}{n:Nat}(hr:∀δ ds,r δ=some ds->ds.length=n):∀δ ds,Zb a r δ=some ds->ds.length=n+1:=λδ ds h=>by
 unfold Zb at h;cases ha:a δ with
 |none=>rw [ha]at h;cases h
 |some x=>
  rw [ha]at h;cases hr':r δ with
  |none=>rw [hr']at h;cases h
  |some xs=>rw [hr']at h;cases h;rw [List.length_cons,hr δ xs hr']
theorem Xd{a:Env->Option D}:∀δ ds,Zb a eNil δ=some ds->ds.length=1:=Zcc λ_ _=>Zf2
theorem Zif{a b:Env->Option D}:∀δ ds,Zb a (Zb b eNil) δ=some ds->ds.length=2:=Zcc Xd
def Vd(n:Nat)(δ:Env)(js:List Nat):Env:=List.replicate n none++js.map λj=>(δ[j]?).getD none
def Z3(γ:D->Env->Option Env)(τ:Env->Option Bool)(ε:Env->Option D)(δ0:Env):List D->Option (List D)
 | []=>some []
 |x::r=>match γ x δ0 with
  |none=>none
  |some δ1=>match τ δ1 with
   |none=>none
   |some false=>Z3 γ τ ε δ0 r
   |some true=>match ε δ1 with
    |none=>none
    |some y=>match Z3 γ τ ε δ0 r with
     |none=>none
     |some ys=>some (y::ys)
def ZV(ι:Env->Option (List D))(γ:D->Env->Option Env)(τ:Env->Option Bool)(ε:Env->Option D)(n:Nat)(js:List Nat)(δ:Env):Option D:=match ι δ with
 |none=>none
 |some xs=>match Z3 γ τ ε (Vd n δ js) xs with
  |none=>none
  |some ys=>if ys.length<=sizeLine then some (.lst ys)else none
theorem ER.blk{H0 H:Hp}{av:Addr->Prop}{A:Nat->Option Addr}{σ:L2.St}{δ:Env}(n:Nat)(js:List Nat)(hjs:js.all (λj => !ow.contains j)=true)(E:ER G ow H0 av A σ H δ) :
 ER ⟨G.1,λ_=>none⟩ [] H (AV av A) (λ_=>none) (L2.blk n σ js) H (Vd n δ js):=by
 refine⟨Same.refl H,E.avl,λ_ _ z=>(by cases z),λ_ _ _ z=>(by cases z),λ_ _ z=>(by cases z),λ_ z=>absurd rfl z,λ_ z=>(by cases z),?_,λ_ _ z=>(by cases z),λ_ _ z=>(by cases z),λi d e => ?_⟩
 · unfold L2.blk Vd Qw
   rw [List.length_append,List.length_append,List.length_replicate,List.length_replicate,List.length_map,List.length_map]
 · unfold Vd at e
   by_cases hi:i<n
   · rw [List.getElem?_append_left (by simpa using hi),List.getElem?_replicate,if_pos hi]at e
     cases e
   · rw [List.getElem?_append_right (by simpa using hi),List.length_replicate,List.getElem?_map]at e
     cases hj:js[i-n]? with
     |none=>rw [hj]at e;cases e
     |some j=>
      rw [hj]at e;have e':(δ[j]?).getD none=some d:=Option.some.inj e
      have e2:δ[j]? = some (some d):=by
       cases q:δ[j]? with
       |none=>rw [q]at e';cases e'
       |some z=>rw [q]at e';exact congrArg some e'
      obtain⟨v,h1,h2,_⟩:=E.var j d e2
      have hjo:A j=none:=by
       cases q:A j with
       |none=>rfl
       |some a=>
        have h3:=E.dom j (by rw [q];exact λz=>by cases z);have h4:=List.all_eq_true.mp hjs j (List.mem_of_getElem? hj);simp at h4;exact absurd h3 h4
      refine⟨v,?_,λ_=>(h2 hjo).av λb z => ?_,λ_ z=>(by cases z)⟩
      · unfold L2.blk Qw
        rw [List.getElem?_append_right (by simpa using hi),List.length_replicate,List.getElem?_map,hj];show some ((σ[j]?).getD none)=_;rw [h1];rfl
      · rcases z with z|⟨_,z⟩
        · exact .inl z
        · cases z
theorem YT {wi:TI} {g:TG} {tt:TT} {te:TE} {n:Nat} {js:List Nat} {ι:Env->Option (List D)} {γ:D->Env->Option Env} {τ:Env->Option Bool} {ε:Env->Option D}
 (hjs:js.all (λj => !ow.contains j)=true) (hi:VI G ow wi ι) (hg:VG ⟨G.1,λ_=>none⟩ [] [] g γ) (ht:VT ⟨G.1,λ_=>none⟩ [] tt τ) (he:VE ⟨G.1,λ_=>none⟩ [] te .cl ε):VF G ow (ZfE wi g tt te n js) (ZV ι γ τ ε n js):=λH0 av A σ H δ E d e Q k=>by
 unfold ZV at e;cases hι:ι δ with
 |none=>rw [hι]at e;cases e
 |some xs=>
  rw [hι]at e;dsimp only at e;cases hc:Z3 γ τ ε (Vd n δ js) xs with
  |none=>rw [hc]at e;cases e
  |some full=>
   rw [hc]at e;dsimp only at e
   by_cases hz:full.length<=sizeLine
   · rw [if_pos hz]at e
     have ed:D.lst full=d:=Option.some.inj e;refine hi H0 av A σ H δ E xs hι _ λJ H1 s1 W => ?_
     have E1:=E.mono s1
     refine⟨λi m ys H'=>m=xs.length-i/\i<=xs.length/\Same H1 H'/\∃done rest,RepL G.1 (AV av A) H' done ys/\Z3 γ τ ε (Vd n δ js) (xs.drop i)=some rest/\done++rest=full,
      ⟨xs.length,by simp,Nat.zero_le _,Same.refl _,[],full,.nil,hc,rfl⟩,?_⟩
     rintro i m ys H' ⟨rfl,hle,s',done,rest,rl,hr,hf⟩
     have E':=E1.mono s';have sc:Same (DL.cut A H1) H':=λb o z=>s' b o (Zcb z).1
     obtain⟨w1,w2,w3⟩:=W H' sc
     by_cases hlt:i<xs.length
     · refine .inr ⟨w1 i hlt,λv H2 y => ?_⟩
       have hx:xs[i]? = some xs[i]:=List.getElem?_eq_getElem hlt;obtain⟨s2,rep⟩:=w2 i _ v H2 hx y;have rep':Rep G.1 (AV av A) H2 xs[i] v:=rep _ E'.avl λb z => .inl z
       have E2:=E'.mono s2;have EB:ER ⟨G.1,λ_=>none⟩ [] H2 (AV av A) (λ_=>none) (L2.blk n σ js) H2 (Vd n δ js):=E2.blk n js hjs
       have triv:∀(A':Nat->Option Addr){σ':L2.St}{H3:Hp}{δ':Env},ER ⟨G.1,λ_=>none⟩ [] H2 (AV av A) A' σ' H3 δ'->∀b,AV (AV av A) A' b ↔ AV av A b:=λA' {σ' H3 δ'} E3 b=>by
        constructor
        · rintro(z|⟨j,z⟩)
          · exact z
          · have:=E3.dom j (by rw [z];exact λz=>by cases z)
            cases this
        · exact λz => .inl z
       rw [List.drop_eq_getElem_cons hlt]at hr;unfold Z3 at hr;cases hγ:γ xs[i] (Vd n δ js)with
       |none=>rw [hγ]at hr;cases hr
       |some δ1=>
        rw [hγ]at hr;dsimp only at hr;refine hg _ _ _ _ H2 _ EB _ v (rep'.av λb z => .inl ((triv _ EB b).mp z)) δ1 hγ _ λA3 σ3 H3 s3 E3 => ?_
        cases hτ:τ δ1 with
        |none=>rw [hτ]at hr;cases hr
        |some c=>
         rw [hτ]at hr;refine ht _ _ A3 σ3 H3 δ1 E3 c hτ _ λH4 s4 => ?_
         have E4:=E3.mono s4;cases c with
         |false=>
          exact XH ⟨xs.length-(i+1),by omega,rfl,hlt,(s'.trans s2).trans (s3.trans s4),done,rest,rl.same ((s2.trans s3).trans s4),hr,hf⟩
         |true=>
          dsimp only at hr;cases hε:ε δ1 with
          |none=>rw [hε]at hr;cases hr
          |some yd=>
           rw [hε]at hr;dsimp only at hr;cases hr':Z3 γ τ ε (Vd n δ js) (xs.drop (i+1))with
           |none=>rw [hr']at hr;cases hr
           |some rest'=>
            rw [hr']at hr;have hrr:yd::rest'=rest:=Option.some.inj hr;subst hrr;refine XI (he _ _ A3 σ3 H4 δ1 E4 yd hε _ λvy H5 s5 r5 => ?_);have sall:Same H' H5:=((s2.trans s3).trans s4).trans s5;refine⟨?_,xs.length-(i+1),by omega,rfl,hlt,s'.trans sall,done++[yd],rest',(rl.same sall).append (.cons ((RepT.r r5).av λb z => .inl ((triv _ E4 b).mpr z)) .nil),hr',by rw [<-hf];simp⟩
            have:=congrArg List.length hf;rw [List.length_append,List.length_cons]at this;have:=rl.length;omega
     · have ei:i=xs.length:=by omega
       subst ei;rw [List.drop_length]at hr;cases hr;refine .inl ⟨w3 _ (Nat.le_refl _),λp hp=>k p ys full H' (s1.trans s') hp (by rw [<-hf,List.append_nil];exact rl) ed.symm⟩
   · rw [if_neg hz]at e;cases e
def spD(cA:Kn)(n:Nat)(m:List D->Option D):Sp:=λvs H Q _=>∃av ds d,(∀a,av a->H a≠none)/\RepL cA av H ds vs/\ds.length=n/\m ds=some d/\∀v H',Same H H'->Rep cA av H' d v->Q v H'
def Zo(n:Nat)(m:List D->Option D)(dds:List D)(α:Env->Option (List D))(δ:Env):Option D:=match α δ with
 |some ds=>if(ds++dds).length=n then m (ds++dds)else none
 |none=>none
def Ql.cq:Ql->Ql
 | .cl => .cl
 |_ => .dt
theorem ZP{n:Nat}{m:List D->Option D}{t:TA}{q:Ql}{α:Env->Option (List D)}{E0:XK}(dds:List D)(hd:dds.all ZD=true)(h:VA G ow t q α):VE G ow (Uw (spD G.1 n m) (dds.map val) E0 t) q.cq (Zo n m dds α):=λH0 av A σ H δ E d e Q k=>by
 unfold Zo at e;cases he:α δ with
 |none=>rw [he]at e;cases e
 |some ds=>
  rw [he]at e;dsimp only at e
  by_cases hz:(ds++dds).length=n
  · rw [if_pos hz]at e
    refine h H0 av A σ H δ E ds he _ λvs H1 s1 r1 => ?_
    have E1:=E.mono s1;cases q with
    |cl=>exact⟨AV av A,ds++dds,d,E1.avl,r1.cl.append (.of_vals hd),hz,e,λv H' s r=>k v H' (s1.trans s) r.t⟩
    |tp=>exact⟨av,ds++dds,d,E1.avH,r1.any.append (.of_vals hd),hz,e,λv H' s r=>k v H' (s1.trans s) r.t⟩
    |dt=>exact⟨av,ds++dds,d,E1.avH,r1.any.append (.of_vals hd),hz,e,λv H' s r=>k v H' (s1.trans s) r.t⟩
  · rw [if_neg hz]at e;cases e
def run(N:Nat)(φ:Env->Option Out)(ds:List D):Option D:=match φ (ds.map some++List.replicate (N-ds.length) none)with
 |some (.rt d)=>some d
 |some (.nx _)=>some .non
 |_=>none
theorem Zd0{N:List Str}{ds:List D}{vs:List V}{av:Addr->Prop}{H:Hp}(r:RepL cA av H ds vs){i:Nat}{d:D}(h:(ds.map some++List.replicate (N.length-ds.length) none)[i]? = some (some d)) :
 ∃v,(L2.start N vs)[i]? = some (some v)/\Rep cA av H d v:=by
 by_cases hi:i<ds.length
 · rw [List.getElem?_append_left (by simpa using hi),List.getElem?_map]at h
   cases hd:ds[i]? with
   |none=>rw [hd]at h;cases h
   |some x=>
    rw [hd]at h;cases h;obtain⟨v,hv,rv⟩:=r.get hd;refine⟨v,?_,rv⟩;unfold L2.start;have:i<vs.length:=by rw [<-r.length];exact hi
    rw [List.getElem?_append_left (by simpa using this),List.getElem?_map,hv];rfl
 · rw [List.getElem?_append_right (by simpa using hi),List.getElem?_replicate]at h
   split at h<;>cases h
theorem QM{N:List Str}{ds:List D}{vs:List V}{av:Addr->Prop}{H:Hp}(ha:∀a,av a->H a≠none)(r:RepL cA av H ds vs) :
 ER ⟨cA,λ_=>none⟩ [] H av (λ_=>none) (L2.start N vs) H (ds.map some++List.replicate (N.length-ds.length) none):=by
 refine⟨Same.refl H,ha,λ_ _ z=>(by cases z),λ_ _ _ z=>(by cases z),λ_ _ z=>(by cases z),λ_ z=>absurd rfl z,λ_ z=>(by cases z),?_,λ_ _ z=>(by cases z),λ_ _ z=>(by cases z),λi d e => ?_⟩
 · unfold L2.start
   rw [List.length_append,List.length_append,List.length_map,List.length_map,List.length_replicate,List.length_replicate,r.length]
 · obtain⟨v,h1,h2⟩:=Zd0 r e
   refine⟨v,h1,λ_=>h2.av λb z => ?_,λ_ z=>(by cases z)⟩;rcases z with z|⟨_,z⟩
   · exact .inl z
   · cases z
section
variable{P:Program}{w:World}{K:PySem.W.Frag}{mg:Str->Option Value}{base:Heap}
end
theorem Zdm{vs:List V}{lo hi:Option Int}:V9 vs lo hi=cutL vs lo hi:=by
 unfold V9 cutL;have e:∀n d o,HT.sIx n d o=Z4 n d o:=λn d o=>by cases o<;>rfl
 rw [e,e]
theorem RepL.cutL{av:Addr->Prop}{H:Hp}{xs:List D}{vs:List V}(l:RepL cA av H xs vs)(lo hi:Option Int):RepL cA av H (L2.cutL xs lo hi) (L2.cutL vs lo hi):=by
 unfold L2.cutL;rw [l.length];exact(l.drop _).take _
def xNoP(_:Env):Option (Option Int):=some none
def xP(ε:Env->Option D)(δ:Env):Option (Option Int):=match ε δ with
 |some (.int i)=>some (some i)
 |_=>none
def VO(G:Cn)(ow:List Nat)(to:TO)(ω:Env->Option (Option Int)):Prop:=
 ∀H0 av A σ H δ,ER G ow H0 av A σ H δ->∀x,ω δ=some x->∀Q:Option Int->Hp->Prop,(∀H',Same H H'->Q x H')->to σ H Q
theorem JH:VO G ow tNoPart xNoP:=λH0 av A σ H δ E x e Q k=>by
 cases e;exact k H (Same.refl H)
theorem JI{te:TE}{q:Ql}{ε:Env->Option D}(h:VE G ow te q ε):VO G ow (ZgQ te) (xP ε):=λH0 av A σ H δ E x e Q k=>by
 unfold xP at e;cases he:ε δ with
 |none=>rw [he]at e;cases e
 |some d=>
  rw [he]at e;cases d<;>first|(cases e;done)|skip
  cases e;exact h H0 av A σ H δ E _ he _ λv H' s r=>⟨_,r.any,k H' s⟩
def slD:D->Option Int->Option Int->Option D
 | .str a,lo,hi=>if a.length<=sizeLine then some (.str (L2.cutL a lo hi))else none
 | .lst xs,lo,hi=>some (.lst (L2.cutL xs lo hi))
 | .tup xs,lo,hi=>if Z4 xs.length 0 lo=0/\Z4 xs.length xs.length hi=xs.length then none else some (.tup (L2.cutL xs lo hi))
 |_,_,_=>none
def eSl(a:Env->Option D)(lo hi:Env->Option (Option Int))(δ:Env):Option D:=match a δ with
 |some x=>match lo δ with
  |some l=>match hi δ with
   |some u=>slD x l u
   |none=>none
  |none=>none
 |none=>none
theorem Zez{a:Env->Option D}{lo hi:Env->Option (Option Int)}{δ:Env}{d:D}(h:eSl a lo hi δ=some d):∃x l u,a δ=some x/\lo δ=some l/\hi δ=some u/\slD x l u=some d:=by
 unfold eSl at h;cases ea:a δ with
 |none=>rw [ea]at h;cases h
 |some x=>
  rw [ea]at h;cases el:lo δ with
  |none=>rw [el]at h;cases h
  |some l=>
   rw [el]at h;cases eu:hi δ with
   |none=>rw [eu]at h;cases h
   |some u=>rw [eu]at h;exact⟨x,l,u,rfl,rfl,rfl,h⟩
theorem JJ{ta:TE}{tl th:TO}{q:Ql}{a:Env->Option D}{lo hi:Env->Option (Option Int)}(hq:q = .cl\/q = .tp)(ha:VE G ow ta q a)(hl:VO G ow tl lo)(hh:VO G ow th hi):VE G ow (tSl (Zie G.1.K) ta tl th) .cl (eSl a lo hi):=λH0 av A σ H δ E d e Q k=>by
 obtain⟨x,l,u,ex,el,eu,ed⟩:=Zez e;refine ha H0 av A σ H δ E x ex _ λv H1 s1 r1=>hl H0 av A σ H1 δ (E.mono s1) l el _ λH2 s2=>hh H0 av A σ H2 δ ((E.mono s1).mono s2) u eu _ λH3 s3 => ?_
 have s13:=s2.trans s3;have E3:=(E.mono s1).mono s13
 have r3:RepT G.1 av (AV av A) H3 x v:=by
  have:=(r1.same s13).tp;rcases hq with rfl|rfl<;>exact this
 cases x<;>first|(cases ed;done)|skip
 · rename_i cs
   cases(show v=_ from r3);dsimp only [slD]at ed
   by_cases hz:cs.length<=sizeLine
   · rw [if_pos hz]at ed
     cases ed;exact .inl ⟨cs,rfl,hz,k _ H3 (s1.trans s13) rfl⟩
   · rw [if_neg hz]at ed;cases ed
 · cases ed
   obtain⟨p,vs,rfl,_,rd,ll⟩:=r3;refine .inr (.inl ⟨p,vs,rfl,rd,λp' hp => ?_⟩);rw [Zdm];exact k _ _ ((s1.trans s13).trans (ZZ hp)) ⟨p',_,rfl,λz=>(E3.avl p' z hp).elim,SqL.of ZW,(ll.cutL l u).same (ZZ hp)⟩
 · rename_i xs
   dsimp only [slD]at ed
   by_cases hz:Z4 xs.length 0 l=0/\Z4 xs.length xs.length u=xs.length
   · rw [if_pos hz]at ed;cases ed
   · rw [if_neg hz]at ed
     cases ed;obtain⟨p,vs,rfl,_,rd,ll⟩:=r3;refine .inr (.inr ⟨p,vs,rfl,SqT.of rd,?_,λp' hp => ?_⟩)
     · have e:∀n d o,HT.sIx n d o=Z4 n d o:=λn d o=>by cases o<;>rfl
       rw [e,e,<-ll.length];exact hz
     · rw [Zdm]
       exact k _ _ ((s1.trans s13).trans (ZZ hp)) ⟨p',_,rfl,λz=>E3.avl p' z hp,ZW,(ll.cutL l u).same (ZZ hp)⟩
def ZfG(K:PySem.W.Frag):List V->Hp->VK->Prop:=λxs H Q=>Zks K xs H Q\/∃p vs c cv b,xs=[.ref p,c]/\(∀v,RelV c v->v=cv)/\KL K p vs/\kitOne K (.type "list") cv=some b/\Q (.bl b) H
theorem UW{X:Cx}{K:PySem.W.Frag}(hK:X.K=K:=by rfl):Yt X (.builtin "isinstance") (ZfG K):=by
 subst hK;intro pins s σ H xs us Q I rs h;rcases h with h|⟨p,vs,c,cv,b,rfl,hc,⟨o,its,n,hk,h1,_⟩,e,q⟩
 · exact Zew pins s σ H xs us Q I rs h
 · obtain⟨u,w',rfl,rx,rc⟩:=ZfD rs
   have ec:=hc _ rc;subst ec;cases(show u=Value.ref p from rx);exact PySem.W.kia_one PySem.W.kitx_list I.kIn ⟨o,I.kIn p o hk,h1⟩ e (λz=>nomatch z) λtk=>⟨.bl b,H,I.tok tk,rfl,q⟩
def kind:D->String
 | .non => "NoneType"
 | .bl _ => "bool"
 | .int _ => "int"
 | .str _ => "str"
 | .lst _ => "list"
 | .tup _ => "tuple"
 | .obj c _ _=>c
 | .dct _ _ => "dict"
 | .dtt _ _ => "dict"
def plainKinds:List String:=["NoneType", "bool", "int", "str", "list", "tuple"]
def Ue(tab:List (String×Bool)):D->Option Bool
 | .obj c _ _=>if plainKinds.contains c then none else tab.lookup c
 | .dct _ _=>none
 | .dtt _ _=>none
 |d=>tab.lookup (kind d)
def Yv(tab:List (String×Bool))(a:Env->Option D)(δ:Env):Option D:=match a δ with
 |some d=>match Ue tab d with
  |some b=>some (.bl b)
  |none=>none
 |none=>none
structure ClsI(K:PySem.W.Frag)(C:Addr):Prop where
 cl:Cls K C
 ha:PySem.W.findIn K (.ref C) "__class__" = some (some (.builtin "object.__class__"))
 hn:PySem.W.specialIn K (.builtin "object.__class__") "__get__" = some (some (.builtin "getset_descriptor.__get__"))
 htk:PySem.W.takesIn K (.builtin "object.__class__")=some true
 hm:PySem.W.mroIn K C (.type "object")=some true
structure IsiOk(K:PySem.W.Frag)(cA:Kn)(cv:Value)(tab:List (String×Bool)):Prop where
 plain:∀k∈plainKinds,∀b,tab.lookup k=some b->kitOne K (.type k) cv=some b
 own:∀(c:String)b,plainKinds.contains c=false->tab.lookup c=some b->kitOne K (.ref (cA.c c)) cv=some b/\ClsI K (cA.c c)
theorem ZaS{β:Type}{c:String}{b:β}:∀{tab:List (String×β)},tab.lookup c=some b->(c,b)∈tab
 | [],h=>by simp at h
 |(c',b')::r,h=>by
  rw [List.lookup_cons]at h;cases hc:c == c' with
  |true=>
   rw [hc]at h;cases h;rw [eq_of_beq hc];exact List.mem_cons_self
  |false=>
   rw [hc]at h;exact List.mem_cons_of_mem _ (ZaS h)
theorem QN{K:PySem.W.Frag}{cA:Kn}{cv:Value}{tab:List (String×Bool)}(h:∀p∈tab,if plainKinds.contains p.1=true then kitOne K (.type p.1) cv=some p.2 else kitOne K (.ref (cA.c p.1)) cv=some p.2/\ClsI K (cA.c p.1)):IsiOk K cA cv tab where
 plain:=λk hk b hl=>by
  have:=h _ (ZaS hl)
  rwa [if_pos (by simpa using hk)]at this
 own:=λc b hc hl=>by
  have:=h _ (ZaS hl)
  rwa [if_neg (by simpa using hc)]at this
theorem Uf{ta:TE}{q:Ql}{a:Env->Option D}{c:V}{cv:Value}{tab:List (String×Bool)}(hc:∀v,RelV c v->v=cv)(I:IsiOk G.1.K G.1 cv tab)(ha:VE G ow ta q a) :
 VE G ow (tCB (ZfG G.1.K) (Yj ta (Yj (tC c) tNil))) .cl (Yv tab a):=λH0 av A σ H δ E d e Q k=>by
 unfold Yv at e;cases he:a δ with
 |none=>rw [he]at e;cases e
 |some x=>
  rw [he]at e;dsimp only at e;cases ht:Ue tab x with
  |none=>rw [ht]at e;cases e
  |some b=>
   rw [ht]at e;cases e;refine ha H0 av A σ H δ E x he _ λv H1 s r => ?_
   have r':=r.any;have fin:∀t,TyOf G.1.K H1 v t->kitOne G.1.K t cv=some b->ZfG G.1.K [v,c] H1 Q:=λt ty e => .inl ⟨v,c,cv,t,b,rfl,hc,ty,e,k _ H1 s rfl⟩
   cases x with
   |non=>cases(show v=_ from r');exact fin _ .non (I.plain _ (by decide) b (by exact ht))
   |bl y=>cases(show v=_ from r');exact fin _ (.bl y) (I.plain _ (by decide) b (by exact ht))
   |int y=>cases(show v=_ from r');exact fin _ (.int y) (I.plain _ (by decide) b (by exact ht))
   |str y=>cases(show v=_ from r');exact fin _ (.str _) (I.plain _ (by decide) b (by exact ht))
   |lst y=>
    unfold Rep at r';obtain⟨p,vs,rfl,_,rd,_⟩:=r';rcases rd with(rd|⟨o,rd⟩)|rd
    · exact fin _ (.lst rd) (I.plain _ (by decide) b (by exact ht))
    · exact fin _ (.frz rd) (I.plain _ (by decide) b (by exact ht))
    · exact .inr ⟨p,vs,c,cv,b,rfl,hc,rd,I.plain _ (by decide) b (by exact ht),k _ H1 s rfl⟩
   |tup y=>
    unfold Rep at r';obtain⟨p,vs,rfl,_,rd,_⟩:=r';exact fin _ (.tup rd) (I.plain _ (by decide) b (by exact ht))
   |dct ks y=>cases ht
   |dtt ks y=>cases ht
   |obj c' ks y=>
    unfold Rep at r';obtain⟨p,dx,vs,rfl,_,rd,_⟩:=r';dsimp only [Ue]at ht;cases hp:plainKinds.contains c' with
    |true=>rw [hp,if_pos rfl]at ht;cases ht
    |false=>
    rw [hp,if_neg Bool.false_ne_true]at ht;obtain⟨h1,h2⟩:=I.own c' b hp ht;exact fin _ (.ins rd h2.cl h2.ha h2.hn h2.htk h2.hm) h1
end
end DL
namespace L2
open PySem PySem.Spec
section
variable{X:Cx}
end
end L2
namespace DL
open PySem PySem.Spec L2
section
variable{cA:Kn}{G:Cn}{ow:List Nat}
def eBM(f:List Nat->List D->Option D)(a:Env->Option D)(α:Env->Option (List D))(δ:Env):Option D:=match a δ with
 |some (.str cs)=>match α δ with
  |some ds=>f cs ds
  |none=>none
 |_=>none
end
end DL
namespace L2
open PySem PySem.Spec
structure FunX(K:PySem.W.Frag)(x qual:Str)(st:Stmt)(f:Addr)(fd:FuncData):Prop where
 ex:∃(oc:Value) (od:Option Addr) (dV kV doc pm:Value) (an:Option Addr) (cdv ct:Value) (osl:Array (Option Value)),
  fd=fnOf x qual (defArgs st) (defBody st) (defScope st) dV kV doc pm an cdv ct/\K.lookup f=some ⟨oc,od,.func fd,osl⟩/\codeIn K cdv qual=true
theorem Fun.x{K:PySem.W.Frag}{x qual:Str}{st:Stmt}{f:Addr}{fd:FuncData}(F:Fun K x qual st f fd):FunX K x qual st f fd:=by
 obtain⟨oc,od,kV,doc,pm,an,cdv,ct,osl,h⟩:=F.ex;exact⟨oc,od,.none,kV,doc,pm,an,cdv,ct,osl,h⟩
section
variable{P:Program}{w:World}{K:PySem.W.Frag}{mg:Str->Option Value}{base:Heap}
theorem FunX.ok {x qual:Str} {st:Stmt} {f:Addr} {fd:FuncData} {N ps:List Str} {k:Nat} {sp:Sp} (F:FunX K x qual st f fd) (S:FnScope N ps (defScope st)) (len:∀vs H Q E,sp vs H Q E->vs.length=ps.length)
 (hbody:∀(cdv:Value)(A:Around)(outer:List Env)(s:Shared)(H:Hp)(vs:List V)(Q:VK)(E:XK),Room k (A.deeper (PyProof.Rows.envOfC qual (defScope st) s.heap.objs.size f cdv))->sp vs H Q E ->
   ∃t,PSs (Xa CX0 P w K mg base N qual (defScope st) f cdv A outer s H E).nox (defBody st) t/\t { nx:=λ_ H'=>Q .non H',rt:=Q } (start N vs) H):FnOk P w K mg base CX0 (k+1) f fd ps sp:=by
 obtain⟨oc,od,dV,kV,doc,pm,an,cdv,ct,osl,rfl,lk,hcd⟩:=F.ex;refine ZgP lk hcd S len λA outer s H vs Q E hr hsp => ?_
 obtain⟨t,h,q⟩:=hbody cdv A outer s H vs Q E hr hsp;exact⟨t,h.nox,q⟩
theorem ZaJ {x qual:Str} {st:Stmt} {dT:Addr} {o:Obj} {ps:List Str} {ds items:List Value} {n:Nat} {kV doc pm:Value} {an:Option Addr} {cdv ct:Value} (us0:List Str) (ht:K.lookup dT=some o) (hd:o.data = .seq items.toArray n) (hn:us0.length+ds.length=ps.length)
 (h:∀(us:List Value),us.length=us0.length->∃k,bindArgs (fnOf x qual (defArgs st) (defBody st) (defScope st) (.ref dT) kV doc pm an cdv ct) ⟨us,[]⟩=seqItems? (.ref dT) >>= k/\k (some items.toArray)=pure (ps.zip (us++ds))) :
 Binds K (fnOf x qual (defArgs st) (defBody st) (defScope st) (.ref dT) kV doc pm an cdv ct) ps ds:=λs us X hl=>by
 obtain⟨k,h1,h2⟩:=h us (by rw [List.length_append]at hl;omega);exact BindsTo.of_defaults (T:=dT) (o:=o) (items:=items.toArray) (n:=n) rfl (X _ _ ht) hd h1 h2
end
section
variable{X:Cx}
end
structure CMeth(K:PySem.W.Frag)(C:Addr)(m:Str)(f:Addr):Prop where
 ga:PySem.W.specialIn K (.ref C) "__getattribute__" = some (some (.builtin "type.__getattribute__"))
 rd:PySem.W.readsIn K C (.type "type")=true
 fc:PySem.W.findCls K (.ref C) (.type "type") m=some (.val (.ref f))
 kp:keepIn K (.ref f)=true
section
variable{X:Cx}{CX:CXT}{k:Nat}{f C:Addr}{fd:FuncData}{ps:List Str}{sp:Sp}{dvs:List V}{ds:List Value}{E:XK}{x m:Str}{p pos apos:Pos}{e o:Expr}{es:List Expr}{ta:TE}{t:TA}
end
end L2
namespace DL
open PySem PySem.Spec L2
section
variable{cA:Kn}{G:Cn}{ow owN owB owC:List Nat}
def QO(cls:List String)(f:String)(a:Env->Option D)(δ:Env):Option D:=match a δ with
 |some (.obj c ks xs)=>if cls.contains c then(ks.zip xs).lookup f else none
 |_=>none
def QP(i:Nat)(cls:List String)(f:String)(ε:Env->Option D)(δ:Env):Option Out:=match ε δ with
 |some d=>match Za i δ with
  |some (.obj c ks xs)=>if cls.contains c && !ks.contains f&&decide (ks.length<1000)then some (.nx (δ.set i (some (.obj c (ks++[f]) (xs++[d])))))else none
  |_=>none
 |none=>none
theorem Own.live{av:Addr->Prop}{H:Hp}{d:D}{a:Addr}(h:Own cA av H d a):H a≠none:=by
 cases d with
 |lst xs=>obtain⟨vs,q,_⟩:=h;rw [q];exact λz=>by cases z
 |obj c ks xs=>obtain⟨dx,vs,q,_⟩:=h;rw [q];exact λz=>by cases z
 |dct ks xs=>obtain⟨vs,q,_⟩:=h;rw [q];exact λz=>by cases z
 |dtt ks xs=>obtain⟨vs,q,_⟩:=h;rw [q];exact λz=>by cases z
 |_=>exact h.elim
theorem Own.av{av av':Addr->Prop}{H:Hp}{d:D}{a:Addr}(k:∀b,av' b->av b\/H b=none)(h:Own cA av H d a):Own cA av' H d a:=by
 cases d with
 |lst xs=>obtain⟨vs,q,l⟩:=h;exact⟨vs,q,l.av k⟩
 |obj c ks xs=>obtain⟨dx,vs,q,z,l⟩:=h;exact⟨dx,vs,q,z,l.av k⟩
 |dct ks xs=>obtain⟨vs,q,z,l⟩:=h;exact⟨vs,q,z,l.av k⟩
 |dtt ks xs=>obtain⟨vs,q,z,l⟩:=h;exact⟨vs,q,z,l.av k⟩
 |_=>exact h.elim
def QQ(c:String)(n:Nat)(m:List D->Option D)(dds:List D)(α:Env->Option (List D))(δ:Env):Option D:=match α δ with
 |some ds=>if(D.obj c [] []::(ds++dds)).length=n then m (.obj c [] []::(ds++dds))else none
 |none=>none
def QR(i n:Nat)(m:List D->Option D)(dds:List D)(α:Env->Option (List D))(δ:Env):Option Out:=match Za i δ with
 |some d=>match α δ with
  |some ds=>if(d::(ds++dds)).length=n then(match m (d::(ds++dds))with
   |some d'=>some (.nx (δ.set i (some d')))
   |none=>none)else none
  |none=>none
 |none=>none
def runI(N:Nat)(φ:Env->Option Out)(ds:List D):Option D:=match φ (ds.map some++List.replicate (N-ds.length) none)with
 |some (.nx δ)=>Za 0 δ
 |_=>none
section
variable{P:Program}{w:World}{K:PySem.W.Frag}{mg:Str->Option Value}{base:Heap}
theorem Ziz {x qual:Str} {st:Stmt} {f:Addr} {fd:FuncData} {N ps:List Str} {k:Nat} {φ:Env->Option Out} (F:FunX K x qual st f fd) (S:FnScope N ps (defScope st))
 (hbody:∀(cdv:Value)(A:Around)(outer:List PySem.Env)(s:Shared)(H:Hp)(E:XK),Room k (A.deeper (PyProof.Rows.envOfC qual (defScope st) s.heap.objs.size f cdv)) ->
   ∃t,PSs (Xa CX0 P w K mg base N qual (defScope st) f cdv A outer s H E).nox (defBody st) t/\∃owN,VS ⟨cA,λ_=>none⟩ [] owN [] [] t φ):FnOk P w K mg base CX0 (k+1) f fd ps (spD cA ps.length (run N.length φ)):=by
 refine F.ok S (λvs H Q E h => ?_) λcdv A outer s H vs Q E hr h => ?_
 · obtain⟨av,ds,d,_,r,hl,_⟩:=h
   rw [<-r.length,hl]
 · obtain⟨av,ds,d,ha,r,hl,hm,q⟩:=h
   obtain⟨t,ht,owN,hv⟩:=hbody cdv A outer s H E hr;refine⟨t,ht,?_⟩;unfold run at hm;cases hφ:φ (ds.map some++List.replicate (N.length-ds.length) none)with
   |none=>rw [hφ]at hm;cases hm
   |some o=>
    rw [hφ]at hm;refine hv H av _ _ H _ (QM ha r) o hφ _ ?_;cases o with
    |nx δ'=>cases hm;exact λA' σ' H' E'=>q .non H' E'.same rfl
    |rt d'=>cases hm;exact λv H' s' r'=>q v H' s' r'
    |bk δ'=>cases hm
    |ct δ'=>cases hm
end
abbrev MTab:=List (String×(Nat×(List D->Option D)))
structure MethOk(X:Cx)(cA:Kn)(k:Nat)(m:String)(c:String)(n:Nat)(mm:List D->Option D):Prop where
 ex:∃f fd ps,Cls X.K (cA.c c)/\Meth X.K (cA.c c) (Str.ofString m) f/\FnOk X.prog X.w X.K X.mg X.base CX0 k f fd ps (spD cA n mm)/\Binds X.K fd ps []
def MTOk(X:Cx)(cA:Kn)(k:Nat)(m:String):MTab->Prop
 | []=>True
 |(c,n,mm)::r=>MethOk X cA k m c n mm/\MTOk X cA k m r
theorem MTOk.get{X:Cx}{k:Nat}{m:String}:∀{tab:MTab}{c:String}{n:Nat}{mm:List D->Option D},MTOk X cA k m tab->tab.lookup c=some (n,mm)->MethOk X cA k m c n mm
 | [],_,_,_,_,h=>by simp at h
 |(c',n',mm')::r,c,n,mm,T,h=>by
  rw [List.lookup_cons]at h;cases hc:c == c' with
  |true=>
   rw [hc]at h;cases h;have:c=c':=eq_of_beq hc;subst this;exact T.1
  |false=>
   rw [hc]at h;exact MTOk.get T.2 h
def QS(m:String)(tab:MTab)(a:Env->Option D)(α:Env->Option (List D))(δ:Env):Option D:=match a δ with
 |some (.obj c ks xs)=>if ks.contains m then none else(match tab.lookup c with
  |some (n,mm)=>match α δ with
   |some ds=>if(D.obj c ks xs::ds).length=n then mm (.obj c ks xs::ds)else none
   |none=>none
  |none=>none)
 |_=>none
def isD:D->D->Option D
 | .bl a,.bl b=>some (.bl (a == b))
 |_,_=>none
end
end DL
namespace DL
open PySem PySem.Spec L2
def XT:Nat->List D->List D
 |_,[]=>[]
 |k,x::xs => .tup [.int (k:Nat),x]::XT (k+1) xs
theorem Zac:∀(k:Nat)(xs:List D),(XT k xs).length=xs.length
 |_,[]=>rfl
 |k,x::xs=>by rw [XT,List.length_cons,List.length_cons,Zac]
theorem Zav:∀(k:Nat)(xs:List D)(i:Nat),(XT k xs)[i]? = (xs[i]?).map λx => .tup [.int ((k+i:Nat):Int),x]
 |_,[],i=>by simp [XT]
 |k,x::xs,0=>by simp [XT]
 |k,x::xs,i+1=>by
  rw [XT,List.getElem?_cons_succ,List.getElem?_cons_succ,Zav (k+1) xs i];have:k+1+i=k+(i+1):=by omega
  rw [this]
section
variable{cA:Kn}{G:Cn}{ow:List Nat}
end
end DL
namespace DL
open PySem PySem.Spec L2
section
variable{cA:Kn}{P:Program}{w:World}{K:PySem.W.Frag}{mg:Str->Option Value}{base:Heap}
theorem Yg {x qual:Str} {st:Stmt} {f:Addr} {fd:FuncData} {N ps:List Str} {k:Nat} {φ:Env->Option Out} {body:List Stmt} {scope:Scope} {n:Nat} {m:List D->Option D} (F:FunX K x qual st f fd) (S:FnScope N ps (defScope st)) (hS:defScope st=scope) (hB:defBody st=body)
 (hbody:∀(cdv:Value)(A:Around)(outer:List PySem.Env)(s:Shared)(H:Hp)(E:XK),Room k (A.deeper (PyProof.Rows.envOfC qual scope s.heap.objs.size f cdv)) ->
   ∃t,PSs (Xa CX0 P w K mg base N qual scope f cdv A outer s H E).nox body t/\∃owN,VS ⟨cA,λ_=>none⟩ [] owN [] [] t φ)  (hm:m=run N.length φ) (hn:ps.length=n):FnOk P w K mg base CX0 (k+1) f fd ps (spD cA n m):=by
 subst hS hB hm hn;exact Ziz F S hbody
end
end DL
namespace DL
open PySem PySem.Spec L2 PyProof.Rows
def Xv:List D->Option (List Int)
 | []=>some []
 | .int b::r=>match Xv r with
  |some bs=>some (b::bs)
  |none=>none
 |_=>none
theorem JK:∀{xs:List D}{bs:List Int},Xv xs=some bs->xs=bs.map D.int
 | [],bs,h=>by cases h;rfl
 |x::xs,bs,h=>by
  cases x<;>first|(cases h;done)|skip
  rename_i b;unfold Xv at h;cases hr:Xv xs with
  |none=>rw [hr]at h;cases h
  |some cs=>
   rw [hr]at h;cases h;rw [List.map_cons,JK hr]
theorem QT(bs:List Int):Xv (bs.map D.int)=some bs:=by
 induction bs with
 |nil=>rfl
 |cons b bs ih=>rw [List.map_cons,Xv,ih]
theorem JL:∀(ns:List Int)(its:List Value),Vals (ns.map V.int) its->IntsAre its ns
 | [],its,h=>by cases h;exact .nil
 |n::ns,its,h=>by
  cases h with
  |cons r1 r2=>
   obtain⟨t,rfl⟩:=r1;exact .cons _ _ (JL ns _ r2)
def Ve:List Int->Int
 | []=>0
 |n::ns=>ns.foldl max n
theorem Zae:∀(ns:List Int)(n:Int),(ns.foldl max n=n\/ns.foldl max n∈ns)/\n<=ns.foldl max n/\∀a∈ns,a<=ns.foldl max n
 | [],n=>⟨.inl rfl,Int.le_refl _,λ_ z=>nomatch z⟩
 |m::ns,n=>by
  obtain⟨h1,h2,h3⟩:=Zae ns (max n m);rw [List.foldl_cons];refine⟨?_,by omega,λa ha => ?_⟩
  · rcases h1 with h|h
    · by_cases hm:n<=m
      · exact .inr (by rw [h,Int.max_eq_right hm];exact List.mem_cons_self)
      · exact .inl (by rw [h,Int.max_eq_left (by omega)])
    · exact .inr (List.mem_cons_of_mem _ h)
  · rcases List.mem_cons.mp ha with rfl|ha
    · omega
    · exact h3 a ha
theorem Zaw{ns:List Int}(h:0<ns.length):Ve ns∈ns/\∀a∈ns,a<=Ve ns:=by
 cases ns with
 |nil=>cases h
 |cons n ns=>
  obtain⟨h1,h2,h3⟩:=Zae ns n;refine⟨?_,λa ha => ?_⟩
  · rcases h1 with h|h
    · show ns.foldl max n∈_
      rw [h];exact List.mem_cons_self
    · exact List.mem_cons_of_mem _ h
  · rcases List.mem_cons.mp ha with rfl|ha
    · exact h2
    · exact h3 a ha
theorem Zd1{ns:List Int}{M:Int}(h1:M∈ns)(h2:∀a∈ns,a<=M):M=Ve ns:=by
 obtain⟨h3,h4⟩:=Zaw (List.length_pos_of_mem h1);exact Int.le_antisymm (h4 M h1) (h2 _ h3)
def ZfH(K:PySem.W.Frag):List V->Hp->VK->Prop:=λxs H Q=>∃(p:Addr) (ns:List Int),xs=[.ref p]/\SqL K H p (ns.map V.int)/\0<ns.length/\Q (.int (Ve ns)) H
def ZfI(K:PySem.W.Frag):List V->Hp->VK->Prop:=λxs H Q=>∃(p:Addr) (ns:List Int),xs=[.ref p]/\SqL K H p (ns.map V.int)/\Q (.int ns.sum) H
section
variable{X:Cx}{K:PySem.W.Frag}{cA:Kn}
theorem Zd2(hc:X.calm=true):Yt X (.builtin "max") (ZfH X.K):=by
 intro pins s σ H xs us Q I rs h;obtain⟨p,ns,rfl,hq,hne,q⟩:=h;obtain⟨u,rfl,rx⟩:=Xl rs;cases rx;obtain⟨its,rv,pl,hz⟩:=I.list hq;have hi:=JL ns its rv;obtain⟨ys,e⟩:=hi.allInts.items
 have hns:ns=ys.toList.map (·.1):=by
  rw [<-hi.numsOf,<-nums_intItems,<-e]
 have hsz:0<ys.size:=by
  have h3:=hne;rw [hns,List.length_map,Array.length_toList]at h3;exact h3
 have hl:=pl.isList;rw [e]at hl;refine max_intList (I.ok.hd hc) hl hsz λv h' tk hv hk => ?_
 obtain⟨t,rfl⟩:=intItems_at hv;obtain⟨h1,h2⟩:=argBest_gt (numAt ys) (ys.size-1)
 have hM:=Zd1 (ns:=ns) (M:=numAt ys (argBest (λi j=>decide (numAt ys i>numAt ys j)) (ys.size-1))) (by
  rw [hns,numAt_eq];exact getD_mem (by rw [List.length_map,Array.length_toList];omega)) (λa ha=>by
  rw [hns]at ha;obtain⟨j,hj,rfl⟩:=mem_getD ha;rw [List.length_map,Array.length_toList]at hj;rw [<-numAt_eq];exact h2 j (by omega))
 exact⟨.int (Ve ns),H,I.kept hk,⟨t,by rw [hM]⟩,q⟩
theorem Zd3(hc:X.calm=true):Yt X (.builtin "sum") (ZfI X.K):=by
 intro pins s σ H xs us Q I rs h;obtain⟨p,ns,rfl,hq,q⟩:=h;obtain⟨u,rfl,rx⟩:=Xl rs;cases rx;obtain⟨its,rv,pl,hz⟩:=I.list hq;have hi:=JL ns its rv;obtain⟨ys,e⟩:=hi.allInts.items
 have hns:ns=ys.toList.map (·.1):=by
  rw [<-hi.numsOf,<-nums_intItems,<-e]
 have hl:=pl.isList;rw [e]at hl;refine sum_intListG (I.ok.hd hc) hl λh' tk t' hk => ?_
 have e2:preSum (numAt ys) ys.size=ns.sum:=by
  rw [preSum_eq,List.take_of_length_le (by simp),hns]
 exact⟨.int ns.sum,H,I.kept hk,⟨t',by rw [e2]⟩,q⟩
theorem Zfd(hc:X.calm=true:=by rfl)(hK:X.K=K:=by rfl):Yt X (.builtin "max") (ZfH K):=hK▸Zd2 hc
theorem Zc0(hc:X.calm=true:=by rfl)(hK:X.K=K:=by rfl):Yt X (.builtin "sum") (ZfI K):=hK▸Zd3 hc
def maxLD:List D->Option D
 | [.lst xs]=>match Xv xs with
  |some ns=>if 0<ns.length then some (.int (Ve ns))else none
  |none=>none
 |_=>none
def sumLD:List D->Option D
 | [.lst xs]=>match Xv xs with
  |some ns=>some (.int ns.sum)
  |none=>none
 |_=>none
theorem Zdn:Ud cA (ZfH cA.K) maxLD:=λi H ds vs d _ h e Q k=>by
 unfold maxLD at e
 split at e
 · rename_i xs
   cases hb:Xv xs with
   |none=>rw [hb]at e;cases e
   |some bs=>
    rw [hb]at e;dsimp only at e
    by_cases hz:0<bs.length
    · rw [if_pos hz]at e
      cases e;obtain⟨v,t,rfl,a,ws,rfl,_,rd,l⟩:=il1 h;have ex:=JK hb;subst ex;have ev:=l.vals (by rw [List.all_map];exact List.all_eq_true.mpr λ_ _=>rfl);rw [List.map_map]at ev;subst ev;exact⟨a,bs,rfl,rd,hz,k _ H (Same.refl H) rfl⟩
    · rw [if_neg hz]at e;cases e
 · cases e
theorem ZbA:Ud cA (ZfI cA.K) sumLD:=λi H ds vs d _ h e Q k=>by
 unfold sumLD at e
 split at e
 · rename_i xs
   cases hb:Xv xs with
   |none=>rw [hb]at e;cases e
   |some bs=>
    rw [hb]at e;cases e;obtain⟨v,t,rfl,a,ws,rfl,_,rd,l⟩:=il1 h;have ex:=JK hb;subst ex;have ev:=l.vals (by rw [List.all_map];exact List.all_eq_true.mpr λ_ _=>rfl);rw [List.map_map]at ev;subst ev;exact⟨a,bs,rfl,rd,k _ H (Same.refl H) rfl⟩
 · cases e
end
end DL
namespace L2
open PySem PySem.Spec PyProof.Rows
section
variable{X:Cx}{scope:Scope}{tn cn:List Str}{js:List Nat}{tg iter elt:Expr}{ifs:List Expr}{pos spos pos':Pos}{wi:TI}{g:TG}{tt:TT}{te:TE}
theorem JM {i:Nat} {x:Str} (hN:X.N.Nodup) (hi:X.N[i]? = some x) (hx:X.env.scope.names.lookup x=some .local) (hc:X.calm=true) (S:CompSc X scope tn cn js) (hI:PI X tg iter wi)
 (hg:∀C s₂ H₂ fp,PG (Xn X scope (tn++cn) C s₂ H₂ fp) tg g) (ht:∀C s₂ H₂ fp,PTs (Xn X scope (tn++cn) C s₂ H₂ fp) ifs tt) (he:∀C s₂ H₂ fp,PE (Xn X scope (tn++cn) C s₂ H₂ fp) elt te)
 (hsw:swapsWith (.ListComp elt [⟨tg,iter,ifs,0⟩] scope pos) (some (.Name x pos')) spos.line X.env=pure true:=by rfl)
 (hs:∀x,foldedSetIterable iter X.env x=pure x:=by intro _;rfl) :
 PS X (.Assign [.Name x pos'] (.ListComp elt [⟨tg,iter,ifs,0⟩] scope pos) spos) (Y0 (ZfE wi g tt te tn.length js) (YN i)):=by
 intro pins s σ H D I h;rw [exec_Assign_Name_used _ _ _ _ hsw];refine wpAny_bind (wpAny_standAt (wpAny_bind ?_));show wpAny _ X.A (do let _ <-comprehension (.ListComp elt [⟨tg,iter,ifs,0⟩] scope pos) scope X.env _ (newList []) false (eval iter X.env) (some (assign (.Name x pos') X.env))) _ _ s
 refine wpAny_bind (wpAny_mono (wpAny_comprehension_free (use:=some (assign (.Name x pos') X.env)) (Q:=λ_ s'=>SP X pins D .next s') (cl:=YI X.env.cells scope.names []) rfl hs (Zai (S.clos I.ok)) S.kind S.names
  (thn (hI pins s σ H _ I h) λv s1 h1=>thn h1 λitv s2 h2 => ?_)) (λ_ s' hq=>wpAny_pure (wpAny_pure hq)) λ_ _ e=>e)
 obtain⟨it,fp,tnx,J,H2,e,I2,T,st2,f2,W,⟨m0,w0⟩,turn⟩:=h2;subst e;refine ZaI (RR:=λacc C=>compPost (model X.prog X.w) X.A X.xe (some (assign (.Name x pos') X.env)) (λ_ s'=>SP X pins D .next s') acc C) (W:=W) (m0:=m0) hc S hg ht he I2 T st2 f2 w0 λi' m ys H w => ?_
 rcases turn i' m ys H w with⟨stop,qn⟩|r
 · refine .inl ⟨stop,λC D' s its n σ' hC hD hDC hv hz I' => ?_⟩
   obtain⟨m',hn,_⟩:=id I'.loc;have pd:=I'.pin (D',{ cls := .type "list",data := .seq its.toArray n }) (List.mem_append_right _ List.mem_cons_self);have hCf:H C=none:=I'.free;have I1:Inv X pins σ (upd H D' (.lst ys)) { s with heap:=s.heap }:=Zb7 S I2 hC hD hDC f2 I' hv hz (Heap.SameBut.refl _ _);show wpAny _ X.A (assign (.Name x pos') X.env (.ref D')) _ _ _;have hlC:X.env.locals≠C:=λz=>absurd (z▸I2.lt) (Nat.not_lt.mpr hC)
   have hcC:∀y c,X.env.cells.lookup y=some c->c≠C:=λy c e z=>by
    obtain⟨v',o',q,_⟩:=I2.cell y c e;exact absurd (Heap.lt_size q) (Nat.not_lt.mpr (z▸hC))
   refine wpAny_assign_Name (Za4 I1 hN hi (.inl hx) (v:=.ref D') rfl (λs3 I3 ⟨a,hsb,ha⟩ => ?_) (.inr hx))
   have hCa:C≠a:=by
    rcases ha with rfl|ha
    · exact Ne.symm hlC
    · exact Ne.symm (hcC _ _ ha)
   refine⟨m',hn.sameBut hsb hCa,λh' hs' => ?_⟩;have hCn:upd H D' (.lst ys) C=none:=by rw [ZA (Ne.symm hDC)];exact hCf
   have I4:Inv X pins (σ.set i (some (.ref D'))) (upd H D' (.lst ys)) { s3 with heap:=h',toks:=s3.toks }:=I3.turned (it:=C) (λb o hb e=>(hs'.2 b hb).trans e) hCn (Ne.symm hlC) (.inr (Nat.le_trans (Nat.le_trans I2.ok.above (Nat.le_of_lt I2.lt)) hC)) (λy c e=>hcC y c e) λp hp z=>by
    have:=(I2.pin p hp).1;exact absurd (Heap.lt_size this) (Nat.not_lt.mpr (z▸hC))
   exact⟨_,_,I4,qn D' pd.2.1⟩
 · exact .inr r
end
end L2
namespace PySem
open Builtin SmallTypes
open AutoSeq1 (wpAny_loadPart')
end PySem
namespace PySem
open Sem (wp)
end PySem
namespace PySem
open Sem (wp)
section
variable{P:Program}{w:World}{A:Around}{E:Value->Shared->Prop}{s:Shared}
end
end PySem
namespace L2
open PySem PySem.Spec PyProof.Rows
def Zig(K:PySem.W.Frag)(n0:Nat)(l:Addr):It:=
 ⟨λi H=>∃xs x,SqL K H l xs/\xs[i]? = some x,λi H v H'=>∃x p,(∀xs,SqL K H l xs->xs[i]? = some x)/\H p=none/\v = .ref p/\H'=upd H p (.tup [.int ((n0+i:Nat):Int),x]),λi H=>∃xs,SqL K H l xs/\xs.length<=i⟩
theorem Zd4{prog:Program}{w:World}{A:Around}(hh:A.handled=none)(it l:Addr)(hne:l≠it)(its:Array Value)(n0:Nat) :
 Draws prog w A it [it,l] (n0+its.size) (λi v=>∃j,i=n0+j/\its[j]? = some v) (λi h=>∃j,i=n0+j/\h.IsListIter it l j/\h.IsList l its) where
 live:=λi h ⟨j,_,st,_⟩=>let⟨o,ho,_⟩:=st;⟨o,ho⟩
 frame:=λi h h' ⟨j,e,s1,s2⟩ hk=>⟨j,e,s1.at λo q=>hk it (by simp) o q,s2.at λo q=>hk l (by simp) o q⟩
 item:=λi s Q E hi st hQ=>by
  obtain⟨j,rfl,s1,s2⟩:=st;have hj:j<its.size:=by omega
  refine wpAny_nextOf_list_item s1 s2 (x:=its[j]) (by simp [hj]) λh' st' sb => ?_
  exact hQ _ h' s.toks ⟨j,rfl,by simp [hj]⟩ ⟨j+1,by omega,st',s2.extBut sb.extBut hne⟩ sb
 done:=λs Q E st hE=>by
  obtain⟨j,e,s1,s2⟩:=st
  exact wpAny_nextOf_list_end hh s1 s2 (by have : j = its.size := by omega
                                           subst this;simp) hE
theorem ZcG{prog:Program}{w:World}{A:Around}(hh:A.handled=none)(it l:Addr)(its:Array Value)(n j:Nat)(hj:its.size<=j) :
 Draws prog w A it [it,l] n (λ_ _=>False) (λi h=>i=n/\h.IsListIter it l j/\h.IsList l its) where
 live:=λi h ⟨_,st,_⟩=>let⟨o,ho,_⟩:=st;⟨o,ho⟩
 frame:=λi h h' ⟨e,s1,s2⟩ hk=>⟨e,s1.at λo q=>hk it (by simp) o q,s2.at λo q=>hk l (by simp) o q⟩
 item:=λi s Q E hi st hQ=>absurd st.1 (by omega)
 done:=λs Q E st hE=>wpAny_nextOf_list_end hh st.2.1 st.2.2 (by simp [hj]) hE
theorem ZcH{P:Program}{w:World}{K:PySem.W.Frag}{elts:List Expr}{x1:Nat}{tpos:Pos}(e it l:Addr)(hne:e≠it)(n0:Nat) :
 Turn P w K (.Tuple elts x1 tpos) (Zig K n0 l) [e,it] e (λi h=>(∃old,IsEnum h e it ((n0+i:Nat):Int) old)/\h.IsListIter it l i) where
 mem:=by simp
 obj:=λi h st b hb=>by
  obtain⟨⟨old,he⟩,o,ho,hc,hd⟩:=st;simp at hb;rcases hb with rfl|rfl
  · exact ⟨_, he, fun v z => by
     have z':Data.fields _=Data.cell v:=z;cases z'⟩
  · exact⟨o,ho,λv z=>by rw [hd]at z;cases z⟩
 keep:=λi h h' st k=>by
  obtain⟨⟨old,he⟩,s1⟩:=st;exact⟨⟨old,k e (by simp) _ he⟩,s1.at λo q=>k it (by simp) o q⟩
 item:=by
  intro X hP hw hK hc i pins s σ H E I hf st hg;subst hP hw hK;obtain⟨⟨old,he⟩,st⟩:=st;obtain⟨xs,x,hq,hx⟩:=hg;obtain⟨its,rv,p,hz⟩:=I.list hq;obtain⟨u,hu,ru⟩:=rv.get hx;have hi:i<its.length:=(List.getElem?_eq_some_iff.mp hu).1;obtain⟨e0,e1,e2,e3,e4,e5⟩:=hf e (by simp);obtain⟨f0,f1,f2,f3,f4,f5⟩:=hf it (by simp)
  have hLe:l≠e:=by
   rintro rfl
   obtain⟨o,ho,hcl,_⟩:=p.isList;have he':s.heap.get? l=some _:=he;rw [he']at ho;cases ho;exact absurd (show Value.type "enumerate" = Value.type "list" from hcl) (by decide)
  have hLi:l≠it:=by
   rintro rfl
   obtain⟨o,ho,hcl,_⟩:=p.isList;obtain⟨o',ho',hcl',_⟩:=id st;rw [ho]at ho';cases ho';rw [hcl]at hcl';exact absurd hcl' (by decide)
  have D:=Zd4 (prog:=X.prog) (w:=X.w) (A:=X.A.in1) (I.ok.hd hc) it l hLi its.toArray n0;refine wpAny_pyNext_enum_itemD D he ⟨i,rfl,st,p.isList⟩ (by simp;omega) hne (by simp [hne,Ne.symm hLe]) λy h' tk hP ho st' hT hsz hk => ?_
  obtain⟨j,ej,hy⟩:=hP;have ej':j=i:=by omega
  subst ej'
  have hyu:y=u:=by
   have:its[j]? = some y:=by simpa using hy
   rw [hu]at this;exact(Option.some.inj this).symm
  subst hyu;refine⟨_,rfl,wpAny_letOwnedTupleGo_enum ho λh2 he2 hs2 => ?_⟩;have hs2:Heap.SameBut e h' h2:=hs2;have hTl:e<s.heap.objs.size:=Heap.lt_size he;obtain⟨j',ej2,st'',_⟩:=st';have ej3:j'=j+1:=by omega
  subst ej3;have hT2:h2.get? s.heap.objs.size=some { cls := .type "tuple",data := .seq #[.int ((n0+j:Nat):Int) tk,y] }:=(hs2.2 _ (Nat.ne_of_gt hTl)).trans hT;have k2:∀b o,b≠e->b≠it->s.heap.get? b=some o->h2.get? b=some o:=λb o hb hb' q=>(hs2.2 b hb).trans (hk b o hb hb' q)
  have hTn:H s.heap.objs.size=none:=I.hok.fresh (Nat.le_refl _);have neT:∀b o,s.heap.get? b=some o->b≠s.heap.objs.size:=λb o q=>Nat.ne_of_lt (Heap.lt_size q)
  have I2:Inv X pins σ (upd H s.heap.objs.size (.tup [.int ((n0+j:Nat):Int),x])) { s with heap:=h2,toks:=tk+1 }:=by
   refine I.step (g':=s.gens) (d':=s.drawn) (ch:=[e,it]) (λb hb => ?_) (λb o _ _ hcb q _ => ?_) (λb o _ _ hcb q _ => ?_) (λb o hcb q n => ?_) (λb o hcb q => ?_) (λb xs q => ?_) (λb o v q => ?_) (λb ps q => ?_) (λm hm => ?_) (λb o q => ?_) I.bare
   · simp at hb
     rcases hb with rfl|rfl
     · exact⟨e3,e1,e4,e5⟩
     · exact⟨f3,f1,f4,f5⟩
   · simp at hcb
     exact k2 b o hcb.1 hcb.2 q
   · simp at hcb
     exact⟨o.slots,k2 b o hcb.1 hcb.2 q⟩
   · rw [ZA (neT b o q)]
     exact n
   · simp at hcb
     exact⟨o,k2 b o hcb.1 hcb.2 q⟩
   · rw [ZA (Yr q hTn)]
     exact q
   · rw [ZA (Yr q hTn)]
     exact q
   · exact⟨#[],by rw [ZA (Yr q hTn),q];simp⟩
   · obtain⟨o,es,ep,q,r⟩:=hm
     exact⟨o,es,ep,k2 _ o (Ne.symm e1) (Ne.symm f1) q,r⟩
   · by_cases hb:b=s.heap.objs.size
     · subst hb
       rw [ZW]at q;cases q;refine⟨by show 2<=sizeLine;decide,[.int ((n0+j:Nat):Int) tk,y],.cons ⟨_,rfl⟩ (.cons ru .nil),?_⟩;exact⟨_,hT2,rfl,⟨_,rfl⟩,rfl⟩
     · rw [ZA hb]at q
       have nn:∀(b:Addr)(o:HO),H b=some o->b≠e/\b≠it:=λb o q=>⟨λz=>(by rw [z,e0]at q;cases q),λz=>(by rw [z,f0]at q;cases q)⟩
       refine(I.hok b o q).stay (λd v hd q' => ?_) (λd q'=>by rw [ZA (Yr q' hTn)];exact q') λd xs q'=>by rw [ZA (Yr q' hTn)];exact q'
       rcases hd with rfl|hd
       · exact k2 d v (nn d o q).1 (nn d o q).2 q'
       · exact k2 d v (nn d _ hd).1 (nn d _ hd).2 q'
  have he3:IsEnum h2 e it ((n0+(j+1):Nat):Int) y:=by
   have:((n0+(j+1):Nat):Int)=((n0+j:Nat):Int)+1:=by push_cast;omega
   rw [this];exact he2
  refine⟨.ref s.heap.objs.size,_,I2,rfl,⟨x,s.heap.objs.size,λys hy=>by rw [I.list_inj hy hq];exact hx,hTn,rfl,rfl⟩,⟨⟨_,he3⟩,?_⟩,λb hb => ?_⟩
  · obtain⟨o,ho',r⟩:=st''
    exact⟨o,(hs2.2 it (Ne.symm hne)).trans ho',r⟩
  · simp at hb
    rcases hb with rfl|rfl
    · rw [ZA (Nat.ne_of_lt hTl)];exact e0
    · obtain⟨o,ho',_⟩:=st
      rw [ZA (neT _ o ho')];exact f0
 done:=by
  intro X hP hw hK hc i pins s σ H E I hf st hg;subst hP hw hK;obtain⟨⟨old,he⟩,st⟩:=st;obtain⟨xs,hq,hx⟩:=hg;obtain⟨its,rv,p,hz⟩:=I.list hq;have hl:=rv.length;obtain⟨f0,f1,f2,f3,f4,f5⟩:=hf it (by simp);have D:=ZcG (prog:=X.prog) (w:=X.w) (A:=X.A.in1) (I.ok.hd hc) it l its.toArray (n0+i) i (by simp;omega);exact wpAny_pyNext_enum_endD D he ⟨rfl,st,p.isList⟩ λh' eb=>⟨rfl,I.turned (t':=s.toks) (λb o hb q=>eb b o hb q) f0 f1 f3 f4 f5⟩
 self:=λ_ _ _ _ _ st h=>by
  obtain⟨⟨old,he⟩,_⟩:=st;exact wpAny_pyIter_enum he h
end L2
namespace L2
open PySem PySem.Spec PyProof.Rows
section
variable{X:Cx}{elts:List Expr}{x1:Nat}{tpos:Pos}
end
end L2
namespace DL
open PySem PySem.Spec L2
section
variable{cA:Kn}{G:Cn}{ow:List Nat}
def QU(k:Nat)(ε:Env->Option D)(δ:Env):Option (List D):=match ε δ with
 |some (.lst xs)=>some (XT k xs)
 |_=>none
theorem ZbL{iv:Addr->Prop}{H0:Hp}{a:Addr}{vs:List V}{xs:List D}{n0:Nat}(rd:SqL cA.K H0 a vs)(l:RepL cA iv H0 xs vs):UA cA iv (Zig cA.K n0 a) (XT n0 xs) H0:=λH s=>by
 have rd':SqL cA.K H a vs:=s.seq rd;refine⟨λi hi => ?_,λi x v H' hx y => ?_,λi hi=>⟨vs,rd',by rw [Zac]at hi;rw [<-l.length];exact hi⟩⟩
 · rw [Zac]at hi
   obtain⟨v,hv,_⟩:=l.get (List.getElem?_eq_getElem hi);exact⟨vs,v,rd',hv⟩
 · obtain⟨z,p,hy,hp,rfl,rfl⟩:=y
   rw [Zav]at hx;cases hxi:xs[i]? with
   |none=>rw [hxi]at hx;cases hx
   |some d=>
    rw [hxi]at hx;cases hx;obtain⟨v',hv,r⟩:=l.get hxi;rw [hy vs rd']at hv;cases hv;refine⟨ZZ hp,λav' h1 h2 => ?_⟩;unfold Rep;exact⟨p,_,rfl,λz=>h1 p z hp,ZW,.cons rfl (.cons (((r.av h2).same s).same (ZZ hp)) .nil)⟩
end
end DL
namespace PySem
open Builtin SmallTypes
open AutoSeq1 (wpAny_loadPart')
end PySem
namespace PySem
section
variable{P:Program}{w:World}{A:Around}{E:Value->Shared->Prop}{s:Shared}
end
end PySem
namespace L2
open PySem PySem.Spec PyProof.Rows
section
variable{X:Cx}{elts:List Expr}{x1:Nat}{tpos:Pos}
end
end L2
namespace DL
open PySem PySem.Spec L2
section
variable{cA:Kn}{G:Cn}{ow:List Nat}
end
end DL
namespace DL
open PySem PySem.Spec L2 PyProof.Rows
def Wd(i:Int):Prop:=i.natAbs<2 ^ 8000
instance (i:Int):Decidable (Wd i):=by unfold Wd;infer_instance
def CMulW(i j:Int):Prop:=(Wd i/\Wd j)\/CMul i j
instance (i j:Int):Decidable (CMulW i j):=by unfold CMulW;infer_instance
def UX(_ j:Int):Prop:=j≠0/\Wd j
instance (i j:Int):Decidable (UX i j):=by unfold UX;infer_instance
instance (i j:Int):Decidable (Uu i j):=by unfold Uu;infer_instance
theorem Zfe{i:Int}(h:Wd i)(h0:i≠0):i.natAbs.log2<8000:=(Nat.log2_lt (by omega)).mpr h
theorem CMulW.ok{i j:Int}(h:CMulW i j):IntMulOk i j:=by
 rcases h with⟨h1,h2⟩|h
 · have bits : ∀ {a : Int}, Wd a -> Builtin.Int.intBits a <= 2 ^ 20 := fun {a} ha => by
    unfold Builtin.Int.intBits
    by_cases h0:a=0
    · subst h0;decide
    · have:=Zfe ha h0
      have e:(2:Nat) ^ 20=1048576:=by decide
      rw [e]
      split<;>omega
   exact .of_bits (bits h1) (bits h2)
 · exact h.ok
section
variable{X:Cx}{cA:Kn}
theorem op_mulW:OpR X (binaryOp .Mult) (rI CMulW λi j => .int (i*j)):=opI λ_ _ _ _ _ _ _ hc q=>mul_int q hc.ok
theorem XU:OpR X (binaryOp .FloorDiv) (rI UX λi j => .int (i.fdiv j)):=opI λ_ _ _ _ _ _ _ hc q=>floordiv_int hc.1 q (.inl (PyProof.noPylong_of_log2 (Nat.lt_trans (Zfe hc.2 hc.1) (by decide))))
def fdivW:D->D->Option D
 | .int i,.int j=>if UX i j then some (.int (i.fdiv j))else none
 |_,_=>none
def modW:D->D->Option D
 | .int i,.int j=>if j≠0 then some (.int (i.fmod j))else none
 |_,_=>none
def powW:D->D->Option D
 | .int i,.int j=>if Uu i j then some (.int (i ^ j.toNat))else none
 |_,_=>none
theorem ZfJ{C:Int->Int->Prop} [∀i j,Decidable (C i j)]{g:Int->Int->Int}{f:D->D->Option D}(hf:∀x y d,f x y=some d->∃i j,x = .int i/\y = .int j/\C i j/\d = .int (g i j)):Xb cA (rI C λi j => .int (g i j)) f:=λt t' i H x y vx vy d _ hx hy e Q k=>by
 obtain⟨a,b,rfl,rfl,hc,rfl⟩:=hf x y d e;cases(show vx=_ from hx);cases(show vy=_ from hy);exact⟨_,_,rfl,rfl,hc,k _ H (Same.refl H) rfl⟩
theorem XV:Xb cA (rI UX λi j => .int (i.fdiv j)) fdivW:=ZfJ λx y d e=>by
 cases x<;>cases y<;>first|(cases e;done)|skip
 rename_i a b;dsimp only [fdivW]at e
 by_cases hz:UX a b
 · rw [if_pos hz]at e;cases e;exact⟨_,_,rfl,rfl,hz,rfl⟩
 · rw [if_neg hz]at e;cases e
theorem Xe:Xb cA (rI (λ_ j=>j≠0) λi j => .int (i.fmod j)) modW:=ZfJ λx y d e=>by
 cases x<;>cases y<;>first|(cases e;done)|skip
 rename_i a b;dsimp only [modW]at e
 by_cases hz:b≠0
 · rw [if_pos hz]at e;cases e;exact⟨_,_,rfl,rfl,hz,rfl⟩
 · rw [if_neg hz]at e;cases e
theorem Zdo:Xb cA (rI Uu λi j => .int (i ^ j.toNat)) powW:=ZfJ λx y d e=>by
 cases x<;>cases y<;>first|(cases e;done)|skip
 rename_i a b;dsimp only [powW]at e
 by_cases hz:Uu a b
 · rw [if_pos hz]at e;cases e;exact⟨_,_,rfl,rfl,hz,rfl⟩
 · rw [if_neg hz]at e;cases e
def rAbs:List V->Hp->VK->Prop:=λxs H Q=>∃i,xs=[.int i]/\Q (.int (if i<0 then -i else i)) H
theorem Zd5:Yt X (.builtin "abs") rAbs:=by
 intro pins s σ H xs us Q I rs h;obtain⟨i,rfl,q⟩:=h;obtain⟨u,rfl,t,rfl⟩:=Xl rs;exact call_abs_int λu tk=>⟨.int _,H,I.tok _,⟨_,rfl⟩,q⟩
def absD:List D->Option D
 | [.int i]=>some (.int (if i<0 then -i else i))
 |_=>none
theorem Zhq:Ud cA rAbs absD:=λi H ds vs d _ h e Q k=>by
 unfold absD at e
 split at e
 · rename_i j
   cases e;obtain⟨v,t,rfl,hv⟩:=il1 h;cases(show v=_ from hv);exact⟨_,rfl,k _ H (Same.refl H) rfl⟩
 · cases e
end
end DL
namespace L2
open PySem PySem.Spec PySem.W PyProof.Rows
def bmV:List Value:=[.type "ValueError",.type "Exception",.type "BaseException",.type "object"]
section
variable{X:Cx}{E:XK}{C:Addr}{x:Str}{p cpos pos:Pos}{e:Expr}{es:List Expr}{t:TA}
end
def CX1(P:Program)(w:World):CXT:=λouter H s E ev s'=>∃(ea:Addr) (cls a0:Value) (B:Heap) (H':Hp),ev = .ref ea/\s'.os=s.os/\AllBare s'.gens/\Heap.FlyingW B outer ea cls a0 s'.heap /\
 (∀b o,s.heap.get? b=some o->H b=none->b∉frs outer->B.get? b=some o)/\HOk P w H' B/\Same H H'/\(∀b o,s.heap.get? b=some o->H b=none->H' b=none)/\(∀b o,s.heap.get? b=some o->b∈frs outer->∃sl,s'.heap.get? b=some { o with slots:=sl })/\E cls none H'
section
variable{P:Program}{w:World}{K:PySem.W.Frag}{mg:Str->Option Value}{base:Heap}{N:List Str}{qual:Str}{scope:Scope}{f:Addr}{cd:Value}{A:Around}{outer:List Env}{s:Shared}{H:Hp}{E:XK}
end
end L2
namespace L2
open PySem PySem.Spec PySem.W PyProof.Rows PySem.Calls PySem.Builtin PySem.Builtin.ObjectAttr PySem.Builtin.Getset_descriptor
def ZiA(e:Addr)(C:Value)(hp:Heap):Prop:=∃o:Obj,hp.get? e=some o/\o.cls=C
structure ExCls(K:PySem.W.Frag)(C:Addr):Prop where
 ex:excIn K C bmV "ValueError.__new__" = true
 ga:findIn K (.ref C) "__getattribute__" = some (some (.builtin "BaseException.__getattribute__"))
 mb:mroIn K C (.type "BaseException")=some true
 gt:findIn K (.ref C) "__getattr__" = some none
 ca:findIn K (.ref C) "__class__" = some (some (.builtin "object.__class__"))
 cg:specialIn K (.builtin "object.__class__") "__get__" = some (some (.builtin "getset_descriptor.__get__"))
 ct:takesIn K (.builtin "object.__class__")=some true
 mo:mroIn K C (.type "object")=some true
 cl:(clsIn K C).isSome=true
section
variable{P:Program}{w:World}{A:Around}{E:Value->Shared->Prop}{s:Shared}{K:PySem.W.Frag}{e C:Addr}
end
end L2
namespace L2
open PySem PySem.Spec PySem.W PyProof.Rows
theorem ObjOk.there{P:Program}{w:World}{H:Hp}{hp:Heap}{a:Addr}{o:HO}(x:ObjOk P w H hp a o):∃u,hp.get? a=some u:=by
 cases o with
 |lst xs=>obtain⟨_,_,_,_,e⟩:=x;exact⟨_,e⟩
 |tup xs=>obtain⟨_,_,_,ob,e,_⟩:=x;exact⟨_,e⟩
 |dK kvs=>obtain⟨_,_,_,_,o,_,_,e,_⟩:=x;exact⟨_,e⟩
 |dT kvs=>obtain⟨_,_,_,_,o,_,_,e,_⟩:=x;exact⟨_,e⟩
 |set S n=>obtain⟨o,_,_,_,e,_⟩:=x;exact⟨_,e⟩
 |ins C dx fs=>obtain⟨_,_,_,e,_⟩:=x;exact⟨_,e⟩
 |own y=>exact x
 |xd fs=>obtain⟨_,⟨_,_,_,e,_⟩,_⟩:=x;exact⟨_,e⟩
 |rng lo hi=>obtain⟨_,_,_,e⟩:=x;exact⟨_,e⟩
 |frz ob u=>obtain⟨e,_⟩:=x;exact⟨_,e⟩
 |tbl ps=>exact⟨_,x⟩
 |met f y=>exact⟨_,x⟩
 |ext φ=>exact x.2.1
section
variable{X:Cx}{pins:List (Addr×Obj)}{σ:St}{H H':Hp}{s s':Shared}{B hp:Heap}{ea:Addr}{C:Value}
end
section
variable{X:Cx}{E:XK}
end
end L2
namespace L2
open PySem PySem.Spec PySem.W PyProof.Rows
section
variable{X:Cx}{G:Addr}{g n:Str}{i:Nat}{body suite:List Stmt}{b₀:Stmt}{gp hpos pos:Pos}{tb:XK->TS}{ts:Addr->Addr->TS}
end
end L2
namespace DL
open PySem PySem.Spec L2
def spX(cA:Kn)(n:Nat)(m:List D->Option D)(x:List D->Option String):Sp:=λvs H Q E=>spD cA n m vs H Q E \/
 ∃(av:Addr->Prop) (ds:List D) (c:String),(∀a,av a->H a≠none)/\RepL cA av H ds vs/\ds.length=n/\x ds=some c/\∀H',Same H H'->E (.ref (cA.c c)) none H'
def VX(G:Cn)(ow:List Nat)(E:XK)(ts:TS)(χ:Env->Option String):Prop:=
 ∀H0 av A σ H δ,ER G ow H0 av A σ H δ->∀c,χ δ=some c->(∀H',Same H0 H'->E (.ref (G.1.c c)) none H')->∀De:Ends,ts De σ H
section
variable{cA:Kn}{G:Cn}{ow ow1 owB owC owN:List Nat}{E:XK}
end
section
variable{P:Program}{w:World}{K:PySem.W.Frag}{mg:Str->Option Value}{base:Heap}{cA:Kn}
end
end DL
namespace DL
open PySem PySem.Spec L2
def Zkt(K:PySem.W.Frag)(cA:Kn)(v:V)(tab:List (String×Bool)):Prop:=∀c b,tab.lookup c=some b->∃cv,(∀u,RelV v u->u=cv)/\kitOne K (.ref (cA.c c)) cv=some b
inductive IsiEs(K:PySem.W.Frag)(cA:Kn):List V->List (List (String×Bool))->Prop where
 |nil:IsiEs K cA [] []
 |cons {v:V} {t:List (String×Bool)} {vs:List V} {ts:List (List (String×Bool))}:Zkt K cA v t->IsiEs K cA vs ts->IsiEs K cA (v::vs) (t::ts)
section
variable{cA:Kn}{G:Cn}{ow owB owC:List Nat}
theorem ER.none{H0 H:Hp}{av:Addr->Prop}{A:Nat->Option Addr}{σ:L2.St}{δ:Env}{i:Nat}{x:Option V}(R:ER G ow H0 av A σ H δ)(hi:ow.contains i=false)(hn:G.2 i=Option.none):ER G ow H0 av A (σ.set i x) H (δ.set i Option.none):=
 ⟨R.same,R.avd,R.fr,R.inj,R.live,R.dom,R.dom',by rw [List.length_set,List.length_set];exact R.len,R.pin,(λj v' e=>by
   have q:j≠i:=λz=>by rw [z,hn]at e;cases e
   rw [List.getElem?_set_ne (Ne.symm q)];exact R.kept j v' e),λj d e=>by
   have hj:j≠i:=by
    intro z;subst z
    by_cases hl:j<δ.length
    · rw [List.getElem?_set_self hl]at e;cases e
    · rw [List.getElem?_eq_none (by rw [List.length_set];omega)]at e;cases e
   rw [List.getElem?_set_ne (Ne.symm hj)]at e;obtain⟨v,h1,h2⟩:=R.var j d e;exact⟨v,by rw [List.getElem?_set_ne (Ne.symm hj)];exact h1,h2⟩⟩
end
end DL
namespace L2
open PySem PySem.Spec PyProof.Rows
section
variable{X:Cx}
def ZgS(K:PySem.W.Frag):R2:=λx y H Q=>∃l b xs zs,x = .ref l/\y = .ref b/\SqL K H l xs/\SqL K H b zs/\xs.length+zs.length<=sizeLine/\∀p,H p=none->Q (.ref p) (upd H p (.lst (xs++zs)))
theorem Zf3:OpR X (binaryOp .Add) (ZgS X.K):=by
 intro pins s σ H x y v u Q I rx ry h;obtain⟨l,b,xs,zs,rfl,rfl,hH,hB,hz,q⟩:=h;cases rx;cases ry;obtain⟨its,r,pl,_⟩:=I.list hH;obtain⟨its2,r2,pl2,_⟩:=I.list hB;obtain⟨⟨c1,d1,da1,sl1⟩,n1,g1,e1,e2,e3⟩:=pl;obtain⟨⟨c2,d2,da2,sl2⟩,n2,g2,f1,f2,f3⟩:=pl2;dsimp only at e1 e2 e3 f1 f2 f3;subst e1 e2 e3 f1 f2 f3;have hl:=r.length;have hl2:=r2.length;refine concat_meets ⟨_,g1,rfl⟩ ⟨_,g2,rfl⟩ noFill_list_add seq_list_add PySem.F.slot_list_add PySem.F.entry_list_add (PySem.F.args_list_add_2 _ _) (list_addW l b its.toArray its2.toArray n1 n2 none none sl1 sl2 (by rw [List.size_toArray,List.size_toArray];omega)) ⟨g1,g2,?_⟩
 have ea:its.toArray++its2.toArray=(its++its2).toArray:=by simp
 rw [ea];exact⟨.ref _,_,I.lnew (t':=s.toks) (r.append r2) (by rw [List.length_append];omega),rfl,q _ I.fresh⟩
def ZgT(K:PySem.W.Frag):R2:=λx y H Q=>∃l k xs,x = .ref l/\y = .int k/\SqL K H l xs /\ -(2 ^ 63)<=k/\k<2 ^ 63/\xs.length*k.toNat<=sizeLine/\∀p,H p=none->Q (.ref p) (upd H p (.lst (List.replicate k.toNat xs).flatten))
theorem Zf4:OpR X (binaryOp .Mult) (ZgT X.K):=by
 intro pins s σ H x y v u Q I rx ry h;obtain⟨l,k,xs,rfl,rfl,hH,h1,h2,hz,q⟩:=h;cases rx;obtain⟨t,rfl⟩:=ry;obtain⟨its,r,pl,_⟩:=I.list hH;obtain⟨⟨c1,d1,da1,sl1⟩,n1,g1,e1,e2,e3⟩:=pl;dsimp only at e1 e2 e3;subst e1 e2 e3;have hl:=r.length;have hlen:its.toArray.size*k.toNat<=sizeLine:=by rw [List.size_toArray,<-hl];exact hz
 have hcap:¬its.toArray.size*k.toNat>(2 ^ 63-1) / 8:=by
  have:(sizeLine:Nat)<=(2 ^ 63-1) / 8:=by decide
  omega
 have hfit:¬(!Builtin.List.listFitsIndex k)=true:=by
  rw [fitsIndex_both h1 h2];exact Bool.false_ne_true
 have hlong:¬Builtin.List.listTooLong (its.toArray.size*k.toNat)=true:=by
  rw [Zes hlen];exact Bool.false_ne_true
 have hnew:List.foldl (λx1 x2=>x1++x2) #[] (List.replicate (if its.toArray.isEmpty=true then 0 else k.toNat) its.toArray)=(List.replicate k.toNat its).flatten.toArray:=by
  have f0:∀m:Nat,List.foldl (λx1 x2=>x1++x2) #[] (List.replicate m its.toArray)=(List.replicate m its).flatten.toArray:=λm=>by
   have:=Zba its m [];rw [List.nil_append]at this;exact this
  rw [f0];cases its with
  |nil=>simp
  |cons a r'=>rw [if_neg (by simp)]
 refine wpAny_binaryOp_repeat_ref (T:="list") (U:="int") (by decide) ⟨_,g1,rfl⟩ (λs'=>typeIs_int s' k t) noFill_list_mul F.fills_int_mul F.slot_int_rmul repeat_list F.slot_int_index.lookup
  (call_meets F.slot_int_rmul (typeIs_int s k t) F.entry_int_rmul (F.args_int_rmul_2 _ _) (lm_int_rmul_list_any k t l its.toArray n1 none sl1)
    ⟨g1,rfl,⟨_,g1,rfl⟩,call_meets F.slot_list_mul ⟨_,g1,rfl⟩ F.entry_list_mul (F.args_list_mul_2 _ _) (lm_list_mul_any l its.toArray n1 none sl1 k t hfit hcap hlong) ⟨g1,?_⟩⟩)
 rw [hnew];exact⟨.ref _,_,I.lnew (t':=s.toks) (r.rep k.toNat) (by rw [ZfX,Nat.mul_comm];exact hz),rfl,q _ I.fresh⟩
def QV(K:PySem.W.Frag):R2:=λx y H Q=>rI0 (λi j => .int (i+j)) x y H Q\/rAddS x y H Q\/ZgS K x y H Q
theorem Zf5:OpR X (binaryOp .Add) (QV X.K):=op_add.or (op_addS.or Zf3)
theorem YK{K:PySem.W.Frag}(hK:X.K=K:=by rfl):OpR X (binaryOp .Add) (QV K):=hK▸Zf5
def JN(K:PySem.W.Frag):R2:=λx y H Q=>rI DL.CMulW (λi j => .int (i*j)) x y H Q\/DL.rMulS x y H Q\/ZgT K x y H Q
theorem Zf6:OpR X (binaryOp .Mult) (JN X.K):=DL.op_mulW.or (DL.op_mulS.or Zf4)
theorem Yh{K:PySem.W.Frag}(hK:X.K=K:=by rfl):OpR X (binaryOp .Mult) (JN K):=hK▸Zf6
end
end L2
namespace DL
open PySem PySem.Spec L2
section
variable{cA:Kn}{G:Cn}{ow owB owC:List Nat}
theorem Zdp{i:Addr->Prop}{H:Hp}{p:Addr}{xs:List D}{vs:List V}(hi:∀a,i a->H a≠none)(hp:H p=none)(l:RepL cA i H xs vs):Rep cA i (upd H p (.lst vs)) (.lst xs) (.ref p):=by
 unfold Rep;exact⟨p,vs,rfl,λz=>(hi p z hp).elim,SqL.of ZW,l.same (ZZ hp)⟩
def addX:D->D->Option D
 | .lst a,.lst b=>if a.length+b.length<=sizeLine then some (.lst (a++b))else none
 |x,y=>addD x y
theorem YU:Xb cA (QV cA.K) addX:=λt t' i H x y vx vy d hi hx hy e Q k=>by
 have old:addD x y=some d->QV cA.K vx vy H Q:=λe=>by
  rcases(Zhm (cA:=cA) t t' i H x y vx vy d hi hx hy e Q k)with h|h|h
  · exact .inl h
  · exact .inr (.inl h)
  · obtain⟨l,b,xs,zs,e1,e2,h1,h2,h3,h4⟩:=h
    exact .inr (.inr ⟨l,b,xs,zs,e1,e2,SqL.of h1,SqL.of h2,h3,h4⟩)
 cases x with
 |lst a=>
  cases y with
  |lst b=>
   dsimp only [addX]at e
   by_cases hz:a.length+b.length<=sizeLine
   · rw [if_pos hz]at e
     cases e;obtain⟨a1,vs1,rfl,_,r1,l1⟩:=hx;obtain⟨a2,vs2,rfl,_,r2,l2⟩:=hy;exact .inr (.inr ⟨a1,a2,vs1,vs2,rfl,rfl,r1,r2,by rw [<-l1.length,<-l2.length];exact hz,λp hp=>k _ _ (ZZ hp) (Zdp hi hp (l1.append l2))⟩)
   · rw [if_neg hz]at e;cases e
  |_=>exact old e
 |_=>exact old e
theorem RepL.rep{av:Addr->Prop}{H:Hp}{xs:List D}{vs:List V}(l:RepL cA av H xs vs):∀n:Nat,RepL cA av H (List.replicate n xs).flatten (List.replicate n vs).flatten
 |0 => .nil
 |n+1=>by
  rw [List.replicate_succ,List.replicate_succ,List.flatten_cons,List.flatten_cons];exact l.append (RepL.rep l n)
def mulX:D->D->Option D
 | .int i,.int j=>if CMulW i j then some (.int (i*j))else none
 | .str a,.int n=>if n<2 ^ 63 /\ -(2 ^ 63)<=n/\a.length*n.toNat<=sizeLine then some (.str (mulL a n))else none
 | .lst a,.int n=>if n<2 ^ 63 /\ -(2 ^ 63)<=n/\a.length*n.toNat<=sizeLine then some (.lst (List.replicate n.toNat a).flatten)else none
 |_,_=>none
theorem YA:Xb cA (JN cA.K) mulX:=λt t' i H x y vx vy d hi hx hy e Q k=>by
 cases x<;>cases y<;>first|(cases e;done)|skip
 · cases(show vx=_ from hx);cases(show vy=_ from hy)
   rename_i a b;dsimp only [mulX]at e
   by_cases hz:CMulW a b
   · rw [if_pos hz]at e
     cases e;exact .inl ⟨_,_,rfl,rfl,hz,k _ H (Same.refl H) rfl⟩
   · rw [if_neg hz]at e;cases e
 · cases(show vx=_ from hx);cases(show vy=_ from hy)
   rename_i a n;dsimp only [mulX]at e
   by_cases hz:n<2 ^ 63 /\ -(2 ^ 63)<=n/\a.length*n.toNat<=sizeLine
   · rw [if_pos hz]at e
     cases e;exact .inr (.inl ⟨_,_,rfl,rfl,hz,k _ H (Same.refl H) rfl⟩)
   · rw [if_neg hz]at e;cases e
 · rename_i a n
   cases(show vy=_ from hy);dsimp only [mulX]at e
   by_cases hz:n<2 ^ 63 /\ -(2 ^ 63)<=n/\a.length*n.toNat<=sizeLine
   · rw [if_pos hz]at e
     cases e;obtain⟨a1,vs1,rfl,_,r1,l1⟩:=hx;exact .inr (.inr ⟨a1,n,vs1,rfl,rfl,r1,hz.2.1,hz.1,by rw [<-l1.length];exact hz.2.2,λp hp=>k _ _ (ZZ hp) (Zdp hi hp (l1.rep n.toNat))⟩)
   · rw [if_neg hz]at e;cases e
def YV(i:Nat)(κ ε:Env->Option D)(δ:Env):Option Out:=match ε δ with
 |some d=>match Za i δ with
  |some (.lst xs)=>match κ δ with
   |some (.int k)=>match ixN xs.length k with
    |some j=>some (.nx (δ.set i (some (.lst (xs.set j d)))))
    |none=>none
   |_=>none
  |_=>none
 |none=>none
theorem JP{te ti:TE}{q:Ql}{ε κ:Env->Option D}(i:Nat)(hi:ow.contains i=true)(h:VE G ow te .cl ε)(hk:VE G ow ti q κ):VS G ow ow owB owC (Y0 te (Zh6 (YM i) ti rSetL)) (YV i κ ε):=λH0 av A σ H δ E o e De k=>by
 unfold YV at e;cases he:ε δ with
 |none=>rw [he]at e;cases e
 |some d=>
  rw [he]at e;dsimp only at e;cases hv:Za i δ with
  |none=>rw [hv]at e;cases e
  |some x=>
   rw [hv]at e;cases x<;>first|(cases e;done)|skip
   rename_i xs;dsimp only at e;cases hq:κ δ with
   |none=>rw [hq]at e;cases e
   |some y=>
    rw [hq]at e;cases y<;>first|(cases e;done)|skip
    rename_i n;dsimp only at e;cases hj:ixN xs.length n with
    |none=>rw [hj]at e;cases e
    |some j=>
     rw [hj]at e;cases e;have hi':i∈ow:=by simpa using hi
     cases hA:A i with
     |none=>exact absurd hA (E.dom' i hi')
     |some a=>
      refine h H0 av A σ H δ E d he _ λv H1 s1 r1 => ?_
      have E1:=E.mono s1;obtain⟨v0,h1,_,h3⟩:=E1.var i _ (XO hv);obtain⟨rfl,vs,q1,q2⟩:=h3 a hA;refine⟨_,h1,hk H0 av A σ H1 δ E1 _ hq _ λy H2 s2 r2 => ?_⟩;have ey:y = .int n:=r2.any;subst ey;have E2:=E1.mono s2;have q1':=s2 _ _ q1;refine⟨a,vs,n,j,rfl,rfl,q1',by rw [<-q2.length];exact hj,k A σ _ (E2.put hA (XO hv) (λb o hb e=>by rw [ZA hb];exact e) (by rw [ZW];exact λz=>by cases z) ⟨_,ZW,?_⟩)⟩
      have ex:∀b o,¬AV av A b->H2 b=some o->upd H2 a (.lst (vs.set j v)) b=some o:=λb o nb e=>by
       rw [ZA λz=>nb (.inr ⟨i,by rw [z];exact hA⟩)];exact e
      exact(((q2.same s2).set ((RepT.r r1).same s2) j)).ext ex
end
end DL
namespace L2
open PySem PySem.W
end L2
namespace DL
open L2
theorem VX.frz{G:Cn}{ow ow1:List Nat}{E:XK}{t:TS}{χ:Env->Option String}(i:Nat)(h:VX G ow1 E t χ)(hn:G.2 i=none)(h1:sub ow1 ow=true)(h2:ow1.contains i=false)(h3:sub ow (i::ow1)=true):VX G ow E t χ:=λH0 av A σ H δ R c e k De=>
 h H0 av _ σ H δ (R.freeze i (QH h1 h2 h3) hn) c e k De
end DL
namespace L2
open PySem
end L2
namespace L2
open PySem
theorem CompSc.mk3{X:Cx}{scope:Scope}{tn:List Str}(hk:scope.kind = .function)(h:Jy [] [] scope.names [] []=true):CompSc X scope tn [] []:=by
 refine CompSc.mk' (osc:=X.env.scope) (oN:=X.N) hk rfl rfl ?_;unfold Jy at h ⊢;simp only [Bool.and_eq_true,List.all_eq_true]at h ⊢;obtain⟨⟨⟨⟨h1,h2⟩,h3⟩,h4⟩,h5⟩:=h;refine⟨⟨⟨⟨h1,h2⟩,λy hy => ?_⟩,λy hy => ?_⟩,h5⟩
 · have:=h3 y hy
   simp only [List.lookup_nil]at this;cases hb:(y.2 == NameKind.free)with
   |false=>rfl
   |true=>rw [hb]at this;simp at this
 · cases hy
end L2
namespace L2
open PySem PySem.Spec PySem.W PyProof.Rows
section
variable{X:Cx}{e:Expr}{te:TE}{pos:Pos}
inductive PJ(X:Cx):List Expr->List TE->Prop where
 |nil:PJ X [] []
 |cons {e:Expr} {es:List Expr} {t:TE} {ts:List TE}:PE X e t->PJ X es ts->PJ X (e::es) (t::ts)
end
end L2
namespace DL
open PySem PySem.Spec L2
section
variable{G:Cn}{ow:List Nat}
inductive VJ(G:Cn)(ow:List Nat):List TE->List (Env->Option D)->Prop where
 |nil:VJ G ow [] []
 |cons {t:TE} {a:Env->Option D} {ts:List TE} {as:List (Env->Option D)}:VE G ow t .cl a->VJ G ow ts as->VJ G ow (t::ts) (a::as)
end
end DL
namespace L2
open PySem PySem.Spec PySem.W PyProof.Rows
section
variable{X:Cx}{E:XK}
end
end L2
namespace DL
open PySem PySem.Spec L2
abbrev XTab:=List (String×(Nat×(List D->Option D)×(List D->Option String)))
structure MethOkX(X:Cx)(cA:Kn)(k:Nat)(m:String)(c:String)(n:Nat)(mm:List D->Option D)(xm:List D->Option String):Prop where
 ex:∃f fd ps,Cls X.K (cA.c c)/\Meth X.K (cA.c c) (Str.ofString m) f/\FnOk X.prog X.w X.K X.mg X.base (CX1 X.prog X.w) k f fd ps (spX cA n mm xm)/\Binds X.K fd ps []
def MTOkX(X:Cx)(cA:Kn)(k:Nat)(m:String):XTab->Prop
 | []=>True
 |(c,n,mm,xm)::r=>MethOkX X cA k m c n mm xm/\MTOkX X cA k m r
theorem MTOkX.get{X:Cx}{cA:Kn}{k:Nat}{m:String}:∀{tab:XTab}{c:String}{n:Nat}{mm:List D->Option D}{xm:List D->Option String},MTOkX X cA k m tab->tab.lookup c=some (n,mm,xm)->MethOkX X cA k m c n mm xm
 | [],_,_,_,_,_,h=>by simp at h
 |(c',n',mm',xm')::r,c,n,mm,xm,T,h=>by
  rw [List.lookup_cons]at h;cases hc:c == c' with
  |true=>
   rw [hc]at h;cases h;have:c=c':=eq_of_beq hc;subst this;exact T.1
  |false=>
   rw [hc]at h;exact MTOkX.get T.2 h
section
variable{X:Cx}{cA:Kn}{k:Nat}{m:String}{tab:XTab}{o e:Expr}{es:List Expr}{ta:TE}{t:TA}{pos apos:Pos}{pl:Sem Bool}{E:XK}
end
section
variable{cA:Kn}{G:Cn}{ow ow1 owB owC owN:List Nat}{E:XK}
end
end DL
namespace L2
open PySem PySem.Spec PySem.W PyProof.Rows
theorem ZaK:∀(cs:List Nat)(its:List Value),its.length=cs.length->(∀(j:Nat)(v:Value),its[j]? = some v->∃(c:Nat) (u:Tok),cs[j]? = some c/\v=Value.str ⟨#[c]⟩ u)->Vals (cs.map λc=>S [c]) its
 | [],[],_,_ => .nil
 |c::cs,[],h,_=>by simp at h
 | [],v::its,h,_=>by simp at h
 |c::cs,v::its,h,k=>by
  refine .cons ?_ (ZaK cs its (by simpa using h) λj v hj=>by simpa using k (j+1) v (by simpa using hj));obtain⟨c',u,e1,e2⟩:=k 0 v rfl;cases e1;exact⟨u,e2⟩
def ZgU(K:PySem.W.Frag):List V->Hp->VK->Prop:=λxs H Q=>Zhk K xs H Q\/∃cs,xs=[S cs]/\cs.length<=sizeLine/\∀l,H l=none->Q (.ref l) (upd H l (.lst (cs.map λc=>S [c])))
theorem JQ{X:Cx}{K:PySem.W.Frag}(hc:X.calm=true:=by rfl)(hK:X.K=K:=by rfl):Yt X (.type "list") (ZgU K):=by
 subst hK;intro pins s σ H xs us Q I r h;rcases h with h|⟨cs,rfl,hz,q⟩
 · exact Zbu pins s σ H xs us Q I r h
 · obtain⟨u,rfl,rx⟩:=Xl r
   obtain⟨t,rfl⟩:=rx;refine call_list_str (I.ok.hd hc) (tx cs) t (λh' tk acc' c' kp e hi => ?_) (by simpa using hz)
   have hv:Vals (cs.map λc=>S [c]) acc'.toList:=ZaK cs _ (by simpa using hi.1) λj v hj=>by
    obtain⟨c,u,e1,e2⟩:=hi.2 j v (by simpa using hj);exact⟨c,u,by simpa using e1,e2⟩
   exact⟨.ref s.heap.objs.size,_,I.laid (t':=tk) kp (Nat.le_refl _) (show ObjOk X.prog X.w _ h' _ (.lst _)from⟨by rw [List.length_map];exact hz,acc'.toList,c',hv,e⟩),rfl,q _ (I.hok.fresh (Nat.le_refl _))⟩
end L2
namespace DL
open PySem PySem.Spec L2
def Y5:List D->Option D
 | [.str cs]=>if cs.length<=sizeLine then some (.lst (cs.map λc => .str [c]))else none
 |ds=>ZgR ds
section
variable{G:Cn}{ow:List Nat}
theorem ZaL{cA:Kn}{av:Addr->Prop}{H:Hp}:∀cs:List Nat,RepL cA av H (cs.map λc=>D.str [c]) (cs.map λc=>S [c])
 | [] => .nil
 |c::cs => .cons rfl (ZaL cs)
theorem JR{t:TA}{q:Ql}{α:Env->Option (List D)}(hq:q = .cl\/q = .tp)(h:VA G ow t q α):VF G ow (tCB (ZgU G.1.K) t) (eCB Y5 α):=λH0 av A σ H δ E d e Q k=>by
 unfold eCB at e;cases he:α δ with
 |none=>rw [he]at e;cases e
 |some ds=>
  rw [he]at e;replace e:Y5 ds=some d:=e;unfold Y5 at e
  split at e
  · rename_i cs
    by_cases hz:cs.length<=sizeLine
    · rw [if_pos hz]at e
      cases e;refine h H0 av A σ H δ E _ he _ λvs H1 s1 r1 => ?_
      have il:Uz G.1 (AV av A) H1 [.str cs] vs:=by
       rcases hq with rfl|rfl<;>exact r1.il
      obtain⟨v,t,rfl,hx⟩:=il1 il;cases(show v=_ from hx);exact .inr ⟨cs,rfl,hz,λp hp=>k p _ _ H1 s1 hp (ZaL cs) rfl⟩
    · rw [if_neg hz]at e;cases e
  · exact h H0 av A σ H δ E _ he _ fun vs H1 s1 r1 => by
     have il:Uz G.1 (AV av A) H1 ds vs:=by
      rcases hq with rfl|rfl<;>exact r1.il
     refine .inl ?_;unfold ZgR at e
     split at e
     · rename_i xs
       cases e;obtain⟨v,t,rfl,a,ws,rfl,_,rd,l⟩:=il1 il;exact⟨a,ws,rfl,.inl rd,λp hp=>k p ws _ H1 s1 hp l rfl⟩
     · rename_i xs
       cases e;obtain⟨v,t,rfl,a,ws,rfl,_,rd,l⟩:=il1 il;exact⟨a,ws,rfl,.inr (SqT.of rd),λp hp=>k p ws _ H1 s1 hp l rfl⟩
     · cases e
end
end DL
namespace L2
open PySem PySem.Spec PySem.W PyProof.Rows
structure RoomE(k:Nat)(A:Around):Prop where
 dp:A.depth+3*k+5<recursionLimit
 un:A.units+16*k+200<cLine
structure FnOkE(P:Program)(w:World)(K:PySem.W.Frag)(mg:Str->Option Value)(base:Heap)(k:Nat)(f:Addr)(fd:FuncData)(ps:List Str)(sp:List V->Hp->VK->Prop):Prop where
 len:∀vs H Q,sp vs H Q->vs.length=ps.length
 run:∀(A:Around)(outer:List PySem.Env)(s:Shared)(H:Hp)(args:Args)(us:List Value)(vs:List V)(Q:VK),RoomE k A->Env0 P w K mg base A outer s H->BindsTo s fd args (ps.zip us)->Vals vs us->sp vs H Q ->
  codeAny (model P w) A (.call (.ref f) args) (CR CX0 outer P w H s Q E0) s
end L2
namespace DL
open PySem PySem.Spec L2
def Zhr(K:PySem.W.Frag)(cA:Kn)(i:Nat)(mk:Addr->Addr->TE)(tab:List (String×Bool)):Prop:=∀(c:String)(b:Bool)(ea:Addr)(σ:L2.St)(H:Hp)(Q:VK),ExCls K (cA.c c)->tab.lookup c=some b->σ[i]? = some (some (.ref ea))->H ea=some (.ext (ZiA ea (.ref (cA.c c))))->(∀H',Same H H'->Q (.bl b) H')->mk (cA.c c) ea σ H Q
inductive Items(K:PySem.W.Frag)(cA:Kn)(i:Nat):List (Addr->Addr->TE)->List (List (String×Bool))->Prop where
 |nil:Items K cA i [] []
 |cons {m:Addr->Addr->TE} {t:List (String×Bool)} {ms:List (Addr->Addr->TE)} {ts:List (List (String×Bool))}:Zhr K cA i m t->Items K cA i ms ts->Items K cA i (m::ms) (t::ts)
section
variable{cA:Kn}{G:Cn}{ow owB owC:List Nat}
end
end DL
namespace L2
open PySem PySem.Spec PyProof.Rows
section
variable{X:Cx}{elts:List Expr}{x1:Nat}{tpos:Pos}
end
end L2
namespace DL
open PySem PySem.Spec L2
def Ym:List D->List D->List D
 |x::xs,y::ys => .tup [x,y]::Ym xs ys
 |_,_=>[]
theorem JS:∀xs ys:List D,(Ym xs ys).length=min xs.length ys.length
 | [],_=>by simp [Ym]
 |_::_,[]=>by simp [Ym]
 |x::xs,y::ys=>by rw [Ym,List.length_cons,List.length_cons,List.length_cons,JS xs ys];omega
theorem Zcd:∀(xs ys:List D)(i:Nat)(x y:D),xs[i]? = some x->ys[i]? = some y->(Ym xs ys)[i]? = some (.tup [x,y])
 | [],_,i,x,y,h,_=>by simp at h
 |_::_,[],i,x,y,_,h=>by simp at h
 |x0::xs,y0::ys,0,x,y,h1,h2=>by simp at h1 h2;rw [h1,h2];rfl
 |x0::xs,y0::ys,i+1,x,y,h1,h2=>by
  rw [Ym,List.getElem?_cons_succ];exact Zcd xs ys i x y (by simpa using h1) (by simpa using h2)
section
variable{cA:Kn}{G:Cn}{ow:List Nat}
end
end DL
namespace DL
open PySem PySem.Spec L2
def mat(rows:List (List D)):D := .lst (rows.map D.lst)
structure Mx(H:Hp)(a:Addr)(bs:List Addr)(rows:List (List D)):Prop where
 top:H a=some (.lst (bs.map V.ref))
 len:bs.length=rows.length
 nd:bs.Nodup
 na:a∉bs
 row:∀(k:Nat)(b:Addr)(r:List D),bs[k]? = some b->rows[k]? = some r->H b=some (.lst (r.map val))
 sc:∀r∈rows,r.all ZD=true
section
variable{H H':Hp}{a:Addr}{bs:List Addr}{rows:List (List D)}
theorem Mx.mem(M:Mx H a bs rows){b:Addr}(h:b∈bs):∃r∈rows,H b=some (.lst (r.map val)):=by
 obtain⟨k,hk,e⟩:=List.mem_iff_getElem.mp h;have hk2:k<rows.length:=by rw [<-M.len];exact hk
 exact⟨rows[k],List.getElem_mem hk2,M.row k b _ (by rw [List.getElem?_eq_getElem hk,e]) (List.getElem?_eq_getElem hk2)⟩
theorem Mx.there(M:Mx H a bs rows){x:Addr}(h:x∈a::bs):∃vs,H x=some (.lst vs):=by
 rcases List.mem_cons.mp h with rfl|h
 · exact⟨_,M.top⟩
 · obtain⟨r,_,e⟩:=M.mem h
   exact⟨_,e⟩
theorem Mx.mono(M:Mx H a bs rows)(k:Same H H'):Mx H' a bs rows:=⟨k _ _ M.top,M.len,M.nd,M.na,λn b r h1 h2=>k _ _ (M.row n b r h1 h2),M.sc⟩
theorem Mx.rep{cA:Kn}{av:Addr->Prop}(M:Mx H a bs rows)(hn:∀x∈a::bs,¬av x):Rep cA av H (mat rows) (.ref a):=by
 have go:∀(bs:List Addr)(rows:List (List D)),bs.length=rows.length->(∀x∈bs,¬av x)->(∀(k:Nat)(b:Addr)(r:List D),bs[k]? = some b->rows[k]? = some r->H b=some (.lst (r.map val)))->(∀r∈rows,r.all ZD=true)->RepL cA av H (rows.map D.lst) (bs.map V.ref):=by
  intro bs
  induction bs with
  |nil=>
   intro rows hl _ _ _;cases rows with
   |nil=>exact .nil
   |cons _ _=>simp at hl
  |cons b bs ih=>
   intro rows hl hn hr hs;cases rows with
   |nil=>simp at hl
   |cons r rows=>
    refine .cons ?_ (ih rows (by simpa using hl) (λx hx=>hn x (List.mem_cons_of_mem _ hx)) (λk b r h1 h2=>hr (k+1) b r (by simpa using h1) (by simpa using h2)) λr hr=>hs r (List.mem_cons_of_mem _ hr));unfold Rep;exact⟨b,r.map val,rfl,λz=>(hn b List.mem_cons_self z).elim,SqL.of (hr 0 b r rfl rfl),.of_vals (hs r List.mem_cons_self)⟩
 unfold mat Rep;exact⟨a,bs.map V.ref,rfl,λz=>(hn a List.mem_cons_self z).elim,SqL.of M.top,go bs rows M.len (λx hx=>hn x (List.mem_cons_of_mem _ hx)) M.row M.sc⟩
end
open Classical in
noncomputable def ovl(H0 H:Hp)(F:List Addr):Hp:=λx=>if x∈F then H x else H0 x
theorem XW{H0 H:Hp}{F:List Addr}{x:Addr}(h:x∈F):ovl H0 H F x=H x:=if_pos h
theorem YF{H0 H:Hp}{F:List Addr}{x:Addr}(h:x∉F):ovl H0 H F x=H0 x:=if_neg h
abbrev Cn.keep(G:Cn)(i:Nat)(v:V):Cn:=⟨G.1,λj=>if j=i then some (.inr v)else G.2 j⟩
abbrev avF(av:Addr->Prop)(F:List Addr):Addr->Prop:=λx=>av x\/x∈F
def PinOk(G:Cn)(i:Nat)(σ:L2.St):Prop:=∀z,G.2 i=some z->∃v,z = .inr v/\σ[i]? = some (some v)
theorem PinOk.none{G:Cn}{i:Nat}{σ:L2.St}(h:G.2 i=Option.none):PinOk G i σ:=λz e=>by rw [h]at e;cases e
theorem PinOk.set{G:Cn}{i k:Nat}{σ:L2.St}{x:Option V}(h:PinOk G i σ)(hk:k≠i):PinOk G i (σ.set k x):=λz e=>by
 obtain⟨v,h1,h2⟩:=h z e;exact⟨v,h1,by rw [List.getElem?_set_ne hk];exact h2⟩
structure MR(G:Cn)(ow:List Nat)(i:Nat)(H0:Hp)(av:Addr->Prop)(A:Nat->Option Addr)(σ:L2.St)(H:Hp)(δ:Env):Prop where
 ni:i∉ow
 nn:PinOk G i σ
 avd:∀x,av x->H0 x≠none
 ex:∃a bs rows,δ[i]? = some (some (mat rows))/\Mx H a bs rows/\(∀x∈a::bs,H0 x=none)/\ER (G.keep i (.ref a)) ow (ovl H0 H (a::bs)) (avF av (a::bs)) A σ H (δ.set i none)
section
variable{cA:Kn}{G:Cn}{ow owN owB owC ow1:List Nat}{i:Nat}{H0 H H':Hp}{av:Addr->Prop}{A:Nat->Option Addr}{σ:L2.St}{δ:Env}
theorem UB{j:Nat}{v:V}(h:j≠i):(G.keep i v).2 j=G.2 j:=if_neg h
theorem UC{v:V}:(G.keep i v).2 i=some (.inr v):=if_pos rfl
theorem MR.view(R:MR G ow i H0 av A σ H δ):ER G ow H0 av A σ H δ:=by
 obtain⟨a,bs,rows,hd,M,h0,E⟩:=R.ex
 have nF:∀j x,A j=some x->x∉a::bs:=λj x e z=>by
  have:=E.fr j x e;rw [XW z]at this;obtain⟨vs,q⟩:=M.there z;rw [q]at this;cases this
 have hAi:A i=none:=by
  cases q:A i with
  |none=>rfl
  |some x=>exact(R.ni (E.dom i (by rw [q];exact λz=>by cases z))).elim
 have less:∀b,AV av A b->AV (avF av (a::bs)) A b:=λb z=>z.elim (λz => .inl (.inl z)) .inr
 have hil:i<δ.length:=(List.getElem?_eq_some_iff.mp hd).1;refine⟨λb o e => ?_,R.avd,λj x e => ?_,E.inj,E.live,E.dom,E.dom',by rw [E.len,List.length_set],λj x e => ?_,λj v e => ?_,λj d e => ?_⟩
 · have nb:b∉a::bs:=λz=>by rw [h0 b z]at e;cases e
   exact E.same b o (by rw [YF nb];exact e)
 · have:=E.fr j x e
   rw [YF (nF j x e)]at this;exact this
 · have q : j ≠ i := fun z => by
    obtain⟨v,h1,_⟩:=R.nn _ (z▸e);cases h1
   exact E.pin j x (by rw [UB q];exact e)
 · by_cases q:j=i
   · obtain⟨v',h1,h2⟩:=R.nn _ (q▸e)
     cases h1;rw [q];exact h2
   · exact E.kept j v (by rw [UB q];exact e)
 · by_cases q:j=i
   · subst q
     rw [hd]at e;cases e;refine⟨.ref a,E.kept j _ UC,λ_=>M.rep λx hx z => ?_,λb z=>by rw [hAi]at z;cases z⟩;rcases z with z|⟨k,z⟩
     · exact R.avd x z (h0 x hx)
     · exact nF k x z hx
   · obtain⟨v,h1,h2,h3⟩:=E.var j d (by rw [List.getElem?_set_ne (Ne.symm q)];exact e)
     refine⟨v,h1,λz=>(h2 z).av λb z => .inl (less b z),λb z => ?_⟩;obtain⟨r1,r2⟩:=h3 b z;refine⟨r1,?_⟩;cases d with
     |lst xs=>obtain⟨vs,q1,q2⟩:=r2;exact⟨vs,q1,q2.av λb z => .inl (less b z)⟩
     |obj c ks xs=>obtain⟨dx,vs,q1,q0,q2⟩:=r2;exact⟨dx,vs,q1,q0,q2.av λb z => .inl (less b z)⟩
     |dct ks xs=>obtain⟨vs,q1,q0,q2⟩:=r2;exact⟨vs,q1,q0,q2.av λb z => .inl (less b z)⟩
     |dtt ks xs=>obtain⟨vs,q1,q0,q2⟩:=r2;exact⟨vs,q1,q0,q2.av λb z => .inl (less b z)⟩
     |_=>exact r2
theorem Zce{a:Addr}{bs:List Addr}{rows:List (List D)}(M:Mx H a bs rows)(k:Same H H'):ovl H0 H' (a::bs)=ovl H0 H (a::bs):=by
 funext x
 by_cases h:x∈a::bs
 · rw [XW h,XW h]
   obtain⟨vs,q⟩:=M.there h;rw [q,k _ _ q]
 · rw [YF h,YF h]
theorem MR.mono(R:MR G ow i H0 av A σ H δ)(k:Same H H'):MR G ow i H0 av A σ H' δ:=by
 obtain⟨a,bs,rows,hd,M,h0,E⟩:=R.ex;exact⟨R.ni,R.nn,R.avd,a,bs,rows,hd,M.mono k,h0,by rw [Zce M k];exact E.mono k⟩
theorem MR.set{k:Nat}{d:D}(R:MR G ow i H0 av A σ H δ)(hs:ZD d=true)(hk:k≠i)(hw:∀j,j∈owN ↔ j∈ow/\j≠k)(hn:G.2 k=none):MR G owN i H0 av (λj=>if j=k then none else A j) (σ.set k (some (val d))) H (δ.set k (some d)):=by
 obtain⟨a,bs,rows,hd,M,h0,E⟩:=R.ex;refine⟨λz=>R.ni ((hw i).mp z).1,R.nn.set hk,R.avd,a,bs,rows,by rw [List.getElem?_set_ne hk];exact hd,M,h0,?_⟩;rw [List.set_comm _ _ hk];exact E.set (.of_val hs) hw (by rw [UB hk];exact hn)
end
end DL
namespace DL
open PySem PySem.Spec L2
def Zhs(G:Cn)(owN owB owC:List Nat)(i:Nat)(H0:Hp)(av:Addr->Prop)(De:Ends):Out->Prop
 | .nx δ'=>∀A' σ' H',MR G owN i H0 av A' σ' H' δ'->De.nx σ' H'
 | .rt d=>∀v H',Same H0 H'->Rep G.1 av H' d v->De.rt v H'
 | .bk δ'=>∀A' σ' H',MR G owB i H0 av A' σ' H' δ'->De.bk σ' H'
 | .ct δ'=>∀A' σ' H',MR G owC i H0 av A' σ' H' δ'->De.ct σ' H'
def VM(G:Cn)(ow owN owB owC:List Nat)(i:Nat)(ts:TS)(φ:Env->Option Out):Prop:=
 ∀H0 av A σ H δ,MR G ow i H0 av A σ H δ->∀o,φ δ=some o->∀De:Ends,Zhs G owN owB owC i H0 av De o->ts De σ H
section
variable{cA:Kn}{G:Cn}{ow owN owB owC ow1:List Nat}{i:Nat}
theorem ZeA{c:TT}{tb:TS}{τ:Env->Option Bool}{φ:Env->Option Out}(hc:VT G ow c τ)(hb:VM G ow ow ow ow i tb φ):VM G ow ow owB owC i (ZcX c tb) (Z9 τ φ):=λH0 av A σ H δ E o e De k=>by
 obtain⟨n,e⟩:=Zah e;refine⟨λm σ' H'=>∃A' δ',MR G ow i H0 av A' σ' H' δ'/\Yp τ φ m δ'=some o,⟨n,A,δ,E,e⟩,?_⟩
 rintro m σ' H' ⟨A',δ',E',e'⟩
 cases m with
 |zero=>cases e'
 |succ m=>
  unfold Yp at e';cases ht:τ δ' with
  |none=>rw [ht]at e';cases e'
  |some b=>
   rw [ht]at e';refine hc H0 av A' σ' H' δ' E'.view b ht _ λH2 s2 => ?_
   have E2:=E'.mono s2;cases b with
   |false=>cases e';exact XH (k A' σ' H2 E2)
   |true=>
    dsimp only at e';refine XI ⟨λσ3 H3=>∃A3 δ3,MR G ow i H0 av A3 σ3 H3 δ3/\Yp τ φ m δ3=some o,λσ3 H3 ⟨A3,δ3,E3,e3⟩=>⟨m,Nat.lt_succ_self _,A3,δ3,E3,e3⟩,?_⟩;cases hφ:φ δ' with
    |none=>rw [hφ]at e';cases e'
    |some o1=>
     rw [hφ]at e';refine hb H0 av A' σ' H2 δ' E2 o1 hφ _ ?_;cases o1 with
     |nx δ2=>exact λA4 σ4 H4 E4=>⟨A4,δ2,E4,e'⟩
     |ct δ2=>exact λA4 σ4 H4 E4=>⟨A4,δ2,E4,e'⟩
     |bk δ2=>cases e';exact k
     |rt d=>cases e';exact k
def UY(i:Nat)(φ:Env->Option Out)(δ:Env):Option Out:=match φ (δ.set i none)with
 |some (.nx δ')=>match δ'[i]? with
  |some none=>some (.nx (δ'.set i ((δ[i]?).getD none)))
  |_=>none
 |some (.rt d)=>some (.rt d)
 |_=>none
theorem Zf7{t:TS}{φ:Env->Option Out}(h:∀v,VS (G.keep i v) ow owN [] [] t φ)(ho:owN.contains i=false):VM G ow owN owB owC i t (UY i φ):=λH0 av A σ H δ R o e De k=>by
 obtain⟨a,bs,rows,hd,M,h0,E⟩:=R.ex;unfold UY at e;cases hp:φ (δ.set i none)with
 |none=>rw [hp]at e;cases e
 |some o1=>
  rw [hp]at e;refine h (.ref a) _ _ A σ H _ E o1 hp De ?_;cases o1 with
  |nx δ1=>
   dsimp only at e;intro A' σ' H' E';have hs:Same (ovl H0 H (a::bs)) H':=E'.same
   have hF:∀x∈a::bs,H' x=H x:=λx hx=>by
    obtain⟨vs,q⟩:=M.there hx;rw [q];exact hs x _ (by rw [XW hx];exact q)
   cases hi:δ1[i]? with
   |none=>rw [hi]at e;cases e
   |some z=>
    rw [hi]at e;cases z with
    |some y=>cases e
    |none=>
     dsimp only at e;rw [hd]at e;have e:some (Out.nx (δ1.set i (some (mat rows))))=some o:=e;cases e;have hil:i<δ1.length:=(List.getElem?_eq_some_iff.mp hi).1;have M':Mx H' a bs rows:=⟨(hF a List.mem_cons_self).trans M.top,M.len,M.nd,M.na,λk b r h1 h2=>(hF b (List.mem_cons_of_mem _ (List.mem_of_getElem? h1))).trans (M.row k b r h1 h2),M.sc⟩
     have eo:ovl H0 H' (a::bs)=ovl H0 H (a::bs):=by
      funext x
      by_cases hx:x∈a::bs
      · rw [XW hx,XW hx,hF x hx]
      · rw [YF hx,YF hx]
     have es:(δ1.set i (some (mat rows))).set i none=δ1:=by
      rw [List.set_set];apply List.ext_getElem?;intro j
      by_cases hj:j=i
      · subst hj
        rw [List.getElem?_set_self hil,hi]
      · rw [List.getElem?_set_ne (Ne.symm hj)]
     exact k A' σ' H' ⟨by simpa using ho,(λz e=>by
      obtain⟨v,h1,h2⟩:=R.nn z e;have h3:=E.kept i _ UC;rw [h2]at h3;cases h3;exact⟨_,h1,E'.kept i _ UC⟩),R.avd,a,bs,rows,List.getElem?_set_self hil,M',h0,by rw [eo,es];exact E'⟩
  |rt d=>
   cases e;intro v H' s r;refine k v H' (λb o q=>s b o ?_) (r.av λb z => .inl (.inl z));have nb:b∉a::bs:=λz=>by rw [h0 b z]at q;cases q
   rw [YF nb];exact q
  |bk δ1=>cases e
  |ct δ1=>cases e
end
end DL
namespace DL
open PySem PySem.Spec L2
theorem ZbB{α:Type}{xs:List α}{n:Int}{j:Nat}{x:α}(h:ixN xs.length n=some j)(hx:xs[j]? = some x):atI xs n=some x:=by
 unfold atI;rw [h];exact hx
section
variable{H:Hp}{a b:Addr}{bs:List Addr}{rows:List (List D)}{j:Nat}{r r':List D}
theorem Mx.at(M:Mx H a bs rows)(hr:rows[j]? = some r):∃b,bs[j]? = some b/\H b=some (.lst (r.map val)):=by
 have hjl:j<bs.length:=by rw [M.len];exact(List.getElem?_eq_some_iff.mp hr).1
 exact⟨bs[j],List.getElem?_eq_getElem hjl,M.row j _ r (List.getElem?_eq_getElem hjl) hr⟩
end
section
variable{cA:Kn}{G:Cn}{ow owN owB owC ow1:List Nat}{i:Nat}
end
end DL
namespace DL
open PySem PySem.Spec L2
def VFM(G:Cn)(ow:List Nat)(te:TE)(ε:Env->Option D):Prop:=
 ∀H0 av A σ H δ,ER G ow H0 av A σ H δ->∀d,ε δ=some d->∀Q:VK,(∀a bs rows H',Same H H'->(∀x∈a::bs,H x=none)->Mx H' a bs rows->d=mat rows->Q (.ref a) H')->te σ H Q
def UZ(i:Nat)(ε:Env->Option D)(δ:Env):Option Out:=match ε δ with
 |some d=>if i<δ.length then some (.nx (δ.set i (some d)))else none
 |none=>none
section
variable{cA:Kn}{G:Cn}{ow owN owB owC ow1:List Nat}{i:Nat}
theorem ZeB{H0 H H':Hp}{av:Addr->Prop}{A:Nat->Option Addr}{σ:L2.St}{δ:Env}{a:Addr}{bs:List Addr}{rows:List (List D)}(E:ER G ow H0 av A σ H δ)(hi:i∉ow)(hn:G.2 i=none)(hil:i<δ.length)(s:Same H H')(hf:∀x∈a::bs,H x=none)(M:Mx H' a bs rows) :
 MR G ow i H0 av A (σ.set i (some (.ref a))) H' (δ.set i (some (mat rows))):=by
 have h0:∀x∈a::bs,H0 x=none:=λx hx=>E.same.free (hf x hx)
 have nF:∀j x,A j=some x->x∉a::bs:=λj x e z=>E.live j x e (hf x z)
 have E':=E.mono s;refine⟨hi,.none hn,E.avd,a,bs,rows,List.getElem?_set_self hil,M,h0,?_⟩;rw [List.set_set];refine⟨λb o e => ?_,λx z => ?_,λj x e => ?_,E.inj,E'.live,E.dom,E.dom',by rw [List.length_set,List.length_set];exact E.len,λj x e => ?_,λj v e => ?_,λj d e => ?_⟩
 · by_cases hx:b∈a::bs
   · rw [XW hx]at e;exact e
   · rw [YF hx]at e;exact E'.same b o e
 · by_cases hx:x∈a::bs
   · rw [XW hx]
     obtain⟨vs,q⟩:=M.there hx;rw [q];exact λz=>by cases z
   · rw [YF hx]
     exact E.avd x (z.resolve_right hx)
 · rw [YF (nF j x e)]
   exact E.fr j x e
 · have q:j≠i:=λz=>by rw [z,UC]at e;cases e
   exact E.pin j x (by rw [UB q]at e;exact e)
 · by_cases q:j=i
   · subst q
     rw [UC]at e;cases e;exact List.getElem?_set_self (by rw [E.len];exact hil)
   · rw [UB q]at e
     rw [List.getElem?_set_ne (Ne.symm q)];exact E.kept j v e
 · have q : j ≠ i := fun z => by
    rw [z,List.getElem?_set_self hil]at e;cases e
   rw [List.getElem?_set_ne (Ne.symm q)]at e;obtain⟨v,h1,h2,h3⟩:=E.var j d e
   have more:∀b,AV (avF av (a::bs)) A b->AV av A b\/H b=none:=λb z=>by
    rcases z with(z|z)|z
    · exact .inl (.inl z)
    · exact .inr (hf b z)
    · exact .inl (.inr z)
   refine⟨v,by rw [List.getElem?_set_ne (Ne.symm q)];exact h1,λz=>((h2 z).av more).same s,λb z => ?_⟩;obtain⟨r1,r2⟩:=h3 b z;refine⟨r1,?_⟩;cases d with
   |lst xs=>obtain⟨vs,q1,q2⟩:=r2;exact⟨vs,s _ _ q1,(q2.av more).same s⟩
   |obj c ks xs=>obtain⟨dx,vs,q1,q0,q2⟩:=r2;exact⟨dx,vs,s _ _ q1,q0,(q2.av more).same s⟩
   |dct ks xs=>obtain⟨vs,q1,q0,q2⟩:=r2;exact⟨vs,s _ _ q1,q0,(q2.av more).same s⟩
   |dtt ks xs=>obtain⟨vs,q1,q0,q2⟩:=r2;exact⟨vs,s _ _ q1,q0,(q2.av more).same s⟩
   |_=>exact r2
def FW(H0:Hp)(De:Ends)(d:D):Prop:=∀a bs rows H',Same H0 H'->(∀x∈a::bs,H0 x=none)->Mx H' a bs rows->d=mat rows->De.rt (.ref a) H'
def VSF(G:Cn)(ow:List Nat)(ts:TS)(φ:Env->Option Out):Prop:=∀H0 av A σ H δ,ER G ow H0 av A σ H δ->∀d,φ δ=some (.rt d)->∀De:Ends,FW H0 De d->ts De σ H
def VMF(G:Cn)(ow:List Nat)(i:Nat)(ts:TS)(φ:Env->Option Out):Prop:=∀H0 av A σ H δ,MR G ow i H0 av A σ H δ->∀d,φ δ=some (.rt d)->∀De:Ends,FW H0 De d->ts De σ H
def Xw(φ ψ:Env->Option Out)(δ:Env):Option Out:=match φ δ with
 |some (.nx δ')=>ψ δ'
 |_=>none
theorem Zf8:VMF G ow i (X5 (YM i)) (Zq (Za i)):=λH0 av A σ H δ R d e De k=>by
 obtain⟨a,bs,rows,hd,M,h0,E⟩:=R.ex;have e2:Za i δ=some (mat rows):=by unfold Za;rw [hd]
 unfold Zq at e;rw [e2]at e;cases e;exact⟨.ref a,E.kept i _ UC,k a bs rows H R.view.same h0 M rfl⟩
theorem Zdq{t u:TS}{φ ψ:Env->Option Out}(h1:VM G ow ow1 [] [] i t φ)(h2:VMF G ow1 i u ψ):VMF G ow i (Yn t u) (Xw φ ψ):=λH0 av A σ H δ R d e De k=>by
 unfold Xw at e
 split at e
 · rename_i δ' hp
   exact h1 H0 av A σ H δ R _ hp _ λA' σ' H' R'=>h2 H0 av A' σ' H' δ' R' d e De k
 · cases e
theorem Zf9{te:TE}{u:TS}{ε:Env->Option D}{ψ:Env->Option Out}(i:Nat)(hi:ow.contains i=false)(hn:G.2 i=none)(h1:VFM G ow te ε)(h2:VMF G ow i u ψ):VSF G ow (Yn (Y0 te (YN i)) u) (Xw (UZ i ε) ψ):=λH0 av A σ H δ E d e De k=>by
 unfold Xw UZ at e;cases he:ε δ with
 |none=>rw [he]at e;cases e
 |some d'=>
  rw [he]at e;dsimp only at e
  by_cases hil:i<δ.length
  · rw [if_pos hil]at e
    dsimp only at e;refine h1 H0 av A σ H δ E d' he _ λa bs rows H' s hf M hd => ?_
    subst hd;exact h2 H0 av A _ H' _ (ZeB E (by simpa using hi) hn hil s hf M) d e De k
  · rw [if_neg hil]at e;cases e
def Y6(N:Nat)(φ:Env->Option Out)(ds:List D):Option D:=match φ (ds.map some++List.replicate (N-ds.length) none)with
 |some (.rt d)=>some d
 |_=>none
def spM(cA:Kn)(n:Nat)(m:List D->Option D):Sp:=λvs H Q _=>∃av ds d,(∀a,av a->H a≠none)/\RepL cA av H ds vs/\ds.length=n/\m ds=some d/\∀a bs rows H',Same H H'->(∀x∈a::bs,H x=none)->Mx H' a bs rows->d=mat rows->Q (.ref a) H'
theorem ZeC{n:Nat}{m:List D->Option D}{t:TA}{q:Ql}{α:Env->Option (List D)}{E0:XK}(dds:List D)(hd:dds.all ZD=true)(h:VA G ow t q α):VFM G ow (Uw (spM G.1 n m) (dds.map val) E0 t) (Zo n m dds α):=λH0 av A σ H δ E d e Q k=>by
 unfold Zo at e;cases he:α δ with
 |none=>rw [he]at e;cases e
 |some ds=>
  rw [he]at e;dsimp only at e
  by_cases hz:(ds++dds).length=n
  · rw [if_pos hz]at e
    refine h H0 av A σ H δ E ds he _ λvs H1 s1 r1 => ?_
    exact⟨av,ds++dds,d,(E.mono s1).avH,r1.any.append (.of_vals hd),hz,e,λa bs rows H' s hf M hd=>k a bs rows H' (s1.trans s) (λx hx=>s1.free (hf x hx)) M hd⟩
  · rw [if_neg hz]at e;cases e
theorem VFM.cl{te:TE}{ε:Env->Option D}(h:VFM G ow te ε):VE G ow te .cl ε:=λH0 av A σ H δ E d e Q k=>
 h H0 av A σ H δ E d e Q λa bs rows H' s hf M hd=>by
  subst hd;exact k _ H' s (M.rep λx hx z=>E.avl x z (hf x hx)).t
def Yq:D->D->Option D
 | .lst a,.int n=>mulX (.lst a) (.int n)
 |_,_=>none
theorem U0{ta tb:TE}{q:Ql}{a b:Env->Option D}(ha:VE G ow ta .cl a)(hb:VE G ow tb q b):VF G ow (tOp (JN G.1.K) ta tb) (eOp Yq a b):=λH0 av A σ H δ E d e Q k=>by
 obtain⟨x,y,ex,ey,ed⟩:=Zca e;unfold Yq at ed
 split at ed
 · rename_i xs n
   unfold mulX at ed;dsimp only at ed
   by_cases hz:n<2 ^ 63 /\ -(2 ^ 63)<=n/\xs.length*n.toNat<=sizeLine
   · rw [if_pos hz]at ed
     cases ed;refine ha H0 av A σ H δ E _ ex _ λv H1 s1 r1=>hb H0 av A σ H1 δ (E.mono s1) _ ey _ λw H2 s2 r2 => ?_
     have ew:w = .int n:=r2.any;subst ew;obtain⟨a1,vs1,rfl,na,rd,l1⟩:=r1;refine .inr (.inr ⟨a1,n,vs1,rfl,rfl,s2.seq rd,hz.2.1,hz.1,by rw [<-l1.length];exact hz.2.2,λp hp=>k p _ _ H2 (s1.trans s2) hp ((l1.same s2).rep n.toNat) rfl⟩)
   · rw [if_neg hz]at ed;cases ed
 · cases ed
end
section
variable{P:Program}{w:World}{K:PySem.W.Frag}{mg:Str->Option Value}{base:Heap}{cA:Kn}
theorem ZiB {x qual:Str} {st:Stmt} {f:Addr} {fd:FuncData} {N ps:List Str} {k:Nat} {φ:Env->Option Out} {body:List Stmt} {scope:Scope} {n:Nat} {m:List D->Option D} (F:FunX K x qual st f fd) (S:FnScope N ps (defScope st)) (hS:defScope st=scope) (hB:defBody st=body)
 (hbody:∀(cdv:Value)(A:Around)(outer:List PySem.Env)(s:Shared)(H:Hp)(E:XK),Room k (A.deeper (PyProof.Rows.envOfC qual scope s.heap.objs.size f cdv)) ->
   ∃t,PSs (Xa CX0 P w K mg base N qual scope f cdv A outer s H E).nox body t/\VSF ⟨cA,λ_=>none⟩ [] t φ) (hm:m=Y6 N.length φ) (hn:ps.length=n):FnOk P w K mg base CX0 (k+1) f fd ps (spM cA n m):=by
 subst hS hB hm hn;refine F.ok S (λvs H Q E h => ?_) λcdv A outer s H vs Q E hr h => ?_
 · obtain⟨av,ds,d,_,r,hl,_⟩:=h
   rw [<-r.length,hl]
 · obtain⟨av,ds,d,ha,r,hl,hm,q⟩:=h
   obtain⟨t,ht,hv⟩:=hbody cdv A outer s H E hr;refine⟨t,ht,?_⟩;unfold Y6 at hm
   split at hm
   · rename_i d' hφ
     cases hm;exact hv H av _ _ H _ (QM ha r) _ hφ _ λa bs rows H' s' hf M hd=>q a bs rows H' s' hf M hd
   · cases hm
end
end DL
namespace DL
open PySem PySem.Spec L2
def Ug:List D->Option (List (List D))
 | []=>some []
 | .lst r::xs=>if r.all ZD=true then(match Ug xs with
  |some rs=>some (r::rs)
  |none=>none)else none
 |_::_=>none
theorem Zaz:∀{xs:List D}{rs:List (List D)},Ug xs=some rs->xs=rs.map D.lst/\∀r∈rs,r.all ZD=true
 | [],rs,h=>by
  cases h;exact⟨rfl,λr z=>by cases z⟩
 |x::xs,rs,h=>by
  unfold Ug at h
  split at h
  · cases ‹_::_=[]›
  · rename_i r ys he
    cases he
    by_cases hr:r.all ZD=true
    · rw [if_pos hr]at h
      cases hq:Ug xs with
      |none=>rw [hq]at h;cases h
      |some rs'=>
       rw [hq]at h;cases h;obtain⟨h1,h2⟩:=Zaz hq;refine⟨by rw [List.map_cons,<-h1],λr' hr' => ?_⟩;rcases List.mem_cons.mp hr' with rfl|z
       · exact hr
       · exact h2 r' z
    · rw [if_neg hr]at h;cases h
  · cases h
def U1(ε:Env->Option D)(δ:Env):Option D:=match ε δ with
 |some (.lst xs)=>match Ug xs with
  |some _=>some (.lst xs)
  |none=>none
 |_=>none
section
variable{cA:Kn}{G:Cn}{ow:List Nat}
structure RowsAt(H0 H:Hp)(bs:List Addr)(rows:List (List D)):Prop where
 len:bs.length=rows.length
 nd:bs.Nodup
 row:∀(k:Nat)(b:Addr)(r:List D),bs[k]? = some b->rows[k]? = some r->H b=some (.lst (r.map val))
 fr:∀b∈bs,H0 b=none
 sc:∀r∈rows,r.all ZD=true
theorem RowsAt.same{H0 H H':Hp}{bs:List Addr}{rows:List (List D)}(R:RowsAt H0 H bs rows)(s:Same H H'):RowsAt H0 H' bs rows:=⟨R.len,R.nd,λk b r h1 h2=>s _ _ (R.row k b r h1 h2),R.fr,R.sc⟩
end
end DL
namespace DL
open PySem PySem.Spec L2
def FL(cA:Kn)(H0:Hp)(av:Addr->Prop)(De:Ends)(d:D):Prop:=∀p vs xs H',Same H0 H'->H0 p=none->H' p=some (.lst vs)->RepL cA (λx=>av x\/x=p) H' xs vs->d = .lst xs->De.rt (.ref p) H'
def VSL(G:Cn)(ow:List Nat)(ts:TS)(φ:Env->Option Out):Prop:=∀H0 av A σ H δ,ER G ow H0 av A σ H δ->∀d,φ δ=some (.rt d)->∀De:Ends,FL G.1 H0 av De d->ts De σ H
section
variable{cA:Kn}{G:Cn}{ow owN owB owC ow1:List Nat}{i:Nat}
theorem Zcf{te:TE}{ε:Env->Option D}(h:VF G ow te ε):VSL G ow (X5 te) (Zq ε):=λH0 av A σ H δ E d e De k=>by
 unfold Zq at e;cases he:ε δ with
 |none=>rw [he]at e;cases e
 |some d'=>
  rw [he]at e;cases e;refine h H0 av A σ H δ E _ he _ λp vs xs H1 s hp l hd => ?_
  refine k p vs xs _ ((E.same.trans s).trans (ZZ hp)) (E.same.free (s.free hp)) ZW (((l.av λb z => ?_)).same (ZZ hp)) hd;rcases z with z|z
  · exact .inl (.inl z)
  · rw [z];exact .inr hp
def spL(cA:Kn)(n:Nat)(m:List D->Option D):Sp:=λvs H Q _=>∃av ds d,(∀a,av a->H a≠none)/\RepL cA av H ds vs/\ds.length=n/\m ds=some d/\∀p vs xs H',Same H H'->H p=none->H' p=some (.lst vs)->RepL cA (λx=>av x\/x=p) H' xs vs->d = .lst xs->Q (.ref p) H'
open Classical in
theorem Zcg{n:Nat}{m:List D->Option D}{t:TA}{α:Env->Option (List D)}{E0:XK}(dds:List D)(hd:dds.all ZD=true)(h:VA G ow t .cl α):VF G ow (Uw (spL G.1 n m) (dds.map val) E0 t) (Zo n m dds α):=λH0 av A σ H δ E d e Q k=>by
 unfold Zo at e;cases he:α δ with
 |none=>rw [he]at e;cases e
 |some ds=>
  rw [he]at e;dsimp only at e
  by_cases hz:(ds++dds).length=n
  · rw [if_pos hz]at e
    refine h H0 av A σ H δ E ds he _ λvs H1 s1 r1 => ?_
    have E1:=E.mono s1;refine⟨AV av A,ds++dds,d,E1.avl,r1.cl.append (.of_vals hd),hz,e,λp ws xs H' s hp hH' l hd => ?_⟩
    have eu:upd (λx=>if x=p then none else H' x) p (.lst ws)=H':=by
     funext x
     by_cases hx:x=p
     · subst hx;rw [ZW,hH']
     · rw [ZA hx,if_neg hx]
    have:=k p ws xs (λx=>if x=p then none else H' x) (λb o q => ?_) (if_pos rfl) ((l.ext λb o n q => ?_).av λb z => .inl (.inl z)) hd
    · rw [eu]at this
      exact this
    · have hb:b≠p:=λz=>by rw [z]at q;rw [s1.free hp]at q;cases q
      show(if b=p then none else H' b)=some o;rw [if_neg hb];exact s b o (s1 b o q)
    · have hb:b≠p:=λz=>n (.inr z)
      show(if b=p then none else H' b)=some o;rw [if_neg hb];exact q
  · rw [if_neg hz]at e;cases e
end
section
variable{P:Program}{w:World}{K:PySem.W.Frag}{mg:Str->Option Value}{base:Heap}{cA:Kn}
theorem ZiC {x qual:Str} {st:Stmt} {f:Addr} {fd:FuncData} {N ps:List Str} {k:Nat} {φ:Env->Option Out} {body:List Stmt} {scope:Scope} {n:Nat} {m:List D->Option D} (F:FunX K x qual st f fd) (S:FnScope N ps (defScope st)) (hS:defScope st=scope) (hB:defBody st=body)
 (hbody:∀(cdv:Value)(A:Around)(outer:List PySem.Env)(s:Shared)(H:Hp)(E:XK),Room k (A.deeper (PyProof.Rows.envOfC qual scope s.heap.objs.size f cdv)) ->
   ∃t,PSs (Xa CX0 P w K mg base N qual scope f cdv A outer s H E).nox body t/\VSL ⟨cA,λ_=>none⟩ [] t φ) (hm:m=Y6 N.length φ) (hn:ps.length=n):FnOk P w K mg base CX0 (k+1) f fd ps (spL cA n m):=by
 subst hS hB hm hn;refine F.ok S (λvs H Q E h => ?_) λcdv A outer s H vs Q E hr h => ?_
 · obtain⟨av,ds,d,_,r,hl,_⟩:=h
   rw [<-r.length,hl]
 · obtain⟨av,ds,d,ha,r,hl,hm,q⟩:=h
   obtain⟨t,ht,hv⟩:=hbody cdv A outer s H E hr;refine⟨t,ht,?_⟩;unfold Y6 at hm
   split at hm
   · rename_i d' hφ
     cases hm;exact hv H av _ _ H _ (QM ha r) _ hφ _ λp vs xs H' s' h0 hp l hd=>q p vs xs H' s' h0 hp l hd
   · cases hm
end
end DL
namespace L2
open PySem PySem.Spec PySem.W PyProof.Rows
end L2
namespace DL
open PySem PySem.Spec L2
section
variable{cA:Kn}{G:Cn}{ow owN owB owC ow1:List Nat}{i:Nat}
theorem MR.own{H0 H:Hp}{av:Addr->Prop}{A:Nat->Option Addr}{σ:L2.St}{δ:Env}{k:Nat}{xs:List D}{p:Addr}(R:MR G ow i H0 av A σ H δ)(hs:xs.all ZD=true)(hp:H p=none)(hk:k≠i)(hw:∀j,j∈ow1 ↔ j∈ow\/j=k)(hn:G.2 k=none):MR G ow1 i H0 av (λj=>if j=k then some p else A j) (σ.set k (some (.ref p))) (upd H p (.lst (xs.map val))) (δ.set k (some (.lst xs))):=by
 obtain⟨a,bs,rows,hd,M,h0,E⟩:=R.ex;refine⟨λz=>((hw i).mp z).elim R.ni λz=>hk z.symm,R.nn.set hk,R.avd,a,bs,rows,by rw [List.getElem?_set_ne hk];exact hd,M.mono (ZZ hp),h0,?_⟩;rw [List.set_comm _ _ hk,Zce M (ZZ hp)];exact E.own hp (.of_vals hs) hw (by rw [UB hk];exact hn)
def U2(ε:Env->Option D)(δ:Env):Option D:=match ε δ with
 |some (.lst xs)=>if xs.all ZD=true then some (.lst xs)else none
 |_=>none
theorem ZbM{ε:Env->Option D}{δ:Env}{d:D}(h:U2 ε δ=some d):∃xs,ε δ=some (.lst xs)/\xs.all ZD=true/\d = .lst xs:=by
 unfold U2 at h
 split at h
 · rename_i xs hx
   by_cases hs:xs.all ZD=true
   · rw [if_pos hs]at h
     exact⟨xs,hx,hs,(Option.some.inj h).symm⟩
   · rw [if_neg hs]at h;cases h
 · cases h
theorem Zga{H0 H:Hp}{av:Addr->Prop}{A:Nat->Option Addr}{σ:L2.St}{δ:Env}(k':Nat)(hk:k'≠i)(hi:ow.contains k'=true)(hn:G.2 k'=none)(h1:sub owN ow=true)(h2:owN.contains k'=false)(h3:sub ow (k'::owN)=true)(R:MR G ow i H0 av A σ H δ){xs r:List D}(e1:Za i δ=some (.lst xs))(e2:Za k' δ=some (.lst r))(hz:xs.length<sizeLine/\r.all ZD=true) :
 ∃(a b:Addr) (bs:List Addr),σ[i]? = some (some (.ref a))/\σ[k']? = some (some (.ref b))/\H a=some (.lst (bs.map V.ref))/\bs.length<sizeLine/\upd H a (.lst (bs.map V.ref++[V.ref b])) b=some (.lst (r.map val))/\¬AV av (λj=>if j=k' then none else A j) b /\
  MR G owN i H0 av (λj=>if j=k' then none else A j) σ (upd H a (.lst (bs.map V.ref++[V.ref b]))) ((δ.set k' none).set i (some (.lst (xs++[.lst r])))):=by
 obtain⟨a,bs,rows,hd,M,h0,E⟩:=R.ex
 have ex:xs=rows.map D.lst:=by
  have:=XO e1;rw [hd]at this;cases this;rfl
 subst ex;have hw:=QH h1 h2 h3;have hi':k'∈ow:=by simpa using hi
 have hil:i<δ.length:=(List.getElem?_eq_some_iff.mp hd).1
 have nF:∀j x,A j=some x->x∉a::bs:=λj x e z=>by
  have:=E.fr j x e;rw [XW z]at this;obtain⟨vs,q⟩:=M.there z;rw [q]at this;cases this
 cases hA:A k' with
 |none=>exact absurd hA (E.dom' k' hi')
 |some b=>
  have e2':(δ.set i none)[k']? = some (some (.lst r)):=by rw [List.getElem?_set_ne (Ne.symm hk)];exact XO e2
  obtain⟨v,g1,_,g3⟩:=E.var k' _ e2';obtain⟨rfl,vs,q1,q2⟩:=g3 b hA;have ev:vs=r.map val:=q2.vals hz.2;subst ev;have hbF:b∉a::bs:=nF k' b hA;have hba:b≠a:=λz=>hbF (z▸List.mem_cons_self)
  have hbb:b∉bs:=λz=>hbF (List.mem_cons_of_mem _ z)
  refine⟨a,b,bs,E.kept i _ UC,g1,M.top,?_,by rw [ZA hba];exact q1,?_,?_⟩
  · have:=hz.1
    rw [List.length_map]at this;rw [M.len];exact this
  · rintro(z|⟨j,z⟩)
    · have hb0:=E.fr k' b hA
      rw [YF hbF]at hb0;exact R.avd b z hb0
    · by_cases q:j=k'
      · simp [q]at z
      · simp [q]at z
        exact q (E.inj j k' b z hA)
  · have hM' : Mx (upd H a (.lst (bs.map V.ref ++ [V.ref b]))) a (bs ++ [b]) (rows ++ [r]) := by
     refine⟨by rw [ZW,List.map_append];rfl,by rw [List.length_append,List.length_append,M.len];rfl,?_,?_,λn b' r' g1 g2 => ?_,λr' hr' => ?_⟩
     · rw [List.nodup_append]
       refine⟨M.nd,by simp,λx hx y hy => ?_⟩;rw [List.mem_singleton.mp hy];exact λz=>hbb (z▸hx)
     · intro z
       rcases List.mem_append.mp z with z|z
       · exact M.na z
       · exact hba (List.mem_singleton.mp z).symm
     · by_cases hn':n<bs.length
       · rw [List.getElem?_append_left hn']at g1
         rw [List.getElem?_append_left (by rw [<-M.len];exact hn')]at g2;have:b'≠a:=λz=>M.na (z▸List.mem_of_getElem? g1)
         rw [ZA this];exact M.row n b' r' g1 g2
       · rw [List.getElem?_append_right (by omega)]at g1
         rw [List.getElem?_append_right (by rw [<-M.len];omega),<-M.len]at g2
         have hnn:n-bs.length=0:=by
          by_cases z:n-bs.length=0
          · exact z
          · rw [List.getElem?_eq_none (by simp;omega)]at g1;cases g1
         rw [hnn]at g1 g2;cases g1;cases g2;rw [ZA hba];exact q1
     · rcases List.mem_append.mp hr' with z|z
       · exact M.sc r' z
       · rw [List.mem_singleton.mp z];exact hz.2
    have h0b:H0 b=none:=by
     have:=E.fr k' b hA;rw [YF hbF]at this;exact this
    have hF':∀x,x∈a::(bs++[b]) ↔ x∈a::bs\/x=b:=λx=>by simp [or_assoc]
    have em:D.lst (rows.map D.lst++[.lst r])=mat (rows++[r]):=by unfold mat;rw [List.map_append];rfl
    rw [em];have hdl:i<(δ.set k' none).length:=by rw [List.length_set];exact hil
    refine⟨λz=>R.ni ((hw i).mp z).1,R.nn,R.avd,a,bs++[b],rows++[r],List.getElem?_set_self hdl,hM',λx hx => ?_,?_⟩
    · rcases(hF' x).mp hx with z|rfl
      · exact h0 x z
      · exact h0b
    · rw [List.set_set,List.set_comm _ _ hk]
      have less:∀x,AV (avF av (a::(bs++[b]))) (λj=>if j=k' then none else A j) x->AV (avF av (a::bs)) A x:=λx z=>by
       rcases z with(z|z)|⟨j,z⟩
       · exact .inl (.inl z)
       · rcases(hF' x).mp z with z|rfl
         · exact .inl (.inr z)
         · exact .inr ⟨k',hA⟩
       · by_cases q:j=k'
         · simp [q]at z
         · simp [q]at z;exact .inr ⟨j,z⟩
      have hkp:∀x o,¬AV (avF av (a::bs)) A x->H x=some o->upd H a (.lst (bs.map V.ref++[V.ref b])) x=some o:=λx o n e=>by
       rw [ZA λ(z:x=a)=>n (.inl (.inr (by rw [z];exact List.mem_cons_self)))];exact e
      have oj:∀j x,j≠k'->A j=some x->x≠b:=λj x hj e z=>hj (E.inj j k' b (z▸e) hA)
      refine⟨λx o e => ?_,λx z => ?_,λj x e => ?_,λj l x e1 e2 => ?_,λj x e => ?_,λj e => ?_,λj hj => ?_,by rw [List.length_set];exact E.len,λj x e => ?_,E.kept,λj d e => ?_⟩
      · by_cases hx:x∈a::(bs++[b])
        · rw [XW hx]at e;exact e
        · rw [YF hx]at e
          have hx2:x∉a::bs:=λz=>hx ((hF' x).mpr (.inl z))
          rw [ZA λ(z:x=a)=>hx2 (by rw [z];exact List.mem_cons_self)];exact E.same x o (by rw [YF hx2];exact e)
      · by_cases hx:x∈a::(bs++[b])
        · rw [XW hx]
          obtain⟨vs,q⟩:=hM'.there hx;rw [q];exact λz=>by cases z
        · rw [YF hx]
          exact R.avd x (z.resolve_right hx)
      · by_cases q:j=k'
        · simp [q]at e
        · simp [q]at e
          have nx:x∉a::(bs++[b]):=λz=>((hF' x).mp z).elim (nF j x e) (oj j x q e)
          rw [YF nx];have:=E.fr j x e;rw [YF (nF j x e)]at this;exact this
      · by_cases q:j=k'
        · simp [q]at e1
        · by_cases q2:l=k'
          · simp [q2]at e2
          · simp [q]at e1;simp [q2]at e2;exact E.inj j l x e1 e2
      · by_cases q:j=k'
        · simp [q]at e
        · simp [q]at e
          rw [ZA λ(z:x=a)=>nF j x e (by rw [z];exact List.mem_cons_self)];exact E.live j x e
      · by_cases q:j=k'
        · simp [q]at e
        · simp [q]at e;exact(hw j).mpr ⟨E.dom j e,q⟩
      · obtain⟨g1,g2⟩:=(hw j).mp hj
        simp [g2];exact E.dom' j g1
      · have q : j ≠ k' := fun z => by
         rw [z]at e;rw [UB hk,hn]at e;cases e
        simp only [q,if_false];exact E.pin j x e
      · have q : j ≠ k' := fun z => by
         rw [z]at e
         by_cases hl:k'<(δ.set i none).length
         · rw [List.getElem?_set_self hl]at e;cases e
         · rw [List.getElem?_eq_none (by rw [List.length_set];omega)]at e;cases e
        obtain⟨v,p1,p2,p3⟩:=E.var j d (by rw [List.getElem?_set_ne (Ne.symm q)]at e;exact e);refine⟨v,p1,λz => ?_,λx z => ?_⟩
        · simp [q]at z
          exact((p2 z).ext hkp).av λy z => .inl (less y z)
        · simp [q]at z
          obtain⟨r1,r2⟩:=p3 x z;have xa:x≠a:=λw=>nF j x z (w▸List.mem_cons_self)
          refine⟨r1,?_⟩;cases d with
          |lst xs=>obtain⟨vs,q1,q2⟩:=r2;exact⟨vs,by rw [ZA xa];exact q1,(q2.ext hkp).av λy z => .inl (less y z)⟩
          |obj c ks xs=>obtain⟨dx,vs,q1,q0,q2⟩:=r2;exact⟨dx,vs,by rw [ZA xa];exact q1,q0,(q2.ext hkp).av λy z => .inl (less y z)⟩
          |dct ks xs=>obtain⟨vs,q1,q0,q2⟩:=r2;exact⟨vs,by rw [ZA xa];exact q1,q0,(q2.ext hkp).av λy z => .inl (less y z)⟩
          |dtt ks xs=>obtain⟨vs,q1,q0,q2⟩:=r2;exact⟨vs,by rw [ZA xa];exact q1,q0,(q2.ext hkp).av λy z => .inl (less y z)⟩
          |_=>exact r2
def U3(i k:Nat)(ε:Env->Option D)(δ:Env):Option Out:=match Za i δ,Za k δ with
 |some (.lst xs),some (.lst r)=>if xs.length<sizeLine/\r.all ZD=true then(match U2 ε (δ.set i none)with
  |some d=>some (.nx (((δ.set k none).set i (some (.lst (xs++[.lst r])))).set k (some d)))
  |none=>none)else none
 |_,_=>none
theorem ZeD{te:TE}{ε:Env->Option D}(k':Nat)(hk:k'≠i)(hi:ow.contains k'=true)(hn:G.2 k'=none)(h1:sub owN ow=true)(h2:owN.contains k'=false)(h3:sub ow (k'::owN)=true)(h:VF G owN te ε):VM G ow ow owB owC i (Yn (Jp (tBM G.1.K "list" rAppend (YM i) (Yj (YM k') tNil))) (Y0 te (YN k'))) (U3 i k' ε):=λH0 av A σ H δ R o e De k=>by
 unfold U3 at e
 split at e
 · rename_i xs r e1 e2
   by_cases hz:xs.length<sizeLine/\r.all ZD=true
   · rw [if_pos hz]at e
     cases he:U2 ε (δ.set i none)with
     |none=>rw [he]at e;cases e
     |some d=>
      rw [he]at e;cases e;obtain⟨ys,hx,hs,rfl⟩:=ZbM he;obtain⟨a,b,bs,g1,g2,top,hl,hb,hnb,R'⟩:=Zga k' hk hi hn h1 h2 h3 R e1 e2 hz;refine⟨.ref a,g1,.inl ⟨rfl,_,SqL.of top⟩,.ref b,g2,a,bs.map V.ref,.ref b,rfl,rfl,top,by rw [List.length_map];exact hl,?_⟩;have VW:=R'.view;have hil:i<δ.length:=(List.getElem?_eq_some_iff.mp (XO e1)).1
      have E2:ER G owN H0 av (λj=>if j=k' then none else A j) σ (upd H a (.lst (bs.map V.ref++[V.ref b]))) (δ.set i none):=by
       refine⟨VW.same,VW.avd,VW.fr,VW.inj,VW.live,VW.dom,VW.dom',by rw [VW.len,List.length_set,List.length_set,List.length_set],VW.pin,VW.kept,λj d e => ?_⟩
       have hji:j≠i:=λz=>by
        rw [z,List.getElem?_set_self hil]at e;cases e
       rw [List.getElem?_set_ne (Ne.symm hji)]at e
       by_cases hj:j=k'
       · subst hj
         rw [XO e2]at e;cases e;refine⟨.ref b,g2,λ_ => ?_,λx z=>by simp at z⟩;unfold Rep;exact⟨b,r.map val,rfl,λz=>(hnb z).elim,SqL.of hb,.of_vals hz.2⟩
       · exact VW.var j d (by rw [List.getElem?_set_ne (Ne.symm hji),List.getElem?_set_ne (Ne.symm hj)];exact e)
      refine h H0 av _ σ _ _ E2 _ hx _ λp vs zs H1 s1 hp l hd => ?_
      cases hd;have ev:vs=ys.map val:=l.vals hs;subst ev;have hi':k'∈ow:=by simpa using hi
      have hw:=QH h1 h2 h3
      exact k _ _ _ ((R'.mono s1).own hs hp hk (λj=>by
       constructor
       · intro z
         by_cases q:j=k'
         · exact .inr q
         · exact .inl ((hw j).mpr ⟨z,q⟩)
       · rintro(z|z)
         · exact((hw j).mp z).1
         · rw [z];exact hi') hn)
   · rw [if_neg hz]at e;cases e
 · cases e
theorem Zgb{te:TE}{ε:Env->Option D}(h:VF G ow te ε):VFM G ow (Js (Yj te tNil)) (U1 (Zz (Zb ε eNil))):=λH0 av A σ H δ E d e Q k=>by
 unfold U1 at e
 split at e
 · rename_i full hfull
   split at e
   · rename_i rs hrs
     have ed:D.lst full=d:=Option.some.inj e;obtain⟨hfe,hfs⟩:=Zaz hrs;unfold Zz Zb at hfull;cases he:ε δ with
     |none=>rw [he]at hfull;cases hfull
     |some y=>
      rw [he]at hfull
      have hf:full=[y]:=by
       have:(some (D.lst [y]):Option D)=some (D.lst full):=hfull;cases this;rfl
      refine h H0 av A σ H δ E y he _ λb vs zs H1 s1 hb l hy => ?_
      subst hy
      have hzs:zs.all ZD=true:=by
       have hm:D.lst zs∈full:=by rw [hf];exact List.mem_cons_self
       rw [hfe]at hm;obtain⟨r,hr1,hr2⟩:=List.mem_map.mp hm;cases hr2;exact hfs _ hr1
      have ev:vs=zs.map val:=l.vals hzs;subst ev;refine⟨by show 1<=sizeLine;decide,λp hp => ?_⟩;have hbp:b≠p:=λz=>by rw [<-z,ZW]at hp;cases hp
      have hp1:H1 p=none:=by rw [ZA (Ne.symm hbp)]at hp;exact hp
      refine k p [b] [zs] _ ((s1.trans (ZZ hb)).trans (ZZ hp)) (λx hx => ?_) ⟨ZW,rfl,by simp,λz=>hbp (List.mem_singleton.mp z).symm,λn b' r g1 g2 => ?_,λr hr=>by rw [List.mem_singleton.mp hr];exact hzs⟩ (by rw [<-ed,hf];rfl)
      · rcases List.mem_cons.mp hx with rfl|z
        · exact s1.free hp1
        · rw [List.mem_singleton.mp z];exact s1.free hb
      · cases n with
        |zero=>
         cases g1;cases g2;rw [ZA hbp];exact ZW
        |succ n=>simp at g1
   · cases e
 · cases e
end
end DL
namespace DL
open PySem PySem.Spec L2
section
variable{cA:Kn}{av:Addr->Prop}{H:Hp}
end
section
variable{G:Cn}{ow owN owB owC ow1:List Nat}{H0 H:Hp}{av:Addr->Prop}{A:Nat->Option Addr}{σ:L2.St}{δ:Env}
end
end DL
namespace L2
open PySem
end L2
namespace DL
open PySem PySem.Spec L2
section
variable{G:Cn}{ow owN owB owC ow1:List Nat}
end
section
variable{cA:Kn}{G:Cn}{ow owN owB owC ow1:List Nat}{i:Nat}
end
section
variable{P:Program}{w:World}{K:PySem.W.Frag}{mg:Str->Option Value}{base:Heap}{cA:Kn}
open Classical in
end
end DL
namespace L2
open PySem PySem.Spec PyProof.Rows
section
variable{X:Cx}
end
end L2
namespace DL
open PySem PySem.Spec L2
section
variable{cA:Kn}{G:Cn}{ow owN owB owC ow1:List Nat}{i:Nat}
mutual
def frz:D->Bool
 | .non=>true
 | .bl _=>true
 | .int _=>true
 | .str _=>true
 | .lst _=>false
 | .tup xs=>frzL xs
 | .obj _ _ xs=>frzL xs
 | .dct _ _=>false
 | .dtt _ _=>false
def frzL:List D->Bool
 | []=>true
 |x::xs=>frz x&&frzL xs
end
mutual
theorem Rep.frz{av av':Addr->Prop}{H:Hp}:∀{d:D}{v:V},frz d=true->(∀b,av' b->av b\/∃vs,H b=some (.lst vs))->Rep cA av H d v->Rep cA av' H d v
 | .non,_,_,_,h=>h
 | .bl _,_,_,_,h=>h
 | .int _,_,_,_,h=>h
 | .str _,_,_,_,h=>h
 | .lst xs,v,hf,k,h=>by cases hf
 | .tup xs,v,hf,k,h=>by
  unfold DL.frz at hf;unfold Rep at h ⊢;obtain⟨a,vs,e,n,r,l⟩:=h;exact⟨a,vs,e,λz=>(k a z).elim n (by rw [r];exact λ⟨_,z⟩=>by cases z),r,RepL.frz hf k l⟩
 | .obj c ks xs,v,hf,k,h=>by
  unfold DL.frz at hf;unfold Rep at h ⊢;obtain⟨a,dx,vs,e,n,r,z,l⟩:=h;exact⟨a,dx,vs,e,λz=>(k a z).elim n (by rw [r];exact λ⟨_,z⟩=>by cases z),r,z,RepL.frz hf k l⟩
 | .dct ks xs,v,hf,k,h=>by cases hf
 | .dtt ks xs,v,hf,k,h=>by cases hf
theorem RepL.frz{av av':Addr->Prop}{H:Hp}:∀{xs:List D}{vs:List V},frzL xs=true->(∀b,av' b->av b\/∃vs,H b=some (.lst vs))->RepL cA av H xs vs->RepL cA av' H xs vs
 | [],_,_,_,h=>h
 |x::xs,vs,hf,k,h=>by
  unfold DL.frzL at hf;rw [Bool.and_eq_true]at hf;unfold RepL at h ⊢;obtain⟨v,r,e,h1,h2⟩:=h;exact⟨v,r,e,Rep.frz hf.1 k h1,RepL.frz hf.2 k h2⟩
end
end
end DL
namespace PySem
open Sem (wp)
section
variable{prog:Program}{w:World}{A:Around}{E:Value->Shared->Prop}{s:Shared}
theorem ZbN {j t:Addr} {i:Nat} {xs:Array Value} {x:Value} {Q:Value->Shared->Prop} (hj:s.heap.IsTupleIter j t i) (ht:s.heap.IsTuple t xs) (hx:xs[i]? = some x)
 (hQ:∀h',h'.IsTupleIter j t (i+1)->Heap.SameBut j s.heap h'->Q x { s with heap:=h' }):wpAny (model prog w) A (Builtin.SmallTypes.nextOf (.ref j)) Q E s:=by
 obtain⟨oj,gj,cj,dj⟩:=id hj;obtain⟨ot,gt,_,nt,dt⟩:=ht;unfold Builtin.SmallTypes.nextOf;refine wpAny_bind (wpAny_callSpecial?_slot (name:=Str.ofString "__next__") hj.typeIs F.slot_tuple_iterator_next (wpAny_call_entry F.slot_tuple_iterator_next hj.typeIs F.entry_tuple_iterator_next ?_ (F.args_tuple_iterator_next_1 _)));show wpAny _ _ (field (.ref j) 0 >>= _) _ _ s;refine wpAny_bind (wpAny_field gj dj (x:=.ref t) rfl ?_)
 show wpAny _ _ (if(Value.ref t == Value.none)=true then _ else _) _ _ _;rw [if_neg (show ¬(Value.ref t == Value.none)=true from λz=>Bool.false_ne_true z)];show wpAny _ _ (field (.ref j) 1 >>= _) _ _ s;refine wpAny_bind (wpAny_field gj dj (x:=.int i 0) rfl ?_);show wpAny _ _ (seqItems? (.ref t) >>= _) _ _ _;refine wpAny_bind (wpAny_seqItems gt dt ?_);simp only [Int.toNat_natCast,hx];refine wpAny_bind (wpAny_setField gj dj (by simp) (wpAny_pure ⟨x,rfl,wpAny_pure (hQ _ ?_ (Heap.SameBut.update ..))⟩))
 refine⟨_,Heap.get?_update_self _ gj (Obj.isFreed_of_fields (Obj.data_mapFields dj _)),(Obj.cls_mapFields ..).trans cj,?_⟩;rw [Obj.data_mapFields dj];simp [rawInt]
theorem ZbO {j t:Addr} {i:Nat} {xs:Array Value} {Q:Value->Shared->Prop} (hh:A.handled=none) (hj:s.heap.IsTupleIter j t i) (ht:s.heap.IsTuple t xs) (hx:xs[i]? = none)
 (hE:∀h' e,Heap.ExtBut j s.heap h'->(∃o,h'.get? e=some o/\o.cls = .type "StopIteration")->E (.ref e) { s with heap:=h' }):wpAny (model prog w) A (Builtin.SmallTypes.nextOf (.ref j)) Q E s:=by
 obtain⟨oj,gj,cj,dj⟩:=id hj;obtain⟨ot,gt,_,nt,dt⟩:=ht;unfold Builtin.SmallTypes.nextOf;refine wpAny_bind (wpAny_callSpecial?_slot (name:=Str.ofString "__next__") hj.typeIs F.slot_tuple_iterator_next (wpAny_call_entry F.slot_tuple_iterator_next hj.typeIs F.entry_tuple_iterator_next ?_ (F.args_tuple_iterator_next_1 _)));show wpAny _ _ (field (.ref j) 0 >>= _) _ _ s;refine wpAny_bind (wpAny_field gj dj (x:=.ref t) rfl ?_)
 show wpAny _ _ (if(Value.ref t == Value.none)=true then _ else _) _ _ _;rw [if_neg (show ¬(Value.ref t == Value.none)=true from λz=>Bool.false_ne_true z)];show wpAny _ _ (field (.ref j) 1 >>= _) _ _ s;refine wpAny_bind (wpAny_field gj dj (x:=.int i 0) rfl ?_);show wpAny _ _ (seqItems? (.ref t) >>= _) _ _ _;refine wpAny_bind (wpAny_seqItems gt dt ?_);simp only [Int.toNat_natCast,hx];refine wpAny_bind (wpAny_rule (wpAny_bind (wpAny_setField gj dj (by simp) ?_)))
 show wpAny _ _ (newExc (.type "StopIteration") List.nil >>= _) _ _ _;refine wpAny_bind ?_;simp only [newExc,newTuple];refine wpAny_bind (wpAny_newObj_type (wpAny_bind (m:=firstArgMember _ _) (wpAny_of_eq (a:=Value.none) (by first|rfl|(simp only [firstArgMember];rfl)) (wpAny_newObj_type ?_ (by size_fits)))) (by size_fits));simp only [raiseNew];refine wpAny_bind (wpAny_handled ?_)
 first|rw [show A.in1.handled=none from hh]|rw [hh]
 exact wpAny_bind (wpAny_pure (wpAny_throw (hE _ _ (((Heap.SameBut.update ..).extBut.push _).push _) ⟨_,Heap.get?_push_size _ rfl,rfl⟩)))
end
def IsQI(k:Bool)(h:Heap)(a l:Addr)(i:Nat):Prop:=match k with
 |true=>h.IsTupleIter a l i
 |false=>h.IsListIter a l i
def IsQ(k:Bool)(h:Heap)(l:Addr)(xs:Array Value):Prop:=match k with
 |true=>h.IsTuple l xs
 |false=>h.IsList l xs
theorem IsQI.get{k:Bool}{h:Heap}{a l:Addr}{i:Nat}(x:IsQI k h a l i):∃o,h.get? a=some o/\o.data = .fields #[.ref l,.int i 0]:=by
 cases k with
 |true=>obtain⟨o,e,_,d⟩:=x;exact⟨o,e,d⟩
 |false=>obtain⟨o,e,_,d⟩:=x;exact⟨o,e,d⟩
theorem IsQI.at{k:Bool}{h h':Heap}{a l:Addr}{i:Nat}(x:IsQI k h a l i)(f:∀o,h.get? a=some o->h'.get? a=some o):IsQI k h' a l i:=by
 cases k with
 |true=>obtain⟨o,e,r⟩:=x;exact⟨o,f o e,r⟩
 |false=>obtain⟨o,e,r⟩:=x;exact⟨o,f o e,r⟩
theorem IsQI.ext{k:Bool}{h h':Heap}{a b l:Addr}{i:Nat}(x:IsQI k h a l i)(hs:Heap.ExtBut b h h')(n:a≠b):IsQI k h' a l i:=x.at λo e=>hs a o n e
theorem IsQ.at{k:Bool}{h h':Heap}{l:Addr}{xs:Array Value}(x:IsQ k h l xs)(f:∀o,h.get? l=some o->h'.get? l=some o):IsQ k h' l xs:=by
 cases k with
 |true=>obtain⟨o,e,r⟩:=x;exact⟨o,f o e,r⟩
 |false=>obtain⟨o,e,r⟩:=x;exact⟨o,f o e,r⟩
theorem IsQ.ext{k:Bool}{h h':Heap}{b l:Addr}{xs:Array Value}(x:IsQ k h l xs)(hs:Heap.ExtBut b h h')(n:l≠b):IsQ k h' l xs:=x.at λo e=>hs l o n e
theorem IsQ.lt{k:Bool}{h:Heap}{l:Addr}{xs:Array Value}(x:IsQ k h l xs):l<h.objs.size:=by
 cases k with
 |true=>obtain⟨o,e,_⟩:=x;exact Heap.lt_size e
 |false=>obtain⟨o,e,_⟩:=x;exact Heap.lt_size e
section
variable{prog:Program}{w:World}{A:Around}{E:Value->Shared->Prop}{s:Shared}
theorem Zak {k:Bool} {j t:Addr} {i:Nat} {xs:Array Value} {x:Value} {Q:Value->Shared->Prop} (hj:IsQI k s.heap j t i) (ht:IsQ k s.heap t xs) (hx:xs[i]? = some x)
 (hQ:∀h',IsQI k h' j t (i+1)->Heap.SameBut j s.heap h'->Q x { s with heap:=h' }):wpAny (model prog w) A (Builtin.SmallTypes.nextOf (.ref j)) Q E s:=by
 cases k with
 |true=>exact ZbN hj ht hx hQ
 |false=>exact wpAny_nextOf_list_item hj ht hx hQ
theorem Zbf {k:Bool} {j t:Addr} {i:Nat} {xs:Array Value} {Q:Value->Shared->Prop} (hh:A.handled=none) (hj:IsQI k s.heap j t i) (ht:IsQ k s.heap t xs) (hx:xs[i]? = none)
 (hE:∀h' e,Heap.ExtBut j s.heap h'->(∃o,h'.get? e=some o/\o.cls = .type "StopIteration")->E (.ref e) { s with heap:=h' }):wpAny (model prog w) A (Builtin.SmallTypes.nextOf (.ref j)) Q E s:=by
 cases k with
 |true=>exact ZbO hh hj ht hx hE
 |false=>exact wpAny_nextOf_list_end hh hj ht hx hE
theorem Zd6 {p q:Bool} {z TI TO i1 i2 l1 l2:Addr} {k1 k2:Nat} {xs ys:Array Value} {x y a b:Value} {Q:Value->Shared->Prop} (D:ZipApart z TI TO i1 i2 l1 l2)
 (gz:IsZip s.heap z TI TO .none) (gI:IsPair s.heap TI (.ref i1) (.ref i2)) (gO:IsPair s.heap TO a b) (u1:IsQI p s.heap i1 l1 k1) (u2:IsQI q s.heap i2 l2 k2) (m1:IsQ p s.heap l1 xs) (m2:IsQ q s.heap l2 ys) (hx:xs[k1]? = some x) (hy:ys[k2]? = some y)
 (hQ:∀h',IsZip h' z TI TO (rawInt s.heap.objs.size)->IsPair h' TO x y->IsQI p h' i1 l1 (k1+1)->IsQI q h' i2 l2 (k2+1)->IsPair h' s.heap.objs.size x y->h'.objs.size=s.heap.objs.size+1->(∀c o,c≠z->c≠TO->c≠i1->c≠i2->s.heap.get? c=some o->h'.get? c=some o)->Q (.ref s.heap.objs.size) { s with heap:=h' }) :
 wpAny (model prog w) A (Builtin.«zip.__next__» ⟨[.ref z],[]⟩) (λfin s'=>∃v,fin = .done (.ret v)/\Q v s') E s:=by
 show wpAny _ _ (field (.ref z) 2 >>= λ_=>_) _ _ _;refine wpAny_bind (wpAny_field gz rfl (x:=.bool false) rfl ?_);show wpAny _ _ (field (.ref z) 3 >>= λ_=>_) _ _ _;refine wpAny_bind (wpAny_field gz rfl (x:=.ref TI) rfl (wpAny_bind (wpAny_seqItems gI rfl ?_)));show wpAny _ _ (Builtin.SmallTypes.ownedTupleIsFree (.ref z) >>= λ_=>_) _ _ _;unfold Builtin.SmallTypes.ownedTupleIsFree;refine wpAny_bind (wpAny_bind (wpAny_field gz rfl (x:=.none) rfl (wpAny_pure ?_)))
 simp only [if_true];refine wpAny_bind (wpAny_rule (wpAny_bind (wpAny_field gz rfl (x:=.ref TO) rfl (wpAny_bind (wpAny_setField_rec gz (by simp) λh₁ gz₁ s₁ => ?_)))));have gz₁:IsZip h₁ z TI TO .ellipsis:=gz₁;refine wpAny_bind ?_;simp only [List.zipIdx_cons,List.forIn_cons,List.zipIdx_nil,List.forIn_nil];refine wpAny_bind (wpAny_bind (wpAny_onRaise (wpAny_bind (m:=Builtin.SmallTypes.nextOf (.ref i1)) (Zak (u1.ext s₁.extBut D.i1z) (m1.ext s₁.extBut D.l1z) hx λh₂ u1₂ s₂=>wpAny_pure ?_))))
 have gO₂:IsPair h₂ TO a b:=s₂.extBut _ _ D.TOi1 (s₁.extBut _ _ D.TOz gO);refine wpAny_bind (wpAny_seqItems gO₂ rfl (wpAny_bind (wpAny_updateSeq_pair gO₂ λh₃ gO₃ s₃ => ?_)));have gO₃:IsPair h₃ TO x b:=gO₃;refine wpAny_bind (wpAny_letGo (wpAny_pure ?_));refine wpAny_bind (wpAny_bind (wpAny_onRaise (wpAny_bind (m:=Builtin.SmallTypes.nextOf (.ref i2)) (Zak (((u2.ext s₁.extBut D.i2z).ext s₂.extBut D.i12.symm).ext s₃.extBut D.TOi2.symm) (((m2.ext s₁.extBut D.l2z).ext s₂.extBut D.l2i1).ext s₃.extBut D.l2TO) hy λh₄ u2₄ s₄=>wpAny_pure ?_))))
 have gO₄:IsPair h₄ TO x b:=s₄.extBut _ _ D.TOi2 gO₃;refine wpAny_bind (wpAny_seqItems gO₄ rfl (wpAny_bind (wpAny_updateSeq_pair gO₄ λh₅ gO₅ s₅ => ?_)));have gO₅:IsPair h₅ TO x y:=gO₅;refine wpAny_bind (wpAny_letGo (wpAny_pure (wpAny_pure (wpAny_bind (wpAny_seqItems gO₅ rfl (wpAny_bind (wpAny_newTuple ?_)))))));have ez:h₅.objs.size=s.heap.objs.size:=by rw [s₅.1,s₄.1,s₃.1,s₂.1,s₁.1]
 have gz₅:IsZip h₅ z TI TO .ellipsis:=s₅.extBut _ _ D.TOz.symm (s₄.extBut _ _ D.i2z.symm (s₃.extBut _ _ D.TOz.symm (s₂.extBut _ _ D.i1z.symm gz₁)));have kp:∀c o,c≠z->c≠TO->c≠i1->c≠i2->s.heap.get? c=some o->h₅.get? c=some o:=λc o c1 c2 c3 c4 e=>s₅.extBut _ _ c2 (s₄.extBut _ _ c4 (s₃.extBut _ _ c2 (s₂.extBut _ _ c3 (s₁.extBut _ _ c1 e))))
 have u1₅:IsQI p h₅ i1 l1 (k1+1):=((u1₂.ext s₃.extBut D.TOi1.symm).ext s₄.extBut D.i12).ext s₅.extBut D.TOi1.symm;have u2₅:IsQI q h₅ i2 l2 (k2+1):=u2₄.ext s₅.extBut D.TOi2.symm;have lz:z<h₅.objs.size:=Heap.lt_size gz₅;show wpAny _ _ (Builtin.SmallTypes.ownedTupleHandOut (.ref z) (.ref h₅.objs.size) >>= λ_=>_) _ _ _;unfold Builtin.SmallTypes.ownedTupleHandOut;have gz₆:IsZip (h₅.push { cls := .type "tuple",data := .seq #[x,y] }) z TI TO .ellipsis:=Heap.get?_push_of_some _ gz₅
 refine wpAny_bind (wpAny_bind (wpAny_setField_rec gz₆ (by simp) λh₇ gz₇ s₇ => ?_));have gz₇:IsZip h₇ z TI TO (rawInt h₅.objs.size):=gz₇;refine wpAny_setField_rec gz₇ (by simp) λh₈ gz₈ s₈ => ?_
 have gz₈:IsZip h₈ z TI TO (rawInt h₅.objs.size):=gz₈;have up:∀c o,c≠z->h₅.get? c=some o->h₈.get? c=some o:=λc o c1 e=>s₈.extBut _ _ c1 (s₇.extBut _ _ c1 (Heap.get?_push_of_some _ e))
 have gT:IsPair h₈ h₅.objs.size x y:=s₈.extBut _ _ (Nat.ne_of_gt lz) (s₇.extBut _ _ (Nat.ne_of_gt lz) (Heap.get?_push_size _ rfl));have e8:h₈.objs.size=h₅.objs.size+1:=by rw [s₈.1,s₇.1,Heap.size_push]
 rw [ez]at gz₈ gT e8;refine wpAny_pure ⟨_,rfl,?_⟩;rw [ez];exact hQ h₈ gz₈ (up _ _ D.TOz gO₅) (u1₅.at λo e=>up _ o D.i1z e) (u2₅.at λo e=>up _ o D.i2z e) gT e8 λc o c1 c2 c3 c4 e=>up c o c1 (kp c o c1 c2 c3 c4 e)
theorem ZeE {p q:Bool} {z TI TO i1 i2 l1 l2:Addr} {k1 k2:Nat} {xs ys:Array Value} {a b:Value} {Q:Fin->Shared->Prop} (hh:A.handled=none) (D:ZipApart z TI TO i1 i2 l1 l2)
 (gz:IsZip s.heap z TI TO .none) (gI:IsPair s.heap TI (.ref i1) (.ref i2)) (gO:IsPair s.heap TO a b) (u1:IsQI p s.heap i1 l1 k1) (u2:IsQI q s.heap i2 l2 k2) (m1:IsQ p s.heap l1 xs) (m2:IsQ q s.heap l2 ys) (hend:xs[k1]? = none\/ys[k2]? = none)
 (hE:∀h' e,(∀c o,c≠z->c≠TO->c≠i1->c≠i2->s.heap.get? c=some o->h'.get? c=some o)->(∃o,h'.get? e=some o/\o.cls = .type "StopIteration")->E (.ref e) { s with heap:=h' }) :
 wpAny (model prog w) A (Builtin.«zip.__next__» ⟨[.ref z],[]⟩) Q E s:=by
 show wpAny _ _ (field (.ref z) 2 >>= λ_=>_) _ _ _;refine wpAny_bind (wpAny_field gz rfl (x:=.bool false) rfl ?_);show wpAny _ _ (field (.ref z) 3 >>= λ_=>_) _ _ _;refine wpAny_bind (wpAny_field gz rfl (x:=.ref TI) rfl (wpAny_bind (wpAny_seqItems gI rfl ?_)));show wpAny _ _ (Builtin.SmallTypes.ownedTupleIsFree (.ref z) >>= λ_=>_) _ _ _;unfold Builtin.SmallTypes.ownedTupleIsFree;refine wpAny_bind (wpAny_bind (wpAny_field gz rfl (x:=.none) rfl (wpAny_pure ?_)))
 simp only [if_true];refine wpAny_bind (wpAny_rule (wpAny_bind (wpAny_field gz rfl (x:=.ref TO) rfl (wpAny_bind (wpAny_setField_rec gz (by simp) λh₁ gz₁ s₁ => ?_)))));have gz₁:IsZip h₁ z TI TO .ellipsis:=gz₁;refine wpAny_bind ?_;simp only [List.zipIdx_cons,List.forIn_cons,List.zipIdx_nil,List.forIn_nil];cases hx:xs[k1]? with
 |none=>
  refine wpAny_bind (wpAny_bind (wpAny_onRaise (wpAny_bind (m:=Builtin.SmallTypes.nextOf (.ref i1)) (Zbf hh (u1.ext s₁.extBut D.i1z) (m1.ext s₁.extBut D.l1z) hx λh₂ e s₂ he => ?_))));obtain⟨oe,ge,ce⟩:=he;have gz₂:IsZip h₂ z TI TO .ellipsis:=s₂ _ _ D.i1z.symm gz₁;have nez:e≠z:=λv=>by rw [v,gz₂]at ge;cases ge;simp at ce
  exact wpAny_setField_rec gz₂ (by simp) λh₃ _ s₃=>hE h₃ e (λc o c1 _ c3 _ v=>s₃.extBut _ _ c1 (s₂ _ _ c3 (s₁.extBut _ _ c1 v))) ⟨oe,s₃.extBut _ _ nez ge,ce⟩
 |some x=>
  have hy:ys[k2]? = none:=hend.resolve_left (by rw [hx];exact λv=>by cases v);refine wpAny_bind (wpAny_bind (wpAny_onRaise (wpAny_bind (m:=Builtin.SmallTypes.nextOf (.ref i1)) (Zak (u1.ext s₁.extBut D.i1z) (m1.ext s₁.extBut D.l1z) hx λh₂ u1₂ s₂=>wpAny_pure ?_))));have gO₂:IsPair h₂ TO a b:=s₂.extBut _ _ D.TOi1 (s₁.extBut _ _ D.TOz gO);refine wpAny_bind (wpAny_seqItems gO₂ rfl (wpAny_bind (wpAny_updateSeq_pair gO₂ λh₃ gO₃ s₃=>wpAny_bind (wpAny_letGo (wpAny_pure ?_)))))
  refine wpAny_bind (wpAny_bind (wpAny_onRaise (wpAny_bind (m:=Builtin.SmallTypes.nextOf (.ref i2)) (Zbf hh (((u2.ext s₁.extBut D.i2z).ext s₂.extBut D.i12.symm).ext s₃.extBut D.TOi2.symm) (((m2.ext s₁.extBut D.l2z).ext s₂.extBut D.l2i1).ext s₃.extBut D.l2TO) hy λh₄ e s₄ he => ?_))));obtain⟨oe,ge,ce⟩:=he;have gz₄:IsZip h₄ z TI TO .ellipsis:=s₄ _ _ D.i2z.symm (s₃.extBut _ _ D.TOz.symm (s₂.extBut _ _ D.i1z.symm gz₁))
  have nez:e≠z:=λv=>by rw [v,gz₄]at ge;cases ge;simp at ce
  exact wpAny_setField_rec gz₄ (by simp) λh₅ _ s₅=>hE h₅ e (λc o c1 c2 c3 c4 v=>s₅.extBut _ _ c1 (s₄ _ _ c4 (s₃.extBut _ _ c2 (s₂.extBut _ _ c3 (s₁.extBut _ _ c1 v))))) ⟨oe,s₅.extBut _ _ nez ge,ce⟩
theorem Zbw {p q:Bool} {z TI TO i1 i2 l1 l2:Addr} {k1 k2:Nat} {xs ys:Array Value} {x y a b:Value} {Q:Option Value->Shared->Prop} (D:ZipApart z TI TO i1 i2 l1 l2)
 (gz:IsZip s.heap z TI TO .none) (gI:IsPair s.heap TI (.ref i1) (.ref i2)) (gO:IsPair s.heap TO a b) (u1:IsQI p s.heap i1 l1 k1) (u2:IsQI q s.heap i2 l2 k2) (m1:IsQ p s.heap l1 xs) (m2:IsQ q s.heap l2 ys) (hx:xs[k1]? = some x) (hy:ys[k2]? = some y)
 (hQ:∀h',IsZip h' z TI TO (rawInt s.heap.objs.size)->IsPair h' TO x y->IsQI p h' i1 l1 (k1+1)->IsQI q h' i2 l2 (k2+1)->IsPair h' s.heap.objs.size x y->h'.objs.size=s.heap.objs.size+1->(∀c o,c≠z->c≠TO->c≠i1->c≠i2->s.heap.get? c=some o->h'.get? c=some o)->Q (some (.ref s.heap.objs.size)) { s with heap:=h' }) :
 wpAny (model prog w) A (pyNext (.ref z)) Q E s:=by
 have tz:s.TypeIs (.ref z) "zip" := ⟨_,gz,rfl⟩
 unfold pyNext;exact wpAny_bind (wpAny_attempt (wpAny_callSpecial?_slot (name:=Str.ofString "__next__") tz F.slot_zip_next (wpAny_call_entry F.slot_zip_next tz F.entry_zip_next (Zd6 D gz gI gO u1 u2 m1 m2 hx hy λh' a1 a2 a3 a4 a5 a6 a7=>wpAny_pure (hQ h' a1 a2 a3 a4 a5 a6 a7)) (F.args_zip_next_1 _))))
theorem ZbP {p q:Bool} {z TI TO i1 i2 l1 l2:Addr} {k1 k2:Nat} {xs ys:Array Value} {a b:Value} {Q:Option Value->Shared->Prop} (hh:A.handled=none) (D:ZipApart z TI TO i1 i2 l1 l2)
 (gz:IsZip s.heap z TI TO .none) (gI:IsPair s.heap TI (.ref i1) (.ref i2)) (gO:IsPair s.heap TO a b) (u1:IsQI p s.heap i1 l1 k1) (u2:IsQI q s.heap i2 l2 k2) (m1:IsQ p s.heap l1 xs) (m2:IsQ q s.heap l2 ys) (hend:xs[k1]? = none\/ys[k2]? = none)
 (hQ:∀h',(∀c o,c≠z->c≠TO->c≠i1->c≠i2->s.heap.get? c=some o->h'.get? c=some o)->Q none { s with heap:=h' }):wpAny (model prog w) A (pyNext (.ref z)) Q E s:=by
 have tz:s.TypeIs (.ref z) "zip" := ⟨_,gz,rfl⟩
 unfold pyNext;refine wpAny_bind (wpAny_attempt (wpAny_callSpecial?_slot (name:=Str.ofString "__next__") tz F.slot_zip_next (wpAny_call_entry F.slot_zip_next tz F.entry_zip_next (ZeE hh D gz gI gO u1 u2 m1 m2 hend λh' e hk he => ?_) (F.args_zip_next_1 _))));obtain⟨o,go,co⟩:=he;exact wpAny_bind (wpAny_isInstance (T:="StopIteration") (b:=true) ⟨o,go,co⟩ isSubtype_stop (wpAny_pure (hQ _ hk)))
end
abbrev itO(k:Bool)(l:Addr):Obj:={ cls := .type (if k then "tuple_iterator" else "list_iterator"),data := .fields #[.ref l,.int 0 0] }
abbrev zq2(p q:Bool)(h:Heap)(l1 l2:Addr):Heap:=(h.push (itO p l1)).push (itO q l2)
abbrev zq3(p q:Bool)(h:Heap)(l1 l2:Addr):Heap:=(zq2 p q h l1 l2).push { cls := .type "tuple",data := .seq #[.ref h.objs.size,.ref (h.push (itO p l1)).objs.size] }
abbrev zq4(p q:Bool)(h:Heap)(l1 l2:Addr):Heap:=(zq3 p q h l1 l2).push { cls := .type "tuple",data := .seq #[.none,.none] }
abbrev zq5(p q:Bool)(h:Heap)(l1 l2:Addr):Heap:=(zq4 p q h l1 l2).push { cls := .type "zip",data := .fields #[.none,.bool false,.bool false,.ref (zq2 p q h l1 l2).objs.size,.ref (zq3 p q h l1 l2).objs.size] }
theorem ZcI(p q:Bool)(l1 l2:Addr)(xs ys:Array Value):Meets (Builtin.«zip.__new__» ⟨[.type "zip",.ref l1,.ref l2],[]⟩) (λ_ R s=>IsQ p s.heap l1 xs/\IsQ q s.heap l2 ys/\R (.ok (.ret (.ref (zq4 p q s.heap l1 l2).objs.size))) { s with heap:=zq5 p q s.heap l1 l2 }):=
 .of_wp λprog w A R s h=>by
  obtain⟨hp,g,d,tk,os⟩:=s;obtain⟨m1,m2,h⟩:=h;have hsub:=sub_zip;cases p<;>cases q
  · have e1:Heap.IsList (Shared.heap ⟨hp,g,d,tk,os⟩) l1 xs:=m1
    have e2:Heap.IsList (Shared.heap ⟨hp.push { cls := .type "list_iterator",data := .fields #[.ref l1,.int 0 0] },g,d,tk,os⟩) l2 ys:=Heap.IsList.push m2 _
    wp_walk using wpAny_pyIter_list e1,wpAny_pyIter_list e2
    exact⟨_,rfl,h⟩
  · have e1:Heap.IsList (Shared.heap ⟨hp,g,d,tk,os⟩) l1 xs:=m1
    have e2:Heap.IsTuple (Shared.heap ⟨hp.push { cls := .type "list_iterator",data := .fields #[.ref l1,.int 0 0] },g,d,tk,os⟩) l2 ys:=Heap.IsTuple.push m2 _
    wp_walk using wpAny_pyIter_list e1,wpAny_pyIter_tuple e2
    exact⟨_,rfl,h⟩
  · have e1:Heap.IsTuple (Shared.heap ⟨hp,g,d,tk,os⟩) l1 xs:=m1
    have e2:Heap.IsList (Shared.heap ⟨hp.push { cls := .type "tuple_iterator",data := .fields #[.ref l1,.int 0 0] },g,d,tk,os⟩) l2 ys:=Heap.IsList.push m2 _
    wp_walk using wpAny_pyIter_tuple e1,wpAny_pyIter_list e2
    exact⟨_,rfl,h⟩
  · have e1:Heap.IsTuple (Shared.heap ⟨hp,g,d,tk,os⟩) l1 xs:=m1
    have e2:Heap.IsTuple (Shared.heap ⟨hp.push { cls := .type "tuple_iterator",data := .fields #[.ref l1,.int 0 0] },g,d,tk,os⟩) l2 ys:=Heap.IsTuple.push m2 _
    wp_walk using wpAny_pyIter_tuple e1,wpAny_pyIter_tuple e2
    exact⟨_,rfl,h⟩
theorem Zff(k:Bool){h:Heap}{a l:Addr}(e:h.get? a=some (itO k l)):IsQI k h a l 0:=by
 cases k with
 |true=>exact⟨_,e,rfl,rfl⟩
 |false=>exact⟨_,e,rfl,rfl⟩
section
variable{prog:Program}{w:World}{A:Around}{E:Value->Shared->Prop}{s:Shared}
theorem Zd7 {p q:Bool} {l1 l2:Addr} {xs ys:Array Value} {Q:Value->Shared->Prop} (m1:IsQ p s.heap l1 xs) (m2:IsQ q s.heap l2 ys)
 (h:∀h',IsZip h' (s.heap.objs.size+4) (s.heap.objs.size+2) (s.heap.objs.size+3) .none->IsPair h' (s.heap.objs.size+2) (.ref s.heap.objs.size) (.ref (s.heap.objs.size+1))->IsPair h' (s.heap.objs.size+3) .none .none->IsQI p h' s.heap.objs.size l1 0->IsQI q h' (s.heap.objs.size+1) l2 0->(∀c o,s.heap.get? c=some o->h'.get? c=some o)->Q (.ref (s.heap.objs.size+4)) { s with heap:=h' }) :
 wpAny (model prog w) A (call (.type "zip") [.ref l1,.ref l2]) Q E s:=by
 refine callType_new F.called_zip (by decide) (F.typeCall_zip_2 _ _) (F.newCall_zip_2 _ _) (λobj=>F.args_object_init_3 obj _ _) F.entry_zip_new (ZcI p q l1 l2 xs ys) ⟨m1,m2,?_⟩;have z1:(s.heap.push (itO p l1)).objs.size=s.heap.objs.size+1:=Heap.size_push ..;have z2:(zq2 p q s.heap l1 l2).objs.size=s.heap.objs.size+2:=by rw [Heap.size_push,z1]
 have z3:(zq3 p q s.heap l1 l2).objs.size=s.heap.objs.size+3:=by rw [Heap.size_push,z2]
 have z4:(zq4 p q s.heap l1 l2).objs.size=s.heap.objs.size+4:=by rw [Heap.size_push,z3]
 have up:=λ(h:Heap) (o o':Obj) (a:Addr) (e:h.get? a=some o')=>Heap.get?_push_of_some (h:=h) o e
 have g5:(zq5 p q s.heap l1 l2).get? (zq4 p q s.heap l1 l2).objs.size=some _:=Heap.get?_push_size _ rfl;have g4:(zq5 p q s.heap l1 l2).get? (zq3 p q s.heap l1 l2).objs.size=some _:=up _ _ _ _ (Heap.get?_push_size _ rfl);have g3:(zq5 p q s.heap l1 l2).get? (zq2 p q s.heap l1 l2).objs.size=some _:=up _ _ _ _ (up _ _ _ _ (Heap.get?_push_size _ rfl));have g2:(zq5 p q s.heap l1 l2).get? (s.heap.push (itO p l1)).objs.size=some (itO q l2):=up _ _ _ _ (up _ _ _ _ (up _ _ _ _ (Heap.get?_push_size _ (by cases q<;>rfl))))
 have g1:(zq5 p q s.heap l1 l2).get? s.heap.objs.size=some (itO p l1):=up _ _ _ _ (up _ _ _ _ (up _ _ _ _ (up _ _ _ _ (Heap.get?_push_size _ (by cases p<;>rfl)))));show _/\_;rw [z2,z3,z4]at g5;rw [z1,z2]at g3;rw [z3]at g4;rw [z1]at g2;rw [z4];exact⟨⟨_,g5,rfl⟩,h _ g5 g3 g4 (Zff p g1) (Zff q g2) λc o e=>up _ _ _ _ (up _ _ _ _ (up _ _ _ _ (up _ _ _ _ (up _ _ _ _ e))))⟩
end
end PySem
namespace L2
open PySem PySem.Spec PyProof.Rows
def SqQ(k:Bool)(K:PySem.W.Frag)(H:Hp)(a:Addr)(xs:List V):Prop:=match k with
 |true=>SqT K H a xs
 |false=>SqL K H a xs
theorem Inv.seqQ{X:Cx}{pins:List (Addr×Obj)}{σ:St}{H:Hp}{s:Shared}{k:Bool}{a:Addr}{xs:List V}(I:Inv X pins σ H s)(h:SqQ k X.K H a xs):∃its:List Value,Vals xs its/\IsQ k s.heap a its.toArray/\xs.length<=sizeLine:=by
 cases k with
 |true=>exact I.tuple h
 |false=>
  obtain⟨its,r,p,z⟩:=I.list h;exact⟨its,r,p.isList,z⟩
theorem Inv.seqQ_inj{X:Cx}{pins:List (Addr×Obj)}{σ:St}{H:Hp}{s:Shared}{k:Bool}{a:Addr}{xs ys:List V}(I:Inv X pins σ H s)(h:SqQ k X.K H a xs)(h':SqQ k X.K H a ys):xs=ys:=by
 cases k with
 |true=>exact I.tuple_inj h h'
 |false=>exact Inv.list_inj I h h'
def Zih(kp kq:Bool)(K:PySem.W.Frag)(l1 l2:Addr):It:=
 ⟨λi H=>∃xs ys x y,SqQ kp K H l1 xs/\SqQ kq K H l2 ys/\xs[i]? = some x/\ys[i]? = some y,
  λi H v H'=>∃x y p,(∀xs,SqQ kp K H l1 xs->xs[i]? = some x)/\(∀ys,SqQ kq K H l2 ys->ys[i]? = some y)/\H p=none/\v = .ref p/\H'=upd H p (.tup [x,y]),
  λi H=>∃xs ys,SqQ kp K H l1 xs/\SqQ kq K H l2 ys/\(xs.length<=i\/ys.length<=i)⟩
theorem Zd8{p q:Bool}{P:Program}{w:World}{K:PySem.W.Frag}{elts:List Expr}{x1:Nat}{tpos:Pos}(n l1 l2:Nat)(hl1:l1<n)(hl2:l2<n) :
 Turn P w K (.Tuple elts x1 tpos) (Zih p q K l1 l2) [n+4,n+2,n+3,n,n+1] (n+4) (λi h=>IsZip h (n+4) (n+2) (n+3) .none/\IsPair h (n+2) (.ref n) (.ref (n+1))/\(∃a b,IsPair h (n+3) a b)/\IsQI p h n l1 i/\IsQI q h (n+1) l2 i) where
 mem:=by simp
 obj:=λi h st b hb=>by
  obtain⟨hz,hTI,⟨a,b',hTO⟩,h1,h2⟩:=st;obtain⟨o1,ho1,hd1⟩:=h1.get;obtain⟨o2,ho2,hd2⟩:=h2.get;simp at hb;rcases hb with rfl|rfl|rfl|rfl|rfl
  · exact ⟨_, hz, fun v z => by
     have z':Data.fields _=Data.cell v:=z;cases z'⟩
  · exact ⟨_, hTI, fun v z => by
     have z':Data.seq _ _=Data.cell v:=z;cases z'⟩
  · exact ⟨_, hTO, fun v z => by
     have z':Data.seq _ _=Data.cell v:=z;cases z'⟩
  · exact⟨o1,ho1,λv z=>by rw [hd1]at z;cases z⟩
  · exact⟨o2,ho2,λv z=>by rw [hd2]at z;cases z⟩
 keep:=λi h h' st k=>by
  obtain⟨hz,hTI,⟨a,b',hTO⟩,h1,h2⟩:=st;exact⟨k _ (by simp) _ hz,k _ (by simp) _ hTI,⟨a,b',k _ (by simp) _ hTO⟩,h1.at λo q=>k n (by simp) o q,h2.at λo q=>k (n+1) (by simp) o q⟩
 item:=by
  intro X hP hw hK hc i pins s σ H E I hf st hg;subst hP hw hK;obtain⟨hz,hTI,⟨a,b',hTO⟩,h1,h2⟩:=st;obtain⟨xs,ys,x,y,hq1,hq2,hx,hy⟩:=hg;obtain⟨its1,rv1,p1,_⟩:=I.seqQ hq1;obtain⟨its2,rv2,p2,_⟩:=I.seqQ hq2;obtain⟨u,hu,ru⟩:=rv1.get hx;obtain⟨v,hv,rv⟩:=rv2.get hy;have D:ZipApart (n+4) (n+2) (n+3) n (n+1) l1 l2:=zipApart_new hl1 hl2;refine Zbw D hz hTI hTO h1 h2 p1 p2 (x:=u) (y:=v) (by simpa using hu) (by simpa using hv) λh' a1 a2 a3 a4 a5 a6 hk => ?_
  refine⟨_,rfl,wpAny_letOwnedTupleGo_zip a1 λh2' hz2 hs2 => ?_⟩;have hs2:Heap.SameBut (n+4) h' h2':=hs2;have hzl:n+4<s.heap.objs.size:=Heap.lt_size hz;have hT2:h2'.get? s.heap.objs.size=some { cls := .type "tuple",data := .seq #[u,v] }:=(hs2.2 _ (Nat.ne_of_gt hzl)).trans a5;have k2:∀b o,b≠n+4->b≠n+3->b≠n->b≠n+1->s.heap.get? b=some o->h2'.get? b=some o:=λb o b1 b2 b3 b4 q=>(hs2.2 b b1).trans (hk b o b1 b2 b3 b4 q)
  have hTn:H s.heap.objs.size=none:=I.hok.fresh (Nat.le_refl _);have neT:∀b o,s.heap.get? b=some o->b≠s.heap.objs.size:=λb o q=>Nat.ne_of_lt (Heap.lt_size q)
  have hF:∀b,b=n+4\/b=n+3\/b=n\/b=n+1->YO X pins H b:=λb hb=>hf b (by rcases hb with rfl|rfl|rfl|rfl<;>simp)
  have I2:Inv X pins σ (upd H s.heap.objs.size (.tup [x,y])) { s with heap:=h2' }:=by
   refine I.step (g':=s.gens) (d':=s.drawn) (t':=s.toks) (ch:=[n+4,n+3,n,n+1]) (λb hb => ?_) (λb o _ _ hcb q _ => ?_) (λb o _ _ hcb q _ => ?_) (λb o hcb q m => ?_) (λb o hcb q => ?_) (λb xs q => ?_) (λb o v q => ?_) (λb ps q => ?_) (λm hm => ?_) (λb o q => ?_) I.bare
   · obtain⟨e0,e1,e2,e3,e4,e5⟩:=hF b (by simpa using hb)
     exact⟨e3,e1,e4,e5⟩
   · simp at hcb
     exact k2 b o hcb.1 hcb.2.1 hcb.2.2.1 hcb.2.2.2 q
   · simp at hcb
     exact⟨o.slots,k2 b o hcb.1 hcb.2.1 hcb.2.2.1 hcb.2.2.2 q⟩
   · rw [ZA (neT b o q)]
     exact m
   · simp at hcb
     exact⟨o,k2 b o hcb.1 hcb.2.1 hcb.2.2.1 hcb.2.2.2 q⟩
   · rw [ZA (Yr q hTn)]
     exact q
   · rw [ZA (Yr q hTn)]
     exact q
   · exact⟨#[],by rw [ZA (Yr q hTn),q];simp⟩
   · obtain⟨o,es,ep,q,r⟩:=hm
     exact⟨o,es,ep,k2 _ o (Ne.symm (hF _ (.inl rfl)).2.1) (Ne.symm (hF _ (.inr (.inl rfl))).2.1) (Ne.symm (hF _ (.inr (.inr (.inl rfl)))).2.1) (Ne.symm (hF _ (.inr (.inr (.inr rfl)))).2.1) q,r⟩
   · by_cases hb:b=s.heap.objs.size
     · subst hb
       rw [ZW]at q;cases q;refine⟨by show 2<=sizeLine;decide,[u,v],.cons ru (.cons rv .nil),?_⟩;exact⟨_,hT2,rfl,⟨_,rfl⟩,rfl⟩
     · rw [ZA hb]at q
       have nn:∀(b:Addr)(o:HO),H b=some o->b≠n+4/\b≠n+3/\b≠n/\b≠n+1:=λb o q=>by
        refine⟨λz => ?_,λz => ?_,λz => ?_,λz => ?_⟩
        · rw [z,(hF _ (.inl rfl)).1]at q;cases q
        · rw [z,(hF _ (.inr (.inl rfl))).1]at q;cases q
        · rw [z,(hF _ (.inr (.inr (.inl rfl)))).1]at q;cases q
        · rw [z,(hF _ (.inr (.inr (.inr rfl)))).1]at q;cases q
       refine(I.hok b o q).stay (λd v hd q' => ?_) (λd q'=>by rw [ZA (Yr q' hTn)];exact q') λd xs q'=>by rw [ZA (Yr q' hTn)];exact q'
       rcases hd with rfl|hd
       · exact k2 d v (nn d o q).1 (nn d o q).2.1 (nn d o q).2.2.1 (nn d o q).2.2.2 q'
       · exact k2 d v (nn d _ hd).1 (nn d _ hd).2.1 (nn d _ hd).2.2.1 (nn d _ hd).2.2.2 q'
  refine⟨.ref s.heap.objs.size,_,I2,rfl,⟨x,y,s.heap.objs.size,λzs hz=>by rw [I.seqQ_inj hz hq1];exact hx,λzs hz=>by rw [I.seqQ_inj hz hq2];exact hy,hTn,rfl,rfl⟩,⟨hz2,?_,⟨u,v,?_⟩,?_,?_⟩,λb hb => ?_⟩
  · exact hs2.extBut _ _ D.TIz (hk _ _ D.TIz D.TITO D.TIi1 D.TIi2 hTI)
  · exact hs2.extBut _ _ D.TOz a2
  · exact a3.ext hs2.extBut D.i1z
  · exact a4.ext hs2.extBut D.i2z
  · have hb0:H b=none:=(hf b hb).1
    have hbl:b<s.heap.objs.size:=by
     simp at hb;have hzl':n+4<s.heap.objs.size:=hzl;rcases hb with rfl|rfl|rfl|rfl|rfl
     · exact hzl'
     · exact Nat.lt_of_le_of_lt (Nat.add_le_add_left (by decide) n) hzl'
     · exact Nat.lt_of_le_of_lt (Nat.add_le_add_left (by decide) n) hzl'
     · exact Nat.lt_of_le_of_lt (Nat.le_add_right b 4) hzl'
     · exact Nat.lt_of_le_of_lt (Nat.add_le_add_left (by decide) n) hzl'
    rw [ZA (Nat.ne_of_lt hbl)];exact hb0
 done:=by
  intro X hP hw hK hc i pins s σ H E I hf st hg;subst hP hw hK;obtain⟨hz,hTI,⟨a,b',hTO⟩,h1,h2⟩:=st;obtain⟨xs,ys,hq1,hq2,hx⟩:=hg;obtain⟨its1,rv1,p1,_⟩:=I.seqQ hq1;obtain⟨its2,rv2,p2,_⟩:=I.seqQ hq2;have e1:=rv1.length;have e2:=rv2.length;have D:ZipApart (n+4) (n+2) (n+3) n (n+1) l1 l2:=zipApart_new hl1 hl2;have hF:∀b,b=n+4\/b=n+3\/b=n\/b=n+1->YO X pins H b:=λb hb=>hf b (by rcases hb with rfl|rfl|rfl|rfl<;>simp)
  refine ZbP (I.ok.hd hc) D hz hTI hTO h1 h2 p1 p2 (by
   rcases hx with hx|hx
   · exact .inl (by simp;omega)
   · exact .inr (by simp;omega)) λh' k2=>⟨rfl,?_⟩
  have nn:∀(b:Addr)(o:HO),H b=some o->b≠n+4/\b≠n+3/\b≠n/\b≠n+1:=λb o q=>by
   refine⟨λz => ?_,λz => ?_,λz => ?_,λz => ?_⟩
   · rw [z,(hF _ (.inl rfl)).1]at q;cases q
   · rw [z,(hF _ (.inr (.inl rfl))).1]at q;cases q
   · rw [z,(hF _ (.inr (.inr (.inl rfl)))).1]at q;cases q
   · rw [z,(hF _ (.inr (.inr (.inr rfl)))).1]at q;cases q
  refine I.step (g':=s.gens) (d':=s.drawn) (t':=s.toks) (ch:=[n+4,n+3,n,n+1]) (λb hb => ?_) (λb o _ _ hcb q _ => ?_) (λb o _ _ hcb q _ => ?_) (λ_ _ _ _ m=>m) (λb o hcb q => ?_) (λ_ _ e=>e) (λ_ _ _ e=>e) (λb ps e=>⟨#[],by rw [e];simp⟩) (λm hm => ?_) (λb o q => ?_) I.bare
  · obtain⟨e0,e1,e2,e3,e4,e5⟩:=hF b (by simpa using hb)
    exact⟨e3,e1,e4,e5⟩
  · simp at hcb
    exact k2 b o hcb.1 hcb.2.1 hcb.2.2.1 hcb.2.2.2 q
  · simp at hcb
    exact⟨o.slots,k2 b o hcb.1 hcb.2.1 hcb.2.2.1 hcb.2.2.2 q⟩
  · simp at hcb
    exact⟨o,k2 b o hcb.1 hcb.2.1 hcb.2.2.1 hcb.2.2.2 q⟩
  · obtain⟨o,es,ep,q,r⟩:=hm
    exact⟨o,es,ep,k2 _ o (Ne.symm (hF _ (.inl rfl)).2.1) (Ne.symm (hF _ (.inr (.inl rfl))).2.1) (Ne.symm (hF _ (.inr (.inr (.inl rfl)))).2.1) (Ne.symm (hF _ (.inr (.inr (.inr rfl)))).2.1) q,r⟩
  · refine(I.hok b o q).stay (λd v hd q' => ?_) (λ_ q=>q) λ_ _ q=>q
    rcases hd with rfl|hd
    · exact k2 d v (nn d o q).1 (nn d o q).2.1 (nn d o q).2.2.1 (nn d o q).2.2.2 q'
    · exact k2 d v (nn d _ hd).1 (nn d _ hd).2.1 (nn d _ hd).2.2.1 (nn d _ hd).2.2.2 q'
 self:=λ_ _ _ _ _ st h=>wpAny_pyIter_zip st.1 h
section
variable{X:Cx}{elts:List Expr}{x1:Nat}{tpos:Pos}
def ZgV(K:PySem.W.Frag)(ta:TA):TI:=λσ H R=>ta σ H λvs H1=>∃p q l1 l2 xs ys,vs=[.ref l1,.ref l2]/\SqQ p K H1 l1 xs/\SqQ q K H1 l2 ys/\R (Zih p q K l1 l2) H1
theorem ZbC {K:PySem.W.Frag} {a b:Expr} {ta tb:TE} {po pos:Pos} (hg:Gl X "zip") (hm:X.mg "zip" = none) (ha:PE X a ta) (hb:PE X b tb) (hs:starEach [a,b] X.env=(false,eval a X.env)::starEach [b] X.env:=by rfl) (hs2:starEach [b] X.env=[(false,eval b X.env)]:=by rfl) (hK:X.K=K:=by rfl) :
 PI X (.Tuple elts x1 tpos) (.Call (.Name "zip" po) [a,b] [] pos) (ZgV K (Yj ta (Yj tb tNil))):=by
 subst hK;intro pins s σ H R I h;refine Call_ (XC I hg hm boot_zip (PyProof.Rows.callWith_type1 (thn ((Zd ha (Zd hb Zk hs2) hs) pos pins s σ H _ I h) λus s1 ⟨vs,H1,I1,r1,q1⟩ => ?_) (by rw [hs,hs2]) (by rw [hs2];rfl)));obtain⟨p,q0,l1,l2,xs,ys,e,hq1,hq2,q⟩:=q1;subst e;cases r1 with
 |cons r rr=>
  cases rr with
  |cons r' rr'=>
   cases rr';cases r;cases r';obtain⟨its1,rv1,p1,_⟩:=I1.seqQ hq1;obtain⟨its2,rv2,p2,_⟩:=I1.seqQ hq2;have lt1:l1<s1.heap.objs.size:=p1.lt;have lt2:l2<s1.heap.objs.size:=p2.lt;refine Zd7 p1 p2 λh' hz hTI hTO h1 h2 k => ?_
   refine wpAny_pyIter_zip hz ?_;have I2:Inv X pins σ H1 { s1 with heap:=h' }:=I1.kept (t':=s1.toks) k;refine⟨s1.heap.objs.size+4,[s1.heap.objs.size+4,s1.heap.objs.size+2,s1.heap.objs.size+3,s1.heap.objs.size,s1.heap.objs.size+1],_,_,H1,rfl,I2,Zd8 s1.heap.objs.size l1 l2 lt1 lt2,⟨hz,hTI,⟨_,_,hTO⟩,h1,h2⟩,λb hb => ?_,q⟩
   have hb':s1.heap.objs.size<=b:=by
    simp at hb;rcases hb with rfl|rfl|rfl|rfl|rfl
    · exact Nat.le_add_right _ _
    · exact Nat.le_add_right _ _
    · exact Nat.le_add_right _ _
    · exact Nat.le_refl _
    · exact Nat.le_add_right _ _
   exact I1.fpOk hb' (I1.hok.fresh hb')
def Zfg(K:PySem.W.Frag)(ta:TA):TI:=λσ H R=>ta σ H λvs H1=>∃l xs,vs=[.ref l]/\SqL K H1 l xs/\R (Zig K 0 l) H1
theorem ZeF {K:PySem.W.Frag} {a:Expr} {ta:TE} {po pos:Pos} (hg:Gl X "enumerate") (hm:X.mg "enumerate" = none) (ha:PE X a ta) (hs:starEach [a] X.env=[(false,eval a X.env)]:=by rfl) (hK:X.K=K:=by rfl) :
 PI X (.Tuple elts x1 tpos) (.Call (.Name "enumerate" po) [a] [] pos) (Zfg K (Yj ta tNil)):=by
 subst hK;intro pins s σ H R I h;refine Call_ (XC I hg hm boot_enumerate (PyProof.Rows.callWith_type1 (thn ((Zd ha Zk hs) pos pins s σ H _ I h) λus s1 ⟨vs,H1,I1,r1,q1⟩ => ?_) (by rw [hs];rfl) (by rfl)));obtain⟨l,xs,ev,hq,q⟩:=q1;subst ev;obtain⟨w1,rfl,rx⟩:=Xl r1;cases rx;obtain⟨its,rv,pl,hz⟩:=I1.list hq;refine call_enumerate_list pl.isList λh' he st _ k => ?_
 refine wpAny_pyIter_enum he ?_;have I3:Inv X pins σ H1 { s1 with heap:=h' }:=I1.kept (t':=s1.toks) k;refine⟨s1.heap.objs.size+1,[s1.heap.objs.size+1,s1.heap.objs.size],_,_,H1,rfl,I3,ZcH (s1.heap.objs.size+1) s1.heap.objs.size l (Nat.succ_ne_self _) 0,⟨⟨_,he⟩,st⟩,λb hb => ?_,q⟩
 have hb':s1.heap.objs.size<=b:=by
  simp at hb;rcases hb with rfl|rfl
  · exact Nat.le_succ _
  · exact Nat.le_refl _
 exact I1.fpOk hb' (I1.hok.fresh hb')
end
end L2
namespace DL
open PySem PySem.Spec L2
section
variable{cA:Kn}{G:Cn}{ow:List Nat}
theorem Zch{k:Bool}{K:PySem.W.Frag}{H H':Hp}{a:Addr}{xs:List V}(e:Same H H')(h:SqQ k K H a xs):SqQ k K H' a xs:=by
 cases k with
 |false=>exact Same.seq e h
 |true=>
  rcases h with(h|⟨o,h⟩)|h
  · exact .inl (.inl (e _ _ h))
  · exact .inl (.inr ⟨o,e _ _ h⟩)
  · exact .inr h
theorem ZcJ{p0 q0:Bool}{iv:Addr->Prop}{H0:Hp}{a b:Addr}{vs ws:List V}{xs ys:List D}(rd:SqQ p0 cA.K H0 a vs)(l:RepL cA iv H0 xs vs)(rd2:SqQ q0 cA.K H0 b ws)(l2:RepL cA iv H0 ys ws):UA cA iv (Zih p0 q0 cA.K a b) (Ym xs ys) H0:=λH s=>by
 have rd':SqQ p0 cA.K H a vs:=Zch s rd;have rd2':SqQ q0 cA.K H b ws:=Zch s rd2;refine⟨λi hi => ?_,λi x v H' hx y => ?_,λi hi=>⟨vs,ws,rd',rd2',?_⟩⟩
 · rw [JS]at hi
   obtain⟨v,hv,_⟩:=l.get (List.getElem?_eq_getElem (show i<xs.length by omega));obtain⟨u,hu,_⟩:=l2.get (List.getElem?_eq_getElem (show i<ys.length by omega));exact⟨vs,ws,v,u,rd',rd2',hv,hu⟩
 · obtain⟨z1,z2,p,hz1,hz2,hp,rfl,rfl⟩:=y
   have hi:i<(Ym xs ys).length:=(List.getElem?_eq_some_iff.mp hx).1;rw [JS]at hi;have e1:=List.getElem?_eq_getElem (show i<xs.length by omega);have e2:=List.getElem?_eq_getElem (show i<ys.length by omega);rw [Zcd xs ys i _ _ e1 e2]at hx;cases hx;obtain⟨v1,hv1,r1⟩:=l.get e1;obtain⟨v2,hv2,r2⟩:=l2.get e2;rw [hz1 vs rd']at hv1;rw [hz2 ws rd2']at hv2;cases hv1;cases hv2;refine⟨ZZ hp,λav' h1 h2 => ?_⟩
   unfold Rep;exact⟨p,_,rfl,λz=>h1 p z hp,ZW,.cons (((r1.av h2).same s).same (ZZ hp)) (.cons (((r2.av h2).same s).same (ZZ hp)) .nil)⟩
 · rw [JS]at hi
   rw [<-l.length,<-l2.length];omega
def QW:D->Option (List D)
 | .lst xs=>some xs
 | .tup xs=>some xs
 |_=>none
def XX(ε1 ε2:Env->Option D)(δ:Env):Option (List D):=match ε1 δ,ε2 δ with
 |some x,some y=>match QW x,QW y with
  |some xs,some ys=>some (Ym xs ys)
  |_,_=>none
 |_,_=>none
theorem Zbg{av:Addr->Prop}{A:Nat->Option Addr}{H:Hp}{d:D}{xs:List D}{v:V}(h:QW d=some xs)(r:Rep cA (AV av A) H d v):∃k a vs,v = .ref a/\SqQ k cA.K H a vs/\SqQ k cA.K (cut A H) a vs/\RepL cA (AV av A) H xs vs:=by
 cases d<;>first|(cases h;done)|skip
 · cases h
   obtain⟨a,vs,rfl,na,rd,l⟩:=r;exact⟨false,a,vs,rfl,rd,JC na rd λb o n e=>by rw [Vu λ⟨i,z⟩=>n (.inr ⟨i,z⟩)];exact e,l⟩
 · cases h
   obtain⟨a,vs,rfl,na,rd,l⟩:=r;exact⟨true,a,vs,rfl,SqT.of rd,SqT.of (by rw [Vu λ⟨i,z⟩=>na (.inr ⟨i,z⟩)];exact rd),l⟩
theorem ZbD{ta tb:TE}{ε1 ε2:Env->Option D}(h1:VE G ow ta .cl ε1)(h2:VE G ow tb .cl ε2):VI G ow (ZgV G.1.K (Yj ta (Yj tb tNil))) (XX ε1 ε2):=λH0 av A σ H δ E xs e R k=>by
 unfold XX at e;cases he1:ε1 δ with
 |none=>rw [he1]at e;cases e
 |some d1=>
  cases he2:ε2 δ with
  |none=>rw [he1,he2]at e;cases e
  |some d2=>
   rw [he1,he2]at e;dsimp only at e;cases hs1:QW d1 with
   |none=>rw [hs1]at e;cases e
   |some x1=>
    cases hs2:QW d2 with
    |none=>rw [hs1,hs2]at e;cases e
    |some x2=>
     rw [hs1,hs2]at e;cases e;refine h1 H0 av A σ H δ E _ he1 _ λv H1 s1 r1 => ?_
     refine h2 H0 av A σ H1 δ (E.mono s1) _ he2 _ λv2 H2 s2 r2 => ?_
     obtain⟨p,a,vs,rfl,rd,rdc,l⟩:=Zbg hs1 (RepT.r (r1.same s2));obtain⟨q,b,ws,rfl,rd2,rdc2,l2⟩:=Zbg hs2 (RepT.r r2);exact⟨p,q,a,b,vs,ws,rfl,rd,rd2,k _ H2 (s1.trans s2) (ZcJ rdc l.cut rdc2 l2.cut)⟩
theorem ZeG{ta:TE}{ε:Env->Option D}(h:VE G ow ta .cl ε):VI G ow (Zfg G.1.K (Yj ta tNil)) (QU 0 ε):=λH0 av A σ H δ E xs e R k=>by
 unfold QU at e;cases he:ε δ with
 |none=>rw [he]at e;cases e
 |some d=>
  rw [he]at e;cases d<;>first|(cases e;done)|skip
  cases e;refine h H0 av A σ H δ E _ he _ λv H1 s r => ?_
  obtain⟨a,vs,rfl,na,rd,l⟩:=r;exact⟨a,vs,rfl,rd,k _ H1 s (ZbL (JC na rd λb o n e=>by rw [Vu λ⟨i,z⟩=>n (.inr ⟨i,z⟩)];exact e) l.cut)⟩
end
end DL
namespace DL
open PySem PySem.Spec PyProof.Rows L2
def XY:List Int->Int
 | []=>0
 |n::ns=>ns.foldl min n
theorem Zaf:∀(ns:List Int)(n:Int),(ns.foldl min n=n\/ns.foldl min n∈ns)/\ns.foldl min n<=n/\∀a∈ns,ns.foldl min n<=a
 | [],n=>⟨.inl rfl,Int.le_refl _,λ_ z=>nomatch z⟩
 |m::ns,n=>by
  obtain⟨h1,h2,h3⟩:=Zaf ns (min n m);rw [List.foldl_cons];refine⟨?_,by omega,λa ha => ?_⟩
  · rcases h1 with h|h
    · by_cases hm:n<=m
      · exact .inl (by rw [h,Int.min_eq_left hm])
      · exact .inr (by rw [h,Int.min_eq_right (by omega)];exact List.mem_cons_self)
    · exact .inr (List.mem_cons_of_mem _ h)
  · rcases List.mem_cons.mp ha with rfl|ha
    · omega
    · exact h3 a ha
theorem Zax{ns:List Int}(h:0<ns.length):XY ns∈ns/\∀a∈ns,XY ns<=a:=by
 cases ns with
 |nil=>cases h
 |cons n ns=>
  obtain⟨h1,h2,h3⟩:=Zaf ns n;refine⟨?_,λa ha => ?_⟩
  · rcases h1 with h|h
    · show ns.foldl min n∈_
      rw [h];exact List.mem_cons_self
    · exact List.mem_cons_of_mem _ h
  · rcases List.mem_cons.mp ha with rfl|ha
    · exact h2
    · exact h3 a ha
theorem Zd9{ns:List Int}{M:Int}(h1:M∈ns)(h2:∀a∈ns,M<=a):M=XY ns:=by
 obtain⟨h3,h4⟩:=Zax (List.length_pos_of_mem h1);exact Int.le_antisymm (h2 _ h3) (h4 M h1)
def ZfK(K:PySem.W.Frag):List V->Hp->VK->Prop:=λxs H Q=>∃(p:Addr) (ns:List Int),xs=[.ref p]/\SqL K H p (ns.map V.int)/\0<ns.length/\Q (.int (XY ns)) H
section
variable{X:Cx}{K:PySem.W.Frag}{cA:Kn}
theorem Zea(hc:X.calm=true):Yt X (.builtin "min") (ZfK X.K):=by
 intro pins s σ H xs us Q I rs h;obtain⟨p,ns,rfl,hq,hne,q⟩:=h;obtain⟨u,rfl,rx⟩:=Xl rs;cases rx;obtain⟨its,rv,pl,hz⟩:=I.list hq;have hi:=JL ns its rv;obtain⟨ys,e⟩:=hi.allInts.items
 have hns:ns=ys.toList.map (·.1):=by
  rw [<-hi.numsOf,<-nums_intItems,<-e]
 have hsz:0<ys.size:=by
  have h3:=hne;rw [hns,List.length_map,Array.length_toList]at h3;exact h3
 have hl:=pl.isList;rw [e]at hl;refine min_intList (I.ok.hd hc) hl hsz λv h' tk hv hk => ?_
 obtain⟨t,rfl⟩:=intItems_at hv;obtain⟨h1,h2⟩:=argBest_lt (numAt ys) (ys.size-1)
 have hM:=Zd9 (ns:=ns) (M:=numAt ys (argBest (λi j=>decide (numAt ys i<numAt ys j)) (ys.size-1))) (by
  rw [hns,numAt_eq];exact getD_mem (by rw [List.length_map,Array.length_toList];omega)) (λa ha=>by
  rw [hns]at ha;obtain⟨j,hj,rfl⟩:=mem_getD ha;rw [List.length_map,Array.length_toList]at hj;rw [<-numAt_eq];exact h2 j (by omega))
 exact⟨.int (XY ns),H,I.kept hk,⟨t,by rw [hM]⟩,q⟩
theorem Zc1(hc:X.calm=true:=by rfl)(hK:X.K=K:=by rfl):Yt X (.builtin "min") (ZfK K):=hK▸Zea hc
def minLD:List D->Option D
 | [.lst xs]=>match Xv xs with
  |some ns=>if 0<ns.length then some (.int (XY ns))else none
  |none=>none
 |_=>none
theorem ZbE:Ud cA (ZfK cA.K) minLD:=λi H ds vs d _ h e Q k=>by
 unfold minLD at e
 split at e
 · rename_i xs
   cases hb:Xv xs with
   |none=>rw [hb]at e;cases e
   |some bs=>
    rw [hb]at e;dsimp only at e
    by_cases hz:0<bs.length
    · rw [if_pos hz]at e
      cases e;obtain⟨v,t,rfl,a,ws,rfl,_,rd,l⟩:=il1 h;have ex:=JK hb;subst ex;have ev:=l.vals (by rw [List.all_map];exact List.all_eq_true.mpr λ_ _=>rfl);rw [List.map_map]at ev;subst ev;exact⟨a,bs,rfl,rd,hz,k _ H (Same.refl H) rfl⟩
    · rw [if_neg hz]at e;cases e
 · cases e
variable{G:Cn}{ow:List Nat}
open Classical in
end
end DL
namespace DL
open PySem PySem.Spec L2
section
variable{cA:Kn}{av:Addr->Prop}{H:Hp}
end
section
variable{G:Cn}{ow owN owB owC ow1:List Nat}{H0 H:Hp}{av:Addr->Prop}{A:Nat->Option Addr}{σ:L2.St}{δ:Env}
end
end DL
namespace L2
open PySem PySem.Spec PyProof.Rows
section
variable{X:Cx}
end
end L2
namespace DL
open PySem PySem.Spec L2
section
variable{G:Cn}{ow owN owB owC ow1:List Nat}
open Classical in
end
end DL
namespace L2
open PySem PySem.Spec PyProof.Rows
section
variable{X:Cx}
end
end L2
namespace DL
open PySem PySem.Spec L2
section
variable{G:Cn}{ow owN owB owC ow1:List Nat}
end
end DL
namespace DL
open PySem PySem.Spec L2
section
variable{cA:Kn}{G:Cn}{ow owN owB owC:List Nat}
end
end DL
namespace DL
open PySem PySem.Spec L2
section
variable{X:Cx}{cA:Kn}
open Classical in
end
end DL
namespace DL
open PySem PySem.Spec L2
section
variable{cA:Kn}{G:Cn}{ow owN owB owC ow1:List Nat}{i:Nat}{H0 H H':Hp}{av:Addr->Prop}{A:Nat->Option Addr}{σ:L2.St}{δ:Env}
open Classical in
end
end DL
namespace DL
open PySem PySem.Spec L2
section
variable{cA:Kn}{G:Cn}{ow owN owB owC ow1:List Nat}{i:Nat}{H0 H H':Hp}{av:Addr->Prop}{A A':Nat->Option Addr}{σ σ':L2.St}{δ δ1:Env}
end
end DL
namespace DL
open PySem PySem.Spec L2
section
variable{cA:Kn}{G:Cn}{ow owN owB owC ow1:List Nat}{i:Nat}
open Classical in
end
end DL
namespace DL
open PySem PySem.Spec L2
section
variable{G:Cn}{ow ow1:List Nat}
end
end DL
namespace L2
open PySem PySem.Spec PyProof.Rows
structure CompSd(X:Cx)(scope:Scope)(tn cn:List Str)(js:List Nat):Prop where
 kind:scope.kind = .function
 own:∀y∈scope.names,y.2 = .cell->scope.names.lookup y.1=some .cell
 names:∀y∈scope.names,y.2 = .local->scope.names.lookup y.1=some .local
 free:∀y∈scope.names,y.2 = .free->X.env.kindOf y.1=some .cell\/X.env.kindOf y.1=some .free
 cap:∀(k:Nat)(x:Str),cn[k]? = some x->∃j,js[k]? = some j/\X.N[j]? = some x/\(X.env.kindOf x=some .cell\/X.env.kindOf x=some .free)/\scope.names.lookup x=some .free
 len:cn.length=js.length
section
variable{X:Cx}{pins:List (Addr×Obj)}{σ:St}{H₂:Hp}{s₂:Shared}{scope:Scope}{tn cn:List Str}{js:List Nat}
end
section
variable{X:Cx}{tg iter elt:Expr}{ifs:List Expr}{scope:Scope}{pos:Pos}{wi:TI}{g:TG}{tt:TT}{te:TE}{tn cn:List Str}{js:List Nat}
end
end L2
namespace PySem
abbrev UD(h:Heap)(z TI TO:Addr)(f0 f1:Value):Prop:=
 h.get? z=some { cls := .type "zip",dict:=none,data := .fields #[f0,f1,.bool false,.ref TI,.ref TO],slots := #[] }
section
variable{prog:Program}{w:World}{A:Around}{E:Value->Shared->Prop}{s:Shared}
theorem Zal{M:Model}{a:Addr}{Q:Option Obj->Shared->Prop}(h:Q (s.heap.get? a) s):wpAny M A (loadIfAlive a) Q E s:=λΓ p hΓ=>by
 show Sem.wp M Γ (Sem.loadIfAlive a Sem.pure) _ _ p s;rw [Sem.wp_loadIfAlive];exact h
theorem Zag {z TI TO T:Addr} {b:Bool} {o:Obj} {Q:Bool->Shared->Prop} (hz:UD s.heap z TI TO (rawInt T) (.bool b)) (hT:s.heap.get? T=some o)
 (h:∀h' b',UD h' z TI TO (rawInt T) (.bool b')->Heap.SameBut z s.heap h'->Q false { s with heap:=h' }):wpAny (model prog w) A (Builtin.SmallTypes.ownedTupleIsFree (.ref z)) Q E s:=by
 unfold Builtin.SmallTypes.ownedTupleIsFree;refine wpAny_bind (wpAny_field hz rfl (x:=rawInt T) rfl ?_);show wpAny _ _ (loadIfAlive _ >>= _) _ _ _;refine wpAny_bind (Zal ?_);have e:((T:Int)).toNat=T:=Int.toNat_natCast T;rw [e,hT];show wpAny _ _ (field (.ref z) 1 >>= _) _ _ _;refine wpAny_bind (wpAny_field hz rfl (x:=.bool b) rfl ?_);cases b with
 |true=>exact wpAny_pure (h _ true hz (Heap.SameBut.refl ..))
 |false=>
  show wpAny _ _ (setField (.ref z) 1 (.bool true) >>= _) _ _ _;refine wpAny_bind (wpAny_setField_rec hz (by simp) λh₁ hz₁ hs₁ => ?_);exact wpAny_pure (h h₁ true hz₁ hs₁)
theorem ZaF {z TI TO i1 i2 l1 l2 T:Addr} {bb:Bool} {o:Obj} {k1 k2:Nat} {xs ys:Array Value} {x y:Value} {Q:Value->Shared->Prop} (D:ZipApart z TI TO i1 i2 l1 l2)
 (hz:UD s.heap z TI TO (rawInt T) (.bool bb)) (hT:s.heap.get? T=some o) (hTI:IsPair s.heap TI (.ref i1) (.ref i2))
 (h1:s.heap.IsListIter i1 l1 k1) (h2:s.heap.IsListIter i2 l2 k2) (hl1:s.heap.IsList l1 xs) (hl2:s.heap.IsList l2 ys) (hx:xs[k1]? = some x) (hy:ys[k2]? = some y)
 (hQ:∀h' b',UD h' z TI TO (rawInt T) (.bool b')->h'.IsListIter i1 l1 (k1+1)->h'.IsListIter i2 l2 (k2+1)->IsPair h' s.heap.objs.size x y->h'.objs.size=s.heap.objs.size+1 ->
   (∀c o,c≠z->c≠i1->c≠i2->s.heap.get? c=some o->h'.get? c=some o)->Q (.ref s.heap.objs.size) { s with heap:=h' }) :
 wpAny (model prog w) A (Builtin.«zip.__next__» ⟨[.ref z],[]⟩) (λfin s'=>∃v,fin = .done (.ret v)/\Q v s') E s:=by
 show wpAny _ _ (field (.ref z) 2 >>= _) _ _ _;refine wpAny_bind (wpAny_field hz rfl (x:=.bool false) rfl ?_);show wpAny _ _ (field (.ref z) 3 >>= _) _ _ _;refine wpAny_bind (wpAny_field hz rfl (x:=.ref TI) rfl ?_);refine wpAny_bind (wpAny_seqItems hTI rfl ?_);show wpAny _ _ (Builtin.SmallTypes.ownedTupleIsFree (.ref z) >>= _) _ _ _;refine wpAny_bind (Zag hz hT λh₀ b₀ hz₀ hs₀ => ?_);simp only [Bool.false_eq_true,if_false]
 simp only [List.forIn_toArray,List.forIn_cons,List.forIn_nil];refine wpAny_bind (wpAny_bind (wpAny_bind (wpAny_holding ?_)));show wpAny _ _ (Builtin.SmallTypes.nextOf (.ref i1) >>= _) _ _ _;refine wpAny_bind (wpAny_nextOf_list_item (h1.extBut hs₀.extBut D.i1z) (hl1.extBut hs₀.extBut D.l1z) hx λh₁ h1₁ hs₁=>wpAny_pure (wpAny_pure ?_));refine wpAny_bind (wpAny_bind (wpAny_holding ?_));show wpAny _ _ (Builtin.SmallTypes.nextOf (.ref i2) >>= _) _ _ _
 refine wpAny_bind (wpAny_nextOf_list_item ((h2.extBut hs₀.extBut D.i2z).extBut hs₁.extBut D.i12.symm) ((hl2.extBut hs₀.extBut D.l2z).extBut hs₁.extBut D.l2i1) hy λh₂ h2₂ hs₂=>wpAny_pure (wpAny_pure (wpAny_pure ?_)));refine wpAny_bind (wpAny_newTuple (hsz:=by show 2<=sizeLine;decide) ?_);have hsz:h₂.objs.size=s.heap.objs.size:=by rw [hs₂.1,hs₁.1,hs₀.1]
 have hz₂:UD h₂ z TI TO (rawInt T) (.bool b₀):=hs₂.extBut _ _ D.i2z.symm (hs₁.extBut _ _ D.i1z.symm hz₀);have up:∀c o,h₂.get? c=some o->(h₂.push { cls := .type "tuple",data := .seq #[x,y] }).get? c=some o:=λc o e=>Heap.get?_push_of_some _ e
 refine wpAny_pure ⟨_,rfl,?_⟩;show Q (.ref h₂.objs.size) _;have hp:IsPair (h₂.push { cls := .type "tuple",data := .seq #[x,y] }) h₂.objs.size x y:=Heap.get?_push_size _ rfl;rw [hsz]at hp ⊢;refine hQ _ b₀ (up _ _ hz₂) ((h1₁.extBut hs₂.extBut D.i12).at λo e=>up _ o e) (h2₂.at λo e=>up _ o e) hp (by rw [Heap.size_push,hsz]) λc o c1 c3 c4 e=>up c o (hs₂.extBut _ _ c4 (hs₁.extBut _ _ c3 (hs₀.extBut _ _ c1 e)))
theorem Za1 {z TI TO i1 i2 l1 l2 T:Addr} {bb:Bool} {o:Obj} {k1 k2:Nat} {xs ys:Array Value} {Q:Fin->Shared->Prop} (hh:A.handled=none) (D:ZipApart z TI TO i1 i2 l1 l2)
 (hz:UD s.heap z TI TO (rawInt T) (.bool bb)) (hT:s.heap.get? T=some o) (hTI:IsPair s.heap TI (.ref i1) (.ref i2))
 (h1:s.heap.IsListIter i1 l1 k1) (h2:s.heap.IsListIter i2 l2 k2) (hl1:s.heap.IsList l1 xs) (hl2:s.heap.IsList l2 ys) (hend:xs[k1]? = none\/ys[k2]? = none)
 (hE:∀h' e,(∀c o,c≠z->c≠TO->c≠i1->c≠i2->s.heap.get? c=some o->h'.get? c=some o)->(∃o,h'.get? e=some o/\o.cls = .type "StopIteration")->E (.ref e) { s with heap:=h' }) :
 wpAny (model prog w) A (Builtin.«zip.__next__» ⟨[.ref z],[]⟩) Q E s:=by
 show wpAny _ _ (field (.ref z) 2 >>= _) _ _ _;refine wpAny_bind (wpAny_field hz rfl (x:=.bool false) rfl ?_);show wpAny _ _ (field (.ref z) 3 >>= _) _ _ _;refine wpAny_bind (wpAny_field hz rfl (x:=.ref TI) rfl ?_);refine wpAny_bind (wpAny_seqItems hTI rfl ?_);show wpAny _ _ (Builtin.SmallTypes.ownedTupleIsFree (.ref z) >>= _) _ _ _;refine wpAny_bind (Zag hz hT λh₀ b₀ hz₀ hs₀ => ?_);simp only [Bool.false_eq_true,if_false]
 simp only [List.forIn_toArray,List.forIn_cons,List.forIn_nil];refine wpAny_bind (wpAny_bind (wpAny_bind (wpAny_holding ?_)));show wpAny _ _ (Builtin.SmallTypes.nextOf (.ref i1) >>= _) _ _ _;cases hx:xs[k1]? with
 |none=>
  refine wpAny_bind (wpAny_nextOf_list_end hh (h1.extBut hs₀.extBut D.i1z) (hl1.extBut hs₀.extBut D.l1z) hx λh₂ e hs₂ he => ?_);exact hE h₂ e (λc o c1 _ c3 _ x=>hs₂ _ _ c3 (hs₀.extBut _ _ c1 x)) he
 |some x=>
  have hy:ys[k2]? = none:=by rcases hend with h|h;rw [hx]at h;cases h;exact h
  refine wpAny_bind (wpAny_nextOf_list_item (h1.extBut hs₀.extBut D.i1z) (hl1.extBut hs₀.extBut D.l1z) hx λh₁ h1₁ hs₁=>wpAny_pure (wpAny_pure ?_));refine wpAny_bind (wpAny_bind (wpAny_holding ?_));show wpAny _ _ (Builtin.SmallTypes.nextOf (.ref i2) >>= _) _ _ _;refine wpAny_bind (wpAny_nextOf_list_end hh ((h2.extBut hs₀.extBut D.i2z).extBut hs₁.extBut D.i12.symm) ((hl2.extBut hs₀.extBut D.l2z).extBut hs₁.extBut D.l2i1) hy λh₂ e hs₂ he => ?_)
  exact hE h₂ e (λc o c1 _ c3 c4 x=>hs₂ _ _ c4 (hs₁.extBut _ _ c3 (hs₀.extBut _ _ c1 x))) he
structure ZipSt(h:Heap)(z TI TO i1 i2 l1 l2:Addr)(i:Nat):Prop where
 zip:∃f0 b,UD h z TI TO f0 (.bool b)/\((f0 = .none/\b=false)\/∃T o,f0=rawInt (T:Nat)/\h.get? T=some o)
 TI:IsPair h TI (.ref i1) (.ref i2)
 TO:∃a b,IsPair h TO a b
 it1:h.IsListIter i1 l1 i
 it2:h.IsListIter i2 l2 i
theorem Zao {z TI TO i1 i2 l1 l2:Addr} {i:Nat} {xs ys:Array Value} {x y:Value} {Q:Option Value->Shared->Prop} (D:ZipApart z TI TO i1 i2 l1 l2) (st:ZipSt s.heap z TI TO i1 i2 l1 l2 i)
 (hl1:s.heap.IsList l1 xs) (hl2:s.heap.IsList l2 ys) (hx:xs[i]? = some x) (hy:ys[i]? = some y)
 (hQ:∀h',ZipSt h' z TI TO i1 i2 l1 l2 (i+1)->IsPair h' s.heap.objs.size x y->h'.objs.size=s.heap.objs.size+1 ->
   (∀c o,c≠z->c≠TO->c≠i1->c≠i2->s.heap.get? c=some o->h'.get? c=some o)->Q (some (.ref s.heap.objs.size)) { s with heap:=h' }) :
 wpAny (model prog w) A (pyNext (.ref z)) Q E s:=by
 obtain⟨f0,b,hz,hf⟩:=st.zip;obtain⟨a,b',hTO⟩:=st.TO;rcases hf with⟨rfl,rfl⟩|⟨T,o,rfl,hT⟩
 · refine wpAny_pyNext_zip_item D hz st.TI hTO st.it1 st.it2 hl1 hl2 hx hy λh' a1 a2 a3 a4 a5 a6 a7=>hQ h' ⟨⟨_,false,a1,.inr ⟨_,_,rfl,a5⟩⟩,a7 _ _ D.TIz D.TITO D.TIi1 D.TIi2 st.TI,⟨_,_,a2⟩,a3,a4⟩ a5 a6 a7
 · have hTy:s.TypeIs (.ref z) "zip" := ⟨_,hz,rfl⟩
   unfold pyNext
   refine wpAny_bind (wpAny_attempt (wpAny_callSpecial?_slot (name:=Str.ofString "__next__") hTy F.slot_zip_next
    (wpAny_call_entry F.slot_zip_next hTy F.entry_zip_next
      (ZaF D hz hT st.TI st.it1 st.it2 hl1 hl2 hx hy λh' b2 a1 a3 a4 a5 a6 a7=>wpAny_pure ?_) (F.args_zip_next_1 _))))
   refine hQ h' ⟨⟨_,b2,a1,?_⟩,a7 _ _ D.TIz D.TIi1 D.TIi2 st.TI,⟨a,b',a7 _ _ D.TOz D.TOi1 D.TOi2 hTO⟩,a3,a4⟩ a5 a6 λc o c1 _ c3 c4 e=>a7 c o c1 c3 c4 e
   have key:∃o',h'.get? T=some o':=by
    by_cases e1:T=z
    · exact⟨_,by rw [e1];exact a1⟩
    · by_cases e2:T=i1
      · obtain⟨o',q,_⟩:=a3
        exact⟨o',e2▸q⟩
      · by_cases e3:T=i2
        · obtain⟨o',q,_⟩:=a4
          exact⟨o',e3▸q⟩
        · exact⟨o,a7 T o e1 e2 e3 hT⟩
   obtain⟨o',ho'⟩:=key;exact .inr ⟨T,o',rfl,ho'⟩
theorem ZaE {z TI TO i1 i2 l1 l2:Addr} {i:Nat} {xs ys:Array Value} {Q:Option Value->Shared->Prop} (hh:A.handled=none) (D:ZipApart z TI TO i1 i2 l1 l2) (st:ZipSt s.heap z TI TO i1 i2 l1 l2 i)
 (hl1:s.heap.IsList l1 xs) (hl2:s.heap.IsList l2 ys) (hend:xs[i]? = none\/ys[i]? = none)
 (hQ:∀h',(∀c o,c≠z->c≠TO->c≠i1->c≠i2->s.heap.get? c=some o->h'.get? c=some o)->Q none { s with heap:=h' }) :
 wpAny (model prog w) A (pyNext (.ref z)) Q E s:=by
 obtain⟨f0,b,hz,hf⟩:=st.zip;obtain⟨a,b',hTO⟩:=st.TO;rcases hf with⟨rfl,rfl⟩|⟨T,o,rfl,hT⟩
 · exact wpAny_pyNext_zip_end hh D hz st.TI hTO st.it1 st.it2 hl1 hl2 hend hQ
 · have hTy:s.TypeIs (.ref z) "zip" := ⟨_,hz,rfl⟩
   unfold pyNext
   refine wpAny_bind (wpAny_attempt (wpAny_callSpecial?_slot (name:=Str.ofString "__next__") hTy F.slot_zip_next
    (wpAny_call_entry F.slot_zip_next hTy F.entry_zip_next (Za1 hh D hz hT st.TI st.it1 st.it2 hl1 hl2 hend λh' e hk he => ?_) (F.args_zip_next_1 _))))
   obtain⟨o,ho,hc⟩:=he;refine wpAny_bind (wpAny_isInstance (T:="StopIteration") (b:=true) ⟨o,ho,hc⟩ isSubtype_stop ?_);exact wpAny_pure (hQ _ hk)
def JT(h:Heap)(lo:Nat)(xs ys acc:Array Value)(i:Nat):Prop:=acc.size=i/\(∀(j:Nat)(v:Value),acc[j]? = some v->∃(T:Nat) (x y:Value),v=Value.ref T/\lo<=T/\xs[j]? = some x/\ys[j]? = some y/\IsPair h T x y)/\∀(j k:Nat)(v:Value),acc[j]? = some v->acc[k]? = some v->j=k
theorem Zaj {R:Result->Shared->Prop} {z TI TO i1 i2 l1 l2 S:Addr} {lo n:Nat} {xs ys:Array Value} {res:Value} (hh:A.handled=none) (D:ZipApart z TI TO i1 i2 l1 l2)
 (hn:n=min xs.size ys.size) (hns:n<=sizeLine) (hSz:S≠z) (hSTI:S≠TI) (hSTO:S≠TO) (hS1:S≠i1) (hS2:S≠i2) (hSl1:S≠l1) (hSl2:S≠l2) (hlo:S<lo/\z<lo/\TO<lo/\i1<lo/\i2<lo) :
 ∀(k i:Nat)(s:Shared)(acc:Array Value)(c:Nat),n-i=k->i<=n->lo<=s.heap.objs.size->ZipSt s.heap z TI TO i1 i2 l1 l2 i->s.heap.IsList l1 xs->s.heap.IsList l2 ys ->
 s.heap.get? S=some { cls := .type "list",dict:=none,data := .seq acc c,slots := #[] }->JT s.heap lo xs ys acc i ->
 (∀h' acc' c',(∀b o,b≠S->b≠z->b≠TO->b≠i1->b≠i2->s.heap.get? b=some o->h'.get? b=some o)->h'.get? S=some { cls := .type "list",dict:=none,data := .seq acc' c',slots := #[] }->JT h' lo xs ys acc' n->R (.ok (.ret res)) { s with heap:=h' }) ->
 codeAny (model prog w) A (.builtin "list.extend.loop" ⟨[.ref S,.ref z,res],[]⟩) R s:=by
 have far:∀T:Nat,lo<=T->T≠S/\T≠z/\T≠TO/\T≠i1/\T≠i2:=λT hT=>by
  obtain⟨q1,q2,q3,q4,q5⟩:=hlo;exact⟨Nat.ne_of_gt (Nat.lt_of_lt_of_le q1 hT),Nat.ne_of_gt (Nat.lt_of_lt_of_le q2 hT),Nat.ne_of_gt (Nat.lt_of_lt_of_le q3 hT),Nat.ne_of_gt (Nat.lt_of_lt_of_le q4 hT),Nat.ne_of_gt (Nat.lt_of_lt_of_le q5 hT)⟩
 intro k
 induction k with
 |zero=>
  intro i s acc c hk hi hlo' st hl1 hl2 hS hacc hR;have hin:i=n:=by omega
  refine codeAny_builtin F.entry_extend_loop ?_;rw [Around.under_plainId F.plain_extend_loop _];show wpAny _ A.in1 (pyNext (.ref z) >>= _) _ _ s;refine wpAny_bind (ZaE hh D st hl1 hl2 ?_ λh' k2 => ?_)
  · rcases Nat.le_total xs.size ys.size with h|h
    · exact .inl (by rw [Array.getElem?_eq_none_iff];omega)
    · exact .inr (by rw [Array.getElem?_eq_none_iff];omega)
  · refine wpAny_pure (hR h' acc c (λb o _ b1 b2 b3 b4 e=>k2 b o b1 b2 b3 b4 e) (k2 S _ hSz hSTO hS1 hS2 hS) ?_)
    rw [<-hin];refine⟨hacc.1,λj v hj => ?_,hacc.2.2⟩;obtain⟨T,x,y,e1,e2,e3,e4,e5⟩:=hacc.2.1 j v hj;obtain⟨_,f2,f3,f4,f5⟩:=far T e2;exact⟨T,x,y,e1,e2,e3,e4,k2 T _ f2 f3 f4 f5 e5⟩
 |succ k ih=>
  intro i s acc c hk hi hlo' st hl1 hl2 hS hacc hR;have hlt:i<n:=by omega
  have hx:xs[i]? = some xs[i]:=Array.getElem?_eq_getElem (by omega);have hy:ys[i]? = some ys[i]:=Array.getElem?_eq_getElem (by omega);refine codeAny_builtin F.entry_extend_loop ?_;rw [Around.under_plainId F.plain_extend_loop _];show wpAny _ A.in1 (pyNext (.ref z) >>= _) _ _ s;refine wpAny_bind (Zao D st hl1 hl2 hx hy λh' st' hp hsz k2 => ?_);have hS':=k2 S _ hSz hSTO hS1 hS2 hS;show wpAny _ A.in1 (updateSeq S (·.push (.ref s.heap.objs.size)) >>= _) _ _ _
  refine wpAny_bind ?_;have oth:∀b o,b≠S->h'.get? b=some o->(h'.update S (Obj.mapSeq (·.push (Value.ref s.heap.objs.size)))).get? b=some o:=λb o hb e=>(Heap.get?_update_other _ _ (Ne.symm hb)).trans e
  have hszS:s.heap.objs.size≠S:=(far _ hlo').1
  refine wpAny_updateSeq hS' rfl (wpAny_pure ⟨plainId_quiet F.plain_extend_loop _,ih (i+1) _ (acc.push (.ref s.heap.objs.size)) _ (by omega) hlt ?_ ?_ ?_ ?_ (Heap.get?_update_self _ hS' rfl) ?_ λh'' acc' c' k3 hS'' hacc' => ?_⟩)
   (by rw [hacc.1];omega) (by show(acc.push _).size<=sizeLine+1;rw [Array.size_push,hacc.1];omega)
  · show lo<=(h'.update S _).objs.size
    rw [Heap.size_update,hsz];exact Nat.le_trans hlo' (Nat.le_succ _)
  · obtain⟨f0,b,q1,q2⟩:=st'.zip
    obtain⟨a1,a2,q3⟩:=st'.TO;refine⟨⟨f0,b,oth _ _ (Ne.symm hSz) q1,?_⟩,oth _ _ (Ne.symm hSTI) st'.TI,⟨a1,a2,oth _ _ (Ne.symm hSTO) q3⟩,st'.it1.at λo e=>oth _ o (Ne.symm hS1) e,st'.it2.at λo e=>oth _ o (Ne.symm hS2) e⟩;rcases q2 with q2|⟨T,o,q4,q5⟩
    · exact .inl q2
    · by_cases hT:T=S
      · exact .inr ⟨T,_,q4,by rw [hT];exact Heap.get?_update_self _ hS' rfl⟩
      · exact .inr ⟨T,o,q4,oth T o hT q5⟩
  · exact Heap.IsList.at (hl1.at λo e=>k2 l1 o D.l1z D.l1TO D.l1i1 D.l1i2 e) λo e=>oth l1 o (Ne.symm hSl1) e
  · exact Heap.IsList.at (hl2.at λo e=>k2 l2 o D.l2z D.l2TO D.l2i1 D.l2i2 e) λo e=>oth l2 o (Ne.symm hSl2) e
  · have old : ∀ (j : Nat), acc[j]? ≠ some (Value.ref s.heap.objs.size) := fun j z => by
     obtain⟨T,x,y,e1,e2,e3,e4,e5⟩:=hacc.2.1 j _ z;cases e1;exact absurd (Heap.lt_size e5) (Nat.lt_irrefl _)
    refine⟨by rw [Array.size_push,hacc.1],λj v hj => ?_,λj k v hj hk => ?_⟩
    · rw [Array.getElem?_push]at hj
      split at hj
      · rename_i e
        rw [hacc.1]at e;cases hj;exact⟨_,_,_,rfl,hlo',e▸hx,e▸hy,oth _ _ hszS hp⟩
      · obtain⟨T,x,y,e1,e2,e3,e4,e5⟩:=hacc.2.1 j v hj
        obtain⟨f1,f2,f3,f4,f5⟩:=far T e2;exact⟨T,x,y,e1,e2,e3,e4,oth _ _ f1 (k2 T _ f2 f3 f4 f5 e5)⟩
    · rw [Array.getElem?_push]at hj hk
      split at hj
      · rename_i ej
        split at hk
        · rename_i ek
          rw [ej,ek]
        · cases hj
          exact absurd hk (old k)
      · split at hk
        · cases hk
          exact absurd hj (old j)
        · exact hacc.2.2 j k v hj hk
  · exact hR h'' acc' c' (λb o b0 b1 b2 b3 b4 e=>k3 b o b0 b1 b2 b3 b4 (oth b o b0 (k2 b o b1 b2 b3 b4 e))) hS'' hacc'
theorem ZcK:typeLookup (.type "zip") "__len__" = pure none:=by rw [typeLookup_type,builtinLookup_eq_fast];kernel_rfl
theorem ZbQ:typeLookup (.type "zip") "__length_hint__" = pure none:=by rw [typeLookup_type,builtinLookup_eq_fast];kernel_rfl
theorem Zap {R:Result->Shared->Prop} {z TI TO i1 i2 l1 l2 S:Addr} {lo n c₀:Nat} {xs ys:Array Value} {res a0 b0:Value} (hh:A.handled=none) (D:ZipApart z TI TO i1 i2 l1 l2)
 (hn:n=min xs.size ys.size) (hns:n<=sizeLine) (hSz:S≠z) (hSTI:S≠TI) (hSTO:S≠TO) (hS1:S≠i1) (hS2:S≠i2) (hSl1:S≠l1) (hSl2:S≠l2) (hlo:S<lo/\z<lo/\TO<lo/\i1<lo/\i2<lo) (hlo':lo<=s.heap.objs.size)
 (hz:IsZip s.heap z TI TO .none) (hTI:IsPair s.heap TI (.ref i1) (.ref i2)) (hTO:IsPair s.heap TO a0 b0) (h1:s.heap.IsListIter i1 l1 0) (h2:s.heap.IsListIter i2 l2 0) (hl1:s.heap.IsList l1 xs) (hl2:s.heap.IsList l2 ys)
 (hS:s.heap.get? S=some { cls := .type "list",data := .seq #[] c₀ })
 (hR:∀h' acc' c',(∀b o,b≠S->b≠z->b≠TO->b≠i1->b≠i2->s.heap.get? b=some o->h'.get? b=some o)->h'.get? S=some { cls := .type "list",dict:=none,data := .seq acc' c',slots := #[] }->JT h' lo xs ys acc' n->R (.ok (.ret res)) { s with heap:=h' }) :
 wpAny (model prog w) A.in1 (Builtin.List.listExtendWith (.ref S) (.ref z) res)
  (λfin s'=>match fin with | .done f=>R (.ok f) s' | .again c'=>c'.quiet=true/\codeAny (model prog w) A c' R s') (λe s'=>R (.error e) s') s:=by
 have hTy:s.TypeIs (.ref z) "zip" := ⟨_,hz,rfl⟩
 unfold Builtin.List.listExtendWith;refine wpAny_bind (wpAny_typeOf hTy ?_);have g1:Builtin.List.listSameRef (.ref S) (.ref z)=false:=by simp [Builtin.List.listSameRef,hSz]
 have g2:(Value.type "zip" == Value.type "list")=false:=by decide
 have g3:(Value.type "zip" == Value.type "tuple")=false:=by decide
 simp only [g1,g2,g3,Bool.or_false,Bool.false_eq_true,if_false];refine wpAny_bind (wpAny_pyIter_zip hz ?_);refine wpAny_bind (wpAny_holding ?_);unfold Builtin.List.listLengthHint;refine wpAny_bind (wpAny_specialOf hTy ZcK ?_);show wpAny _ A.in1 (specialOf (Value.ref z) (Str.ofString "__length_hint__") >>= _) _ _ _;refine wpAny_bind (wpAny_specialOf hTy ZbQ ?_);refine wpAny_pure ?_
 show wpAny _ A.in1 (rule "list.extend.makes-room" >>= λ_=>Builtin.List.listTouch (.ref S) >>= λ_=>
  again (.builtin "list.extend.loop" ⟨[.ref S,.ref z,res],[]⟩)) _ _ _
 refine wpAny_bind (wpAny_rule ?_);refine wpAny_bind ?_;show wpAny _ A.in1 (updateSeq S (·.push .none) >>= λ_=>updateSeq S (·.pop)) _ _ _;refine wpAny_bind (wpAny_updateSeq hS rfl ?_);have hS₂:=Heap.get?_update_self (Obj.mapSeq (·.push Value.none)) hS rfl;refine wpAny_updateSeq hS₂ rfl ?_;have hS₃:=Heap.get?_update_self (Obj.mapSeq (·.pop)) hS₂ rfl
 have oth:∀b o,b≠S->s.heap.get? b=some o->((s.heap.update S (Obj.mapSeq (·.push Value.none))).update S (Obj.mapSeq (·.pop))).get? b=some o:=
  λb o hb e=>(Heap.get?_update_other _ _ (Ne.symm hb)).trans ((Heap.get?_update_other _ _ (Ne.symm hb)).trans e)
 refine wpAny_pure ⟨plainId_quiet F.plain_extend_loop _,Zaj hh D hn hns hSz hSTI hSTO hS1 hS2 hSl1 hSl2 hlo n 0 _ #[] _ rfl (Nat.zero_le _) ?_ ⟨⟨_,false,oth _ _ (Ne.symm hSz) hz,.inl ⟨rfl,rfl⟩⟩,oth _ _ (Ne.symm hSTI) hTI,⟨a0,b0,oth _ _ (Ne.symm hSTO) hTO⟩,h1.at λo e=>oth _ o (Ne.symm hS1) e,h2.at λo e=>oth _ o (Ne.symm hS2) e⟩ (hl1.at λo e=>oth _ o (Ne.symm hSl1) e) (hl2.at λo e=>oth _ o (Ne.symm hSl2) e) hS₃ ⟨rfl,(λj v h=>by simp at h),λj k v h=>by simp at h⟩ λh' acc' c' k3 hS' hacc => ?_⟩
 · show lo<=((s.heap.update S _).update S _).objs.size
   rw [Heap.size_update,Heap.size_update];exact hlo'
 · exact hR h' acc' c' (λb o b0 b1 b2 b3 b4 e=>k3 b o b0 b1 b2 b3 b4 (oth b o b0 e)) hS' hacc
theorem Za2 {Q:Value->Shared->Prop} {z TI TO i1 i2 l1 l2:Addr} {n:Nat} {xs ys:Array Value} {a0 b0:Value} (hh:A.handled=none) (D:ZipApart z TI TO i1 i2 l1 l2)
 (hn:n=min xs.size ys.size) (hns:n<=sizeLine)
 (hz:IsZip s.heap z TI TO .none) (hTI:IsPair s.heap TI (.ref i1) (.ref i2)) (hTO:IsPair s.heap TO a0 b0) (h1:s.heap.IsListIter i1 l1 0) (h2:s.heap.IsListIter i2 l2 0) (hl1:s.heap.IsList l1 xs) (hl2:s.heap.IsList l2 ys)
 (hQ:∀h' acc' c',(∀b o,b≠z->b≠TO->b≠i1->b≠i2->s.heap.get? b=some o->h'.get? b=some o)->h'.get? s.heap.objs.size=some { cls := .type "list",dict:=none,data := .seq acc' c',slots := #[] }->JT h' (s.heap.objs.size+1) xs ys acc' n->Q (.ref s.heap.objs.size) { s with heap:=h' }) :
 wpAny (model prog w) A (call (.type "list") [.ref z]) Q E s:=by
 refine callType_codes (Q₁:=λobj s₁=>obj = .ref s.heap.objs.size/\s₁={ s with heap:=s.heap.push { cls := .type "list",data := .seq #[] } }) F.called_list (F.typeCall_list_1 _) F.entry_list_init
  (code_list_new _ ⟨rfl,rfl⟩) λobj s₁ h₁ => ?_
 obtain⟨rfl,rfl⟩:=h₁;have hS:(s.heap.push { cls := .type "list",data := .seq #[] }).get? s.heap.objs.size=some { cls := .type "list",data := .seq #[] }:=Heap.get?_push_size _ rfl;have up:∀b o,s.heap.get? b=some o->(s.heap.push { cls := .type "list",data := .seq #[] }).get? b=some o:=λb o e=>Heap.get?_push_of_some _ e
 have lt:∀{b o},s.heap.get? b=some o->b<s.heap.objs.size:=λe=>Heap.lt_size e
 have lz:=lt hz;have lTI:=lt hTI;have lTO:=lt hTO;have l1':i1<s.heap.objs.size:=by obtain⟨o,q,_⟩:=h1;exact lt q
 have l2':i2<s.heap.objs.size:=by obtain⟨o,q,_⟩:=h2;exact lt q
 have ll1:l1<s.heap.objs.size:=by obtain⟨o,q,_⟩:=hl1;exact lt q
 have ll2:l2<s.heap.objs.size:=by obtain⟨o,q,_⟩:=hl2;exact lt q
 refine⟨⟨_,hS,rfl⟩,F.args_list_init_2 _ _,?_⟩;show wpAny _ _ (do let old <-Builtin.List.listItems (.ref s.heap.objs.size);Builtin.List.listUpdate (.ref s.heap.objs.size) (λ_ => #[]);letGo old.toList.reverse;Builtin.List.listExtendWith (.ref s.heap.objs.size) (.ref z) .none) _ _ _;refine wpAny_bind ?_;unfold Builtin.List.listItems;refine wpAny_bind (wpAny_seqItems hS rfl (wpAny_pure ?_))
 show wpAny _ _ (updateSeq s.heap.objs.size (λ_ => #[]) >>= λ_=>letGo (#[]:Array Value).toList.reverse >>= λ_=>Builtin.List.listExtendWith (.ref s.heap.objs.size) (.ref z) .none) _ _ _;refine wpAny_bind (wpAny_updateSeq hS rfl ?_);obtain⟨c1,hS₂⟩:∃c1,((s.heap.push { cls := .type "list",data := .seq #[] }).update s.heap.objs.size (Obj.mapSeq (λ_=>(#[]:Array Value)))).get? s.heap.objs.size=some { cls := .type "list",data := .seq #[] c1 }:=⟨_,Heap.get?_update_self (Obj.mapSeq (λ_=>(#[]:Array Value))) hS rfl⟩
 have oth:∀b o,s.heap.get? b=some o->((s.heap.push { cls := .type "list",data := .seq #[] }).update s.heap.objs.size (Obj.mapSeq (λ_=>(#[]:Array Value)))).get? b=some o:=
  λb o e=>(Heap.get?_update_other _ _ (Nat.ne_of_gt (lt e))).trans (up b o e)
 refine wpAny_bind (wpAny_letGo ?_);refine Zap (A:=A.in1) (s:={ s with heap:=(s.heap.push { cls := .type "list",data := .seq #[] }).update s.heap.objs.size (Obj.mapSeq (λ_=>(#[]:Array Value))) }) (lo:=s.heap.objs.size+1) hh D hn hns (Nat.ne_of_gt lz) (Nat.ne_of_gt lTI) (Nat.ne_of_gt lTO) (Nat.ne_of_gt l1') (Nat.ne_of_gt l2') (Nat.ne_of_gt ll1) (Nat.ne_of_gt ll2) ⟨Nat.lt_succ_self _,Nat.lt_succ_of_lt lz,Nat.lt_succ_of_lt lTO,Nat.lt_succ_of_lt l1',Nat.lt_succ_of_lt l2'⟩ ?_ (oth _ _ hz) (oth _ _ hTI) (oth _ _ hTO) (h1.at λo e=>oth _ o e) (h2.at λo e=>oth _ o e) (hl1.at λo e=>oth _ o e) (hl2.at λo e=>oth _ o e) hS₂ λh' acc' c' k3 hS' hacc => ?_
 · show s.heap.objs.size+1<=((s.heap.push _).update _ _).objs.size
   rw [Heap.size_update,Heap.size_push];exact Nat.le_refl _
 · exact⟨rfl,hQ h' acc' c' (λb o b1 b2 b3 b4 e=>k3 b o (Nat.ne_of_lt (lt e)) b1 b2 b3 b4 (oth b o e)) hS' hacc⟩
end
end PySem
namespace L2
open PySem PySem.Spec PyProof.Rows
def Zci(K:PySem.W.Frag)(ta:TA):TE:=λσ H Q=>ta σ H λvs H1=>∃l1 l2 xs ys,vs=[.ref l1,.ref l2]/\SqL K H1 l1 xs/\SqL K H1 l2 ys/\xs.length<=sizeLine /\
 ∀(H2:Hp)(ps:List Addr),Same H1 H2->ps.length=min xs.length ys.length->(∀(k:Nat)(p:Addr),ps[k]? = some p->∃x y,xs[k]? = some x/\ys[k]? = some y/\H1 p=none/\H2 p=some (.tup [x,y]))->∀l,H2 l=none->H1 l=none->Q (.ref l) (upd H2 l (.lst (ps.map V.ref)))
end L2
namespace L2
open PySem PySem.Spec PyProof.Rows
theorem Zbh:∀ps:List Addr,Vals (ps.map V.ref) (ps.map Value.ref)
 | [] => .nil
 |p::ps => .cons rfl (Zbh ps)
def JU:Value->Addr
 | .ref a=>a
 |_=>0
section
variable{X:Cx}
open Classical in
theorem ZcL {K:PySem.W.Frag} {a b:Expr} {ta tb:TE} {p p2 pos pos2:Pos} (hcm:X.calm=true) (hg:Gl X "list") (hm:X.mg "list" = none) (hgz:Gl X "zip") (hmz:X.mg "zip" = none) (ha:PE X a ta) (hb:PE X b tb) (hs:starEach [a,b] X.env=(false,eval a X.env)::starEach [b] X.env:=by rfl) (hs2:starEach [b] X.env=[(false,eval b X.env)]:=by rfl)
 (ho:starEach [.Call (.Name "zip" p2) [a,b] [] pos2] X.env=[(false,eval (.Call (.Name "zip" p2) [a,b] [] pos2) X.env)]:=by rfl) (hK:X.K=K:=by rfl) :
 PE X (.Call (.Name "list" p) [.Call (.Name "zip" p2) [a,b] [] pos2] [] pos) (Zci K (Yj ta (Yj tb tNil))):=by
 subst hK;intro pins s σ H Q I h;refine wpAny_Call_Name_kw (XC I hg hm boot_list ?_ (by decide) (by decide));refine PyProof.Rows.callWith_type1 ?_ ho rfl;rw [ho];refine Calls.spliced_cons ?_;refine Call_ (XC I hgz hmz boot_zip (PyProof.Rows.callWith_type1 (thn ((Zd ha (Zd hb Zk hs2) hs) pos2 pins s σ H _ I h) λus s1 ⟨vs,H1,I1,r1,q1⟩ => ?_) (by rw [hs,hs2]) (by rw [hs2];rfl)));obtain⟨l1,l2,xs,ys,e,hq1,hq2,hzz,q⟩:=q1
 subst e;cases r1 with
 |cons r rr=>
  cases rr with
  |cons r' rr'=>
   cases rr';cases r;cases r';obtain⟨its1,rv1,p1,_⟩:=I1.list hq1;obtain⟨its2,rv2,p2',_⟩:=I1.list hq2;have lt1:l1<s1.heap.objs.size:=by obtain⟨o,ho,_⟩:=p1.isList;exact Heap.lt_size ho
   have lt2:l2<s1.heap.objs.size:=by obtain⟨o,ho,_⟩:=p2'.isList;exact Heap.lt_size ho
   have el1:=rv1.length;have el2:=rv2.length;refine call_zip_2 p1.isList p2'.isList λh' hz hTI hTO h1 h2 hsz k => ?_
   refine Calls.spliced_nil ?_;have D:ZipApart (s1.heap.objs.size+4) (s1.heap.objs.size+2) (s1.heap.objs.size+3) s1.heap.objs.size (s1.heap.objs.size+1) l1 l2:=zipApart_new lt1 lt2;refine Za2 (s:={ s1 with heap:=h' }) (n:=min xs.length ys.length) (I1.ok.hd hcm) D (by simp [el1,el2]) (Nat.le_trans (Nat.min_le_left _ _) hzz) hz hTI hTO h1 h2 (p1.isList.at λo e=>k _ o e) (p2'.isList.at λo e=>k _ o e) λh'' acc c k3 hS hacc => ?_
   have hsz:h'.objs.size=s1.heap.objs.size+5:=hsz
   have old:∀b o,s1.heap.get? b=some o->h''.get? b=some o:=λb o e=>by
    have hb:=Heap.lt_size e;exact k3 b o (Nat.ne_of_lt (Nat.lt_of_lt_of_le hb (Nat.le_add_right _ _))) (Nat.ne_of_lt (Nat.lt_of_lt_of_le hb (Nat.le_add_right _ _))) (Nat.ne_of_lt hb) (Nat.ne_of_lt (Nat.lt_of_lt_of_le hb (Nat.le_add_right _ _))) (k b o e)
   obtain⟨hac,hit,hinj⟩:=hacc
   let ps:List Addr:=acc.toList.map JU
   have hps:∀(j:Nat)(p:Addr),ps[j]? = some p->∃x y u v,xs[j]? = some x/\ys[j]? = some y/\RelV x u/\RelV y v/\IsPair h'' p u v/\h'.objs.size+1<=p/\acc[j]? = some (Value.ref p):=λj p hj=>by
    have hj':(acc.toList[j]?).map JU=some p:=by rw [<-List.getElem?_map];exact hj
    cases ea:acc.toList[j]? with
    |none=>rw [ea]at hj';cases hj'
    |some v=>
     rw [ea]at hj';have ea':acc[j]? = some v:=by simpa using ea
     obtain⟨T,u,w',e1,e2,e3,e4,e5⟩:=hit j v ea';subst e1;have ep:T=p:=Option.some.inj hj';subst ep
     have hjl:j<its1.length:=by
      have:=(Array.getElem?_eq_some_iff.mp e3).1;simpa using this
     have hjl2:j<its2.length:=by
      have:=(Array.getElem?_eq_some_iff.mp e4).1;simpa using this
     obtain⟨u',q1,q2⟩:=rv1.get (List.getElem?_eq_getElem (show j<xs.length by omega));obtain⟨w2,q3,q4⟩:=rv2.get (List.getElem?_eq_getElem (show j<ys.length by omega));have e3':its1[j]? = some u:=by simpa using e3
     have e4':its2[j]? = some w':=by simpa using e4
     rw [e3']at q1;rw [e4']at q3;cases q1;cases q3;exact⟨_,_,u,w',List.getElem?_eq_getElem (by omega),List.getElem?_eq_getElem (by omega),q2,q4,e5,e2,ea'⟩
   have hpi:∀(j k:Nat)(p:Addr),ps[j]? = some p->ps[k]? = some p->j=k:=λj k p hj hk=>by
    obtain⟨_,_,_,_,_,_,_,_,_,_,q1⟩:=hps j p hj;obtain⟨_,_,_,_,_,_,_,_,_,_,q2⟩:=hps k p hk;exact hinj j k _ q1 q2
   have hpl:ps.length=min xs.length ys.length:=by
    show(acc.toList.map JU).length=_;rw [List.length_map,Array.length_toList];exact hac
   let H2:Hp:=λb=>if hb:∃j:Nat,ps[j]? = some b then some (.tup [(xs[hb.choose]?).getD .non,(ys[hb.choose]?).getD .non])else H1 b
   have hin:∀(j:Nat)(p:Addr)(x y:V),ps[j]? = some p->xs[j]? = some x->ys[j]? = some y->H2 p=some (.tup [x,y]):=λj p x y hj hx hy=>by
    have hb:∃j:Nat,ps[j]? = some p:=⟨j,hj⟩
    have ej:hb.choose=j:=hpi _ _ _ hb.choose_spec hj;show(if hb:∃j:Nat,ps[j]? = some p then some (HO.tup [(xs[hb.choose]?).getD .non,(ys[hb.choose]?).getD .non])else H1 p)=_;rw [dif_pos hb,ej,hx,hy];rfl
   have hout:∀b,(¬∃j:Nat,ps[j]? = some b)->H2 b=H1 b:=λb hb=>dif_neg hb
   have hfar:∀(j:Nat)(p:Addr),ps[j]? = some p->H1 p=none:=λj p hj=>by
    obtain⟨_,_,_,_,_,_,_,_,_,hge,_⟩:=hps j p hj;refine I1.hok.fresh ?_;rw [hsz]at hge;exact Nat.le_trans (Nat.le_add_right _ 6) hge
   have hsame:Same H1 H2:=λb o e=>by
    rw [hout b λ⟨j,hj⟩=>by rw [hfar j b hj]at e;cases e];exact e
   have hSn:H1 h'.objs.size=none:=I1.hok.fresh (by rw [hsz];exact Nat.le_add_right _ _)
   have hSps:¬∃j:Nat,ps[j]? = some h'.objs.size:=λ⟨j,hj⟩=>by
    obtain⟨_,_,_,_,_,_,_,_,_,hge,_⟩:=hps j _ hj;exact absurd hge (Nat.not_succ_le_self _)
   have hS2:H2 h'.objs.size=none:=by rw [hout _ hSps];exact hSn
   have up:∀b o,H1 b=some o->upd H2 h'.objs.size (.lst (ps.map V.ref)) b=some o:=λb o e=>by
    rw [ZA (Yr e hSn)];exact hsame b o e
   have big:∀b o,s1.heap.get? b=some o->(¬∃j:Nat,ps[j]? = some b)/\b≠h'.objs.size:=λb o e=>by
    have hb:=Heap.lt_size e;refine⟨λ⟨j,hj⟩ => ?_,Nat.ne_of_lt (by rw [hsz];exact Nat.lt_of_lt_of_le hb (Nat.le_add_right _ _))⟩;obtain⟨_,_,_,_,_,_,_,_,_,hge,_⟩:=hps j b hj;rw [hsz]at hge;exact absurd (Nat.lt_of_lt_of_le hb (Nat.le_trans (Nat.le_add_right _ 6) hge)) (Nat.lt_irrefl _)
   have hacc':acc.toList=ps.map Value.ref:=by
    apply List.ext_getElem?;intro j;rw [List.getElem?_map];show acc.toList[j]? = ((acc.toList.map JU)[j]?).map Value.ref;rw [List.getElem?_map];cases ea:acc.toList[j]? with
    |none=>rfl
    |some v=>
     obtain⟨T,u,w',e1,_⟩:=hit j v (by simpa using ea);rw [e1];rfl
   refine⟨.ref h'.objs.size,upd H2 h'.objs.size (.lst (ps.map V.ref)),?_,rfl,q H2 ps hsame hpl (λj p hj => ?_) _ hS2 hSn⟩
   · refine I1.un (t':=s1.toks) ⟨λb u q _ _ _=>old b u q,λb u q _ _ _=>⟨u.slots,old b u q⟩,λb u e n _ => ?_,λb u q _=>⟨u,old b u q⟩,λb zs e=>up b _ e,λb o u e=>up b _ e,λb ps' e=>⟨#[],by rw [up b _ e];simp⟩⟩ λb o e => ?_
     · obtain⟨g1,g2⟩:=big b u e
       rw [ZA g2,hout b g1];exact n
     · by_cases hb:b=h'.objs.size
       · subst hb
         rw [ZW]at e;cases e;refine⟨by rw [List.length_map,hpl];exact Nat.le_trans (Nat.min_le_left _ _) hzz,acc.toList,c,by rw [hacc'];exact Zbh ps,?_⟩;simpa using hS
       · rw [ZA hb]at e
         by_cases hbp:∃j:Nat,ps[j]? = some b
         · obtain⟨j,hj⟩:=hbp
           obtain⟨x,y,u,v,g1,g2,g3,g4,g5,_,_⟩:=hps j b hj;rw [hin j b x y hj g1 g2]at e;cases e;exact⟨by show 2<=sizeLine;decide,[u,v],.cons g3 (.cons g4 .nil),⟨_,g5,rfl,⟨_,rfl⟩,rfl⟩⟩
         · rw [hout b hbp]at e
           exact(I1.hok b o e).stay (λd v _ q'=>old d v q') (λd q'=>up d _ q') λd zs q'=>up d _ q'
   · obtain⟨x,y,u,v,g1,g2,g3,g4,g5,_,_⟩:=hps j p hj
     exact⟨x,y,g1,g2,hfar j p hj,hin j p x y hj g1 g2⟩
end
end L2
namespace DL
open PySem PySem.Spec L2
section
variable{cA:Kn}{G:Cn}{ow:List Nat}
def QX(a b:Env->Option D)(δ:Env):Option D:=match a δ,b δ with
 |some (.lst xs),some (.lst ys)=>if xs.length<=sizeLine then some (.lst (Ym xs ys))else none
 |_,_=>none
theorem Zdr{av:Addr->Prop}{H:Hp}:∀{xs ys:List D}{vs ws:List V}{ps:List Addr},RepL cA av H xs vs->RepL cA av H ys ws->ps.length=min xs.length ys.length ->
 (∀(k:Nat)(p:Addr),ps[k]? = some p->∃x y,vs[k]? = some x/\ws[k]? = some y/\¬av p/\H p=some (.tup [x,y]))->RepL cA av H (Ym xs ys) (ps.map V.ref)
 | [],ys,vs,ws,ps,_,_,hl,_=>by
  rw [List.length_nil,Nat.zero_min]at hl;rw [List.length_eq_zero_iff.mp hl];exact .nil
 |x::xs,[],vs,ws,ps,_,_,hl,_=>by
  rw [List.length_nil,Nat.min_zero]at hl;rw [List.length_eq_zero_iff.mp hl];exact .nil
 |x::xs,y::ys,vs,ws,ps,h1,h2,hl,hp=>by
  obtain⟨v,r,rfl,a1,t1⟩:=h1.uncons;obtain⟨w,r',rfl,a2,t2⟩:=h2.uncons;rw [List.length_cons,List.length_cons]at hl;cases ps with
  |nil=>simp at hl
  |cons p ps=>
   refine .cons ?_ (Zdr t1 t2 (by rw [List.length_cons]at hl;omega) λk q hk=>by
    obtain⟨x,y,g1,g2,g3,g4⟩:=hp (k+1) q (by simpa using hk);exact⟨x,y,by simpa using g1,by simpa using g2,g3,g4⟩)
   obtain⟨x',y',g1,g2,g3,g4⟩:=hp 0 p rfl;cases g1;cases g2;unfold Rep;exact⟨p,[v,w],rfl,g3,g4,.cons a1 (.cons a2 .nil)⟩
theorem ZcM{ta tb:TE}{a b:Env->Option D}(ha:VE G ow ta .cl a)(hb:VE G ow tb .cl b):VF G ow (Zci G.1.K (Yj ta (Yj tb tNil))) (QX a b):=λH0 av A σ H δ E d e Q k=>by
 unfold QX at e
 split at e
 · rename_i xs ys ex ey
   by_cases hz:xs.length<=sizeLine
   · rw [if_pos hz]at e
     cases e;refine ha H0 av A σ H δ E _ ex _ λv H1 s1 r1=>hb H0 av A σ H1 δ (E.mono s1) _ ey _ λw H2 s2 r2 => ?_
     obtain⟨l1,vs,rfl,_,rd1,p1⟩:=r1;obtain⟨l2,ws,rfl,_,rd2,p2⟩:=r2;have p1':=p1.same s2;have E2:=(E.mono s1).mono s2;refine⟨l1,l2,vs,ws,rfl,s2.seq rd1,rd2,by rw [<-p1.length];exact hz,λH3 ps s3 hpl hps l hl _ => ?_⟩;refine k l _ (Ym xs ys) H3 ((s1.trans s2).trans s3) hl (Zdr (p1'.same s3) (p2.same s3) (by rw [hpl,p1.length,p2.length]) λk p hk => ?_) rfl;obtain⟨x,y,g1,g2,g3,g4⟩:=hps k p hk
     exact⟨x,y,g1,g2,λz=>E2.avl p z g3,g4⟩
   · rw [if_neg hz]at e;cases e
 · cases e
end
end DL
namespace L2
open PySem PySem.Spec PyProof.Rows
def Zcj(ta:TA):TE:=λσ H Q=>ta σ H λvs H1=>∃n:Nat,vs=[.int (n:Int)]/\n<=1000000/\∀l,H1 l=none->Q (.ref l) (upd H1 l (.lst ((List.range n).map λk:Nat=>V.int (k:Int))))
theorem ZeH(acc:List Value)(n:Nat)(hl:acc.length=n)(h:∀(j:Nat)(v:Value),acc[j]? = some v->∃t,v = .int (0+(j:Nat)*1) t):Vals ((List.range n).map λk:Nat=>V.int (k:Int)) acc:=by
 have go:∀(k:Nat)(acc:List Value),(∀(j:Nat)(v:Value),acc[j]? = some v->∃t,v = .int ((k+j:Nat):Int) t)->Vals ((List.range' k acc.length).map λk:Nat=>V.int (k:Int)) acc:=λk acc=>by
  induction acc generalizing k with
  |nil=>exact λ_ => .nil
  |cons v acc ih=>
   intro h;rw [List.length_cons,List.range'_succ,List.map_cons];obtain⟨t,e⟩:=h 0 v rfl;refine .cons ⟨t,e⟩ (ih (k+1) λj v hj => ?_);obtain⟨t,e⟩:=h (j+1) v (by simpa using hj);exact⟨t,by rw [e,show k+(j+1)=k+1+j by omega]⟩
 rw [List.range_eq_range',<-hl]
 exact go 0 acc λj v hj=>by
  obtain⟨t,e⟩:=h j v hj;exact⟨t,by rw [e];congr 1;omega⟩
theorem ZcN {X:Cx} {a:Expr} {ta:TA} {p p2 pos pos2:Pos} (hcm:X.calm=true) (hg:Gl X "list") (hm:X.mg "list" = none) (hgz:Gl X "range") (hmz:X.mg "range" = none) (ha:PA X [a] ta) (hs:starEach [a] X.env=[(false,eval a X.env)]:=by rfl)
 (ho:starEach [.Call (.Name "range" p2) [a] [] pos2] X.env=[(false,eval (.Call (.Name "range" p2) [a] [] pos2) X.env)]:=by rfl) :
 PE X (.Call (.Name "list" p) [.Call (.Name "range" p2) [a] [] pos2] [] pos) (Zcj ta):=by
 intro pins s σ H Q I h;refine wpAny_Call_Name_kw (XC I hg hm boot_list ?_ (by decide) (by decide));refine PyProof.Rows.callWith_type1 ?_ ho rfl;rw [ho];refine Calls.spliced_cons ?_;refine Call_ (XC I hgz hmz boot_range (PyProof.Rows.callWith_type1 (thn (ha pos2 pins s σ H _ I h) λus s1 ⟨vs,H1,I1,r1,q1⟩ => ?_) hs rfl));obtain⟨n,e,hz,q⟩:=q1;subst e;cases r1 with
 |cons r rr=>
  cases rr;obtain⟨t,rfl⟩:=r;refine call_range_1 ?_;refine Calls.spliced_nil ?_;have hsz:Builtin.Range.rangeSize 0 (n:Int) 1=(n:Nat):=by rw [rangeSize_one];split<;>omega
  refine call_list_range (I1.ok.hd hcm) (Heap.get?_push_size _ rfl) (small_one (by omega) (by omega) (by omega) (by omega)) hsz (by omega) λh' tk acc c k3 hS hacc => ?_
  have k:∀b o,s1.heap.get? b=some o->h'.get? b=some o:=λb o e=>k3 b o (Heap.get?_push_of_some _ e)
  have hge:s1.heap.objs.size<=(s1.heap.push { cls := .type "range",data := .fields #[.int 0 s1.toks,.int (n:Int) t,.int 1 (s1.toks+1)] }).objs.size:=by rw [Heap.size_push];exact Nat.le_succ _
  refine⟨.ref (s1.heap.push { cls := .type "range",data := .fields #[.int 0 s1.toks,.int (n:Int) t,.int 1 (s1.toks+1)] }).objs.size,_,I1.laid (t':=tk) k hge (show ObjOk X.prog X.w _ h' _ (.lst _)from⟨?_,acc.toList,c,ZeH acc.toList n (by simpa using hacc.1) λj v hj=>hacc.2 j v (by simpa using hj),hS⟩),rfl,q _ (I1.hok.fresh hge)⟩;rw [List.length_map,List.length_range,sizeLine_eq]
  omega
end L2
namespace DL
open PySem PySem.Spec L2
def U4(a:Env->Option (List D))(δ:Env):Option D:=match a δ with
 |some [.int n]=>if 0<=n/\n<=1000000 then some (.lst ((List.range n.toNat).map λk:Nat=>D.int (k:Int)))else none
 |_=>none
theorem ZcO{G:Cn}{ow:List Nat}{ta:TA}{q:Ql}{a:Env->Option (List D)}(h:VA G ow ta q a):VF G ow (Zcj ta) (U4 a):=λH0 av A σ H δ E d e Q k=>by
 unfold U4 at e
 split at e
 · rename_i n ex
   by_cases hz:0<=n/\n<=1000000
   · rw [if_pos hz]at e
     cases e;refine h H0 av A σ H δ E _ ex _ λvs H1 s1 r1 => ?_
     refine⟨n.toNat,?_,by omega,λl hl=>k l _ _ H1 s1 hl ?_ rfl⟩
     · rw [Int.toNat_of_nonneg hz.1]
       exact ql1 r1
     · have:=RepL.of_vals (cA:=G.1) (av:=AV av A) (H:=H1) (xs:=(List.range n.toNat).map λk:Nat=>D.int (k:Int)) (by rw [List.all_map];exact List.all_eq_true.mpr λ_ _=>rfl)
       rw [List.map_map]at this;exact this
   · rw [if_neg hz]at e;cases e
 · cases e
end DL
namespace DL
open PySem PySem.Spec L2
def FLN(cA:Kn)(H0:Hp)(av:Addr->Prop)(De:Ends)(d:D):Prop:=FL cA H0 av De d/\(d = .non->∀H',Same H0 H'->De.rt .non H')
def JV(G:Cn)(ow:List Nat)(ts:TS)(φ:Env->Option Out):Prop:=∀H0 av A σ H δ,ER G ow H0 av A σ H δ->∀d,φ δ=some (.rt d)->∀De:Ends,FLN G.1 H0 av De d->ts De σ H
def Y7(φ ψ:Env->Option Out)(δ:Env):Option Out:=match φ δ with
 |some (.nx δ')=>ψ δ'
 |some (.rt .non)=>some (.rt .non)
 |_=>none
def JW(ε:Env->Option D)(δ:Env):Option D:=match ε δ with
 |some (.lst xs)=>some (.lst xs)
 |_=>none
def JX(ε:Env->Option D)(δ:Env):Option D:=match ε δ with
 |some .non=>some .non
 |_=>none
section
variable{cA:Kn}{G:Cn}{ow owN owB owC ow1:List Nat}{i:Nat}
theorem Zgc{t:TS}{φ:Env->Option Out}(h:VSL G ow t φ):JV G ow t φ:=λH0 av A σ H δ E d e De k=>h H0 av A σ H δ E d e De k.1
theorem JY{t u:TS}{φ ψ:Env->Option Out}(h1:VS G ow ow1 [] [] t φ)(h2:JV G ow1 u ψ):JV G ow (Yn t u) (Y7 φ ψ):=λH0 av A σ H δ E d e De k=>by
 unfold Y7 at e
 split at e
 · rename_i δ' hp
   exact h1 H0 av A σ H δ E _ hp _ λA' σ' H' E'=>h2 H0 av A' σ' H' δ' E' d e De k
 · rename_i hp
   cases e;refine h1 H0 av A σ H δ E _ hp _ λv H' s r => ?_
   have hv:v = .non:=r;rw [hv];exact k.2 rfl H' s
 · cases e
def JZ(cA:Kn)(n:Nat)(m:List D->Option D):Sp:=λvs H Q _=>∃av ds d,(∀a,av a->H a≠none)/\RepL cA av H ds vs/\ds.length=n/\m ds=some d/\(∀p vs xs H',Same H H'->H p=none->H' p=some (.lst vs)->RepL cA (λx=>av x\/x=p) H' xs vs->d = .lst xs->Q (.ref p) H')/\(d = .non->∀H',Same H H'->Q .non H')
open Classical in
theorem Zeb{n:Nat}{m:List D->Option D}{t:TA}{α:Env->Option (List D)}{E0:XK}(dds:List D)(hd:dds.all ZD=true)(h:VA G ow t .cl α):VF G ow (Uw (JZ G.1 n m) (dds.map val) E0 t) (JW (Zo n m dds α)):=λH0 av A σ H δ E d e Q k=>by
 unfold JW at e
 split at e
 · rename_i xs0 he0
   cases e;unfold Zo at he0;cases he:α δ with
   |none=>rw [he]at he0;cases he0
   |some ds=>
    rw [he]at he0;dsimp only at he0
    by_cases hz:(ds++dds).length=n
    · rw [if_pos hz]at he0
      refine h H0 av A σ H δ E ds he _ λvs H1 s1 r1 => ?_
      have E1:=E.mono s1;refine⟨AV av A,ds++dds,_,E1.avl,r1.cl.append (.of_vals hd),hz,he0,λp ws xs H' s hp hH' l hd => ?_,λz=>nomatch z⟩
      have eu:upd (λx=>if x=p then none else H' x) p (.lst ws)=H':=by
       funext x
       by_cases hx:x=p
       · subst hx;rw [ZW,hH']
       · rw [ZA hx,if_neg hx]
      have:=k p ws xs (λx=>if x=p then none else H' x) (λb o q => ?_) (if_pos rfl) ((l.ext λb o n q => ?_).av λb z => .inl (.inl z)) hd
      · rw [eu]at this
        exact this
      · have hb:b≠p:=λz=>by rw [z]at q;rw [s1.free hp]at q;cases q
        show(if b=p then none else H' b)=some o;rw [if_neg hb];exact s b o (s1 b o q)
      · have hb:b≠p:=λz=>n (.inr z)
        show(if b=p then none else H' b)=some o;rw [if_neg hb];exact q
    · rw [if_neg hz]at he0;cases he0
 · cases e
theorem Zec{n:Nat}{m:List D->Option D}{t:TA}{α:Env->Option (List D)}{E0:XK}{q:Ql}(dds:List D)(hd:dds.all ZD=true)(h:VA G ow t .cl α):VE G ow (Uw (JZ G.1 n m) (dds.map val) E0 t) q (JX (Zo n m dds α)):=λH0 av A σ H δ E d e Q k=>by
 unfold JX at e
 split at e
 · rename_i he0
   cases e;unfold Zo at he0;cases he:α δ with
   |none=>rw [he]at he0;cases he0
   |some ds=>
    rw [he]at he0;dsimp only at he0
    by_cases hz:(ds++dds).length=n
    · rw [if_pos hz]at he0
      refine h H0 av A σ H δ E ds he _ λvs H1 s1 r1 => ?_
      have E1:=E.mono s1;refine⟨AV av A,ds++dds,_,E1.avl,r1.cl.append (.of_vals hd),hz,he0,λp ws xs H' s hp hH' l hd=>(nomatch hd),λ_ H' s=>k _ H' (s1.trans s) ?_⟩;cases q<;>exact rfl
    · rw [if_neg hz]at he0;cases he0
 · cases e
end
section
variable{P:Program}{w:World}{K:PySem.W.Frag}{mg:Str->Option Value}{base:Heap}{cA:Kn}
theorem ZiD {x qual:Str} {st:Stmt} {f:Addr} {fd:FuncData} {N ps:List Str} {k:Nat} {φ:Env->Option Out} {body:List Stmt} {scope:Scope} {n:Nat} {m:List D->Option D} (F:FunX K x qual st f fd) (S:FnScope N ps (defScope st)) (hS:defScope st=scope) (hB:defBody st=body)
 (hbody:∀(cdv:Value)(A:Around)(outer:List PySem.Env)(s:Shared)(H:Hp)(E:XK),Room k (A.deeper (PyProof.Rows.envOfC qual scope s.heap.objs.size f cdv)) ->
   ∃t,PSs (Xa CX0 P w K mg base N qual scope f cdv A outer s H E).nox body t/\JV ⟨cA,λ_=>none⟩ [] t φ) (hm:m=Y6 N.length φ) (hn:ps.length=n):FnOk P w K mg base CX0 (k+1) f fd ps (JZ cA n m):=by
 subst hS hB hm hn;refine F.ok S (λvs H Q E h => ?_) λcdv A outer s H vs Q E hr h => ?_
 · obtain⟨av,ds,d,_,r,hl,_⟩:=h
   rw [<-r.length,hl]
 · obtain⟨av,ds,d,ha,r,hl,hm,q⟩:=h
   obtain⟨t,ht,hv⟩:=hbody cdv A outer s H E hr;refine⟨t,ht,?_⟩;unfold Y6 at hm
   split at hm
   · rename_i d' hφ
     cases hm;exact hv H av _ _ H _ (QM ha r) _ hφ _ ⟨λp vs xs H' s' h0 hp l hd=>q.1 p vs xs H' s' h0 hp l hd,λz H' s'=>q.2 z H' s'⟩
   · cases hm
end
end DL
namespace DL
open PySem PySem.Spec L2
inductive NewV(H0 H:Hp):D->V->Prop
 |flat {t p:Addr} {s:List Nat} {xs:List D} (h0:H0 t=none) (h1:H0 p=none) (ht:H t=some (.tup [S s,.ref p])) (hp:H p=some (.lst (xs.map val))) (hs:xs.all ZD=true):NewV H0 H (.tup [.str s,.lst xs]) (.ref t)
 |mat {t p:Addr} {bs:List Addr} {rows:List (List D)} {s:List Nat} (h0:H0 t=none) (h1:∀x∈p::bs,H0 x=none) (ht:H t=some (.tup [S s,.ref p])) (M:Mx H p bs rows):NewV H0 H (.tup [.str s,mat rows]) (.ref t)
def FV(H0:Hp)(De:Ends)(d:D):Prop:=∀v H',Same H0 H'->NewV H0 H' d v->De.rt v H'
def VSV(G:Cn)(ow:List Nat)(ts:TS)(φ:Env->Option Out):Prop:=∀H0 av A σ H δ,ER G ow H0 av A σ H δ->∀d,φ δ=some (.rt d)->∀De:Ends,FV H0 De d->ts De σ H
def VEV(G:Cn)(ow:List Nat)(te:TE)(ε:Env->Option D):Prop:=
 ∀H0 av A σ H δ,ER G ow H0 av A σ H δ->∀d,ε δ=some d->∀Q:VK,(∀v H',Same H H'->NewV H H' d v->Q v H')->te σ H Q
def spV(cA:Kn)(n:Nat)(m:List D->Option D):Sp:=λvs H Q _=>∃av ds d,(∀a,av a->H a≠none)/\RepL cA av H ds vs/\ds.length=n/\m ds=some d/\∀v H',Same H H'->NewV H H' d v->Q v H'
section
variable{cA:Kn}{G:Cn}{ow owN owB owC ow1:List Nat}{i:Nat}
theorem NewV.rep{H0 H:Hp}{av:Addr->Prop}{d:D}{v:V}(h:NewV H0 H d v)(hn:∀x,av x->H0 x≠none):Rep cA av H d v:=by
 cases h with
 |flat h0 h1 ht hp hs=>
  unfold Rep;refine⟨_,_,rfl,λz=>hn _ z h0,ht,.cons rfl (.cons ?_ .nil)⟩;unfold Rep;exact⟨_,_,rfl,λz=>absurd h1 (hn _ z),SqL.of hp,.of_vals hs⟩
 |mat h0 h1 ht M=>
  unfold Rep;exact⟨_,_,rfl,λz=>hn _ z h0,ht,.cons rfl (.cons (M.rep λx hx z=>hn x z (h1 x hx)) .nil)⟩
theorem J0{n:Nat}{m:List D->Option D}{t:TA}{q:Ql}{α:Env->Option (List D)}{E0:XK}(dds:List D)(hd:dds.all ZD=true)(h:VA G ow t q α):VEV G ow (Uw (spV G.1 n m) (dds.map val) E0 t) (Zo n m dds α):=λH0 av A σ H δ E d e Q k=>by
 unfold Zo at e;cases he:α δ with
 |none=>rw [he]at e;cases e
 |some ds=>
  rw [he]at e;dsimp only at e
  by_cases hz:(ds++dds).length=n
  · rw [if_pos hz]at e
    refine h H0 av A σ H δ E ds he _ λvs H1 s1 r1 => ?_
    refine⟨av,ds++dds,d,(E.mono s1).avH,r1.any.append (.of_vals hd),hz,e,λv H' s N=>k v H' (s1.trans s) ?_⟩;cases N with
    |flat h0 h1 ht hp hs=>exact .flat (s1.free h0) (s1.free h1) ht hp hs
    |mat h0 h1 ht M=>exact .mat (s1.free h0) (λx hx=>s1.free (h1 x hx)) ht M
  · rw [if_neg hz]at e;cases e
theorem VEV.cl{te:TE}{ε:Env->Option D}(h:VEV G ow te ε):VE G ow te .cl ε:=λH0 av A σ H δ E d e Q k=>
 h H0 av A σ H δ E d e Q λv H' s N=>k _ H' s (N.rep λx z=>E.avl x z).t
def YW(it iw:Nat)(s2 s3:List Nat)(εr:Env->Option D)(τ:Env->Option Bool):List D->Env->Option Out
 | [],δ=>match Za it δ with
  |some d=>some (.rt (.tup [.str s3,d]))
  |none=>none
 |w::r,δ=>match εr (δ.set iw (some w))with
  |some (.lst rs)=>match τ ((δ.set iw (some w)).set it (some (.lst rs)))with
   |some true=>match atI rs (-1)with
    |some d=>some (.rt (.tup [.str s2,d]))
    |none=>none
   |some false=>YW it iw s2 s3 εr τ r ((δ.set iw (some w)).set it (some (.lst rs)))
   |none=>none
  |_=>none
def Uh(ip it iw:Nat)(s1 s2 s3:List Nat)(εp:Env->Option D)(ι:Env->Option (List D))(εr:Env->Option D)(τ:Env->Option Bool)(δ:Env):Option Out:=match εp δ with
 |some (.lst xs)=>if xs.all ZD=true/\ip<δ.length then some (.rt (.tup [.str s1,.lst xs]))else none
 |some .non=>if ip<δ.length/\it<δ.length/\iw<δ.length then(match ι ((δ.set ip (some .non)).set it (some (.lst [])))with
  |some ws=>YW it iw s2 s3 εr τ ws ((δ.set ip (some .non)).set it (some (.lst [])))
  |none=>none)else none
 |_=>none
theorem atI_map{α β:Type}(f:α->β)(xs:List α)(i:Int):atI (xs.map f) i=(atI xs i).map f:=by
 unfold atI;rw [List.length_map];cases ixN xs.length i with
 |none=>rfl
 |some j=>exact List.getElem?_map
theorem Mx.atV{H:Hp}{a:Addr}{bs:List Addr}{rows:List (List D)}(M:Mx H a bs rows){i:Int}{r:List D}(h:atI rows i=some r):∃b∈bs,atI (bs.map V.ref) i=some (.ref b)/\H b=some (.lst (r.map val))/\r.all ZD=true:=by
 rw [atI_map];unfold atI at h ⊢;rw [M.len];cases hj:ixN rows.length i with
 |none=>rw [hj]at h;cases h
 |some j=>
  rw [hj]at h;have h:rows[j]? = some r:=h;have hl:j<rows.length:=(List.getElem?_eq_some_iff.mp h).1;have hb:bs[j]? = some (bs[j]'(by rw [M.len];exact hl)):=List.getElem?_eq_getElem _;refine⟨bs[j]'(by rw [M.len];exact hl),List.getElem_mem _,?_,M.row j _ r hb h,M.sc r (List.mem_of_getElem? h)⟩;show Option.map V.ref bs[j]? = _;rw [hb];rfl
theorem ZbR {tp tr tk:TE} {tc tt:TT} {wi:TI} {εp εr:Env->Option D} {ι:Env->Option (List D)} {τ:Env->Option Bool} {s1 s2 s3:List Nat} (ip it iw:Nat) (hip:ip≠it) (hiw:it≠iw) (n1:G.2 ip=none) (n2:G.2 it=none) (n3:G.2 iw=none)
 (hN:VE G [] tp .cl (JX εp)) (hL:VF G [] tp (JW εp)) (hc:VT G [] tc (xB (Vb (Za ip)))) (hi:VI G [] wi ι) (hr:VFM G [] tr εr) (ht:VT G [] tt τ) (hk:VE G [] tk .cl (λ_=>some (.int (-1)))) :
 VSV G [] (Yn (Y0 tp (YN ip)) (Yn (V7 tc (X5 (Qt (Yj (tC (S s1)) (Yj (YM ip) tNil)))) tNext) (Yn (Y0 (Js tNil) (YN it)) (Yn (Zh7 wi (YN iw) (Yn (Y0 tr (YN it)) (V7 tt (X5 (Qt (Yj (tC (S s2)) (Yj (tOp (X9 G.1.K) (YM it) tk) tNil)))) tNext)))
  (X5 (Qt (Yj (tC (S s3)) (Yj (YM it) tNil)))))))) (Uh ip it iw s1 s2 s3 εp ι εr τ):=λH0 av A σ H δ E d e De k=>by
 have hw:∀i j,j∈([]:List Nat) ↔ j∈([]:List Nat)/\j≠i:=λi j=>by simp
 have two:(2:Nat)<=sizeLine:=by rw [PySem.sizeLine_eq];omega
 unfold Uh at e
 split at e
 · rename_i xs hp
   by_cases hs:xs.all ZD=true/\ip<δ.length
   case neg=>rw [if_neg hs]at e;cases e
   rw [if_pos hs]at e;cases e;refine hL H0 av A σ H δ E (.lst xs) (by unfold JW;rw [hp]) _ λp vs xs' H1 s fp l ed => ?_
   cases ed;have ev:=l.vals hs.1;subst ev;have s1':Same H (upd H1 p (.lst (xs.map val))):=s.trans (ZZ fp)
   have Rp:Rep G.1 (AV av A) (upd H1 p (.lst (xs.map val))) (.lst xs) (.ref p):=by
    unfold Rep;exact⟨p,_,rfl,λz=>absurd (s.free fp) (E.avl p z),SqL.of ZW,.of_vals hs.1⟩
   have E1:=(E.mono s1').set (ow1:=[]) (i:=ip) Rp (hw ip) n1;have gi:(σ.set ip (some (V.ref p)))[ip]? = some (some (.ref p)):=List.getElem?_set_self (by rw [E.len];exact hs.2);refine hc H0 av _ _ _ _ E1 true ?_ _ λH2 s2'=>XI ⟨_,gi,two,λt ft => ?_⟩
   · have:(δ.set ip (some (.lst xs)))[ip]? = some (some (.lst xs)):=List.getElem?_set_self hs.2
     unfold xB Vb Za;rw [this];rfl
   · have sA:Same H (upd H2 t (.tup [S s1,.ref p])):=(s1'.trans s2').trans (ZZ ft)
     exact k _ _ (E.same.trans sA) (.flat (E.same.free ((s1'.trans s2').free ft)) (E.same.free (s.free fp)) ZW (((s2'.trans (ZZ ft)) _ _ ZW)) hs.1)
 · rename_i hp
   by_cases hz:ip<δ.length/\it<δ.length/\iw<δ.length
   case neg=>rw [if_neg hz]at e;cases e
   rw [if_pos hz]at e;obtain⟨z1,z2,z3⟩:=hz;refine hN H0 av A σ H δ E .non (by unfold JX;rw [hp]) _ λv H1 s r => ?_
   have hv:v = .non:=RepQ.any r;subst hv;have E1:=(E.mono s).set (ow1:=[]) (i:=ip) (show Rep G.1 (AV av A) H1 .non .non from rfl) (hw ip) n1;refine hc H0 av _ _ _ _ E1 false ?_ _ λH2 s2'=>XH ?_
   · have:(δ.set ip (some .non))[ip]? = some (some .non):=List.getElem?_set_self z1
     unfold xB Vb Za;rw [this];rfl
   have E2:=E1.mono s2';refine⟨Nat.zero_le _,λp fp => ?_⟩;have M0:Mx (upd H2 p (.lst [])) p [] []:=⟨ZW,rfl,List.nodup_nil,(λz=>by cases z),(λk b r h1 h2=>by simp at h1),(λr h=>by cases h)⟩
   have f0:∀x∈[p],H2 x=none:=λx hx=>by rw [List.mem_singleton.mp hx];exact fp
   have E3:=(E2.mono (ZZ (o:=.lst []) fp)).set (ow1:=[]) (i:=it) (M0.rep λx hx z=>E2.avl x z (f0 x hx)) (hw it) n2;cases hι:ι ((δ.set ip (some .non)).set it (some (.lst [])))with
   |none=>rw [hι]at e;cases e
   |some ws=>
   rw [hι]at e;dsimp only at e;refine hi H0 av _ _ _ _ E3 ws hι _ λJ H4 s4 W => ?_
   have E4:=E3.mono s4;have git:∀(σ0:L2.St)(x:V),σ0.length=δ.length->(σ0.set it (some x))[it]? = some (some x):=λσ0 x hl=>List.getElem?_set_self (by rw [hl];exact z2)
   refine⟨λi m σ' H'=>m=ws.length-i/\i<=ws.length/\∃A' δ' a bs rows,ER G [] (DL.cut _ H4) av A' σ' H' δ'/\δ'.length=δ.length/\σ'[it]? = some (some (.ref a))/\δ'[it]? = some (some (mat rows))/\Mx H' a bs rows/\(∀x∈a::bs,H0 x=none)/\YW it iw s2 s3 εr τ (ws.drop i) δ'=some (.rt d),
    ⟨ws.length,by simp,Nat.zero_le _,_,_,p,[],[],E4.cut,by simp,git _ _ (by rw [List.length_set];exact E.len),List.getElem?_set_self (by rw [List.length_set];exact z2),M0.mono s4,λx hx=>E2.same.free (f0 x hx),e⟩,?_⟩
   rintro i m σ' H' ⟨rfl,hle,A',δ',a,bs,rows,E',hlen,g1,g2,M,hf,e'⟩
   obtain⟨w1,w2,w3⟩:=W H' E'.same
   by_cases hlt:i<ws.length
   · refine .inr ⟨w1 i hlt, fun σ2 H2 => ∃ A2 δ2 a bs rows, ER G [] (DL.cut _ H4) av A2 σ2 H2 δ2 /\ δ2.length = δ.length /\ σ2[it]? = some (some (.ref a)) /\ δ2[it]? = some (some (mat rows)) /\ Mx H2 a bs rows /\ (∀ x ∈ a :: bs, H0 x = none) /\ YW it iw s2 s3 εr τ (ws.drop (i + 1)) δ2 = some (.rt d),
      λσ2 H2 ⟨A2,δ2,a,bs,rows,h1,h2,h3,h4,h5,h6,h7⟩=>⟨ws.length-(i+1),by omega,rfl,hlt,A2,δ2,a,bs,rows,h1,h2,h3,h4,h5,h6,h7⟩,λv H5 y => ?_⟩
     have hx:ws[i]? = some ws[i]:=List.getElem?_eq_getElem hlt;obtain⟨s5,rep⟩:=w2 i _ v H5 hx y
     have rep':Rep G.1 (AV av A') H5 ws[i] v:=rep _ E'.avl λb z=>by
      rcases z with z|⟨j,z⟩
      · exact .inl (.inl z)
      · exact .inr (E'.fr j b z)
     have E5:=(E'.mono s5).set (ow1:=[]) (i:=iw) rep' (hw iw) n3;rw [List.drop_eq_getElem_cons hlt]at e';unfold YW at e';cases hεr:εr (δ'.set iw (some ws[i]))with
     |none=>rw [hεr]at e';cases e'
     |some dr=>
     refine hr _ av _ _ _ _ E5 dr hεr _ λa' bs' rows' H6 s6 hf' M' ed => ?_
     subst ed;rw [hεr]at e';dsimp only [mat]at e';have l5:(σ'.set iw (some v)).length=δ.length:=by rw [List.length_set,E'.len,hlen]
     have d5:(δ'.set iw (some ws[i])).length=δ.length:=by rw [List.length_set,hlen]
     have E6:=(E5.mono s6).set (ow1:=[]) (i:=it) (M'.rep λx hx z=>E5.avl x z (hf' x hx)) (hw it) n2;have f6:∀x∈a'::bs',H0 x=none:=λx hx=>E4.sub0.free (E5.same.free (hf' x hx))
     cases hτ:τ ((δ'.set iw (some ws[i])).set it (some (.lst (rows'.map D.lst))))with
     |none=>rw [hτ]at e';cases e'
     |some b=>
     rw [hτ]at e';refine ht _ av _ _ _ _ E6 b hτ _ λH7 s7 => ?_
     have M7:=M'.mono s7;have E7:=E6.mono s7;cases b with
     |false=>
      exact XH ⟨_,_,a',bs',rows',E7,by rw [List.length_set];exact d5,git _ _ l5,List.getElem?_set_self (by rw [d5];exact z2),M7,f6,e'⟩
     |true=>
      dsimp only at e';rw [atI_map]at e';cases hat:atI rows' (-1)with
      |none=>rw [hat]at e';cases e'
      |some r=>
      rw [hat]at e';cases e';obtain⟨b,hb,hb1,hb2,hb3⟩:=M7.atV hat;refine XI ⟨_,git _ _ l5,hk _ av _ _ _ _ E7 _ rfl _ λy H8 s8 ry => ?_⟩;have ey:y = .int (-1):=RepQ.any ry;subst ey;refine .inl ⟨a',_,-1,.ref b,rfl,rfl,SqL.of (s8 _ _ M7.top),hb1,two,λt ft => ?_⟩;have ss:Same H0 H8:=E4.sub0.trans (E7.same.trans s8);exact k _ _ (ss.trans (ZZ ft)) (.flat (ss.free ft) (f6 b (List.mem_cons_of_mem _ hb)) ZW ((ZZ ft) _ _ (s8 _ _ hb2)) hb3)
   · have ei:i=ws.length:=by omega
     subst ei;rw [List.drop_length]at e';unfold YW Za at e';rw [g2]at e';cases e';refine .inl ⟨w3 _ (Nat.le_refl _),_,g1,two,λt ft => ?_⟩;have ss:Same H0 H':=E4.sub0.trans E'.same;exact k _ _ (ss.trans (ZZ ft)) (.mat (ss.free ft) hf ZW (M.mono (ZZ ft)))
 · cases e
end
section
variable{P:Program}{w:World}{K:PySem.W.Frag}{mg:Str->Option Value}{base:Heap}{cA:Kn}
theorem ZiE {x qual:Str} {st:Stmt} {f:Addr} {fd:FuncData} {N ps:List Str} {k:Nat} {φ:Env->Option Out} {body:List Stmt} {scope:Scope} {n:Nat} {m:List D->Option D} (F:FunX K x qual st f fd) (S:FnScope N ps (defScope st)) (hS:defScope st=scope) (hB:defBody st=body)
 (hbody:∀(cdv:Value)(A:Around)(outer:List PySem.Env)(s:Shared)(H:Hp)(E:XK),Room k (A.deeper (PyProof.Rows.envOfC qual scope s.heap.objs.size f cdv)) ->
   ∃t,PSs (Xa CX0 P w K mg base N qual scope f cdv A outer s H E).nox body t/\VSV ⟨cA,λ_=>none⟩ [] t φ) (hm:m=Y6 N.length φ) (hn:ps.length=n):FnOk P w K mg base CX0 (k+1) f fd ps (spV cA n m):=by
 subst hS hB hm hn;refine F.ok S (λvs H Q E h => ?_) λcdv A outer s H vs Q E hr h => ?_
 · obtain⟨av,ds,d,_,r,hl,_⟩:=h
   rw [<-r.length,hl]
 · obtain⟨av,ds,d,ha,r,hl,hm,q⟩:=h
   obtain⟨t,ht,hv⟩:=hbody cdv A outer s H E hr;refine⟨t,ht,?_⟩;unfold Y6 at hm
   split at hm
   · rename_i d' hφ
     cases hm;exact hv H av _ _ H _ (QM ha r) _ hφ _ λv H' s' N=>q v H' s' N
   · cases hm
end
inductive NewI(F:Addr->Prop)(H:Hp):D->V->Prop
 |flat {t p:Addr} {s:List Nat} {xs:List D} (h0:¬F t) (h1:F p) (ht:H t=some (.tup [S s,.ref p])) (hp:H p=some (.lst (xs.map val))) (hs:xs.all ZD=true):NewI F H (.tup [.str s,.lst xs]) (.ref t)
 |mat {t p:Addr} {bs:List Addr} {rows:List (List D)} {s:List Nat} (h0:¬F t) (h1:∀x∈p::bs,F x) (ht:H t=some (.tup [S s,.ref p])) (M:Mx H p bs rows):NewI F H (.tup [.str s,mat rows]) (.ref t)
structure NR(G:Cn)(j:Nat)(H0:Hp)(F:Addr->Prop)(σ:L2.St)(H:Hp)(δ:Env):Prop where
 same:Same H0 H
 fr:∀b,F b->H0 b=none
 lt:j<δ.length
 ex:∃(d:D) (v:V),δ[j]? = some (some d)/\σ[j]? = some (some v)/\NewI F H d v
 er:ER G [] H F (λ_=>none) σ H (δ.set j none)
def VNT(G:Cn)(j:Nat)(ts:TS)(ψ:Env->Option Out):Prop:=∀H0 F σ H δ,NR G j H0 F σ H δ->∀o,ψ δ=some o->∀De:Ends,(∀b H',o = .rt (.bl b)->Same H0 H'->De.rt (.bl b) H')->ts De σ H
section
variable{cA:Kn}{G:Cn}{j:Nat}{owN owB owC:List Nat}
theorem NewI.mono{F:Addr->Prop}{H H':Hp}{d:D}{v:V}(s:Same H H')(h:NewI F H d v):NewI F H' d v:=by
 cases h with
 |flat h0 h1 ht hp hs=>exact .flat h0 h1 (s _ _ ht) (s _ _ hp) hs
 |mat h0 h1 ht M=>exact .mat h0 h1 (s _ _ ht) (M.mono s)
theorem NewI.rep{F:Addr->Prop}{H:Hp}{d:D}{v:V}(h:NewI F H d v):Rep cA (λ_=>False) H d v:=by
 cases h with
 |flat h0 h1 ht hp hs=>
  unfold Rep;refine⟨_,_,rfl,λz=>z,ht,.cons rfl (.cons ?_ .nil)⟩;unfold Rep;exact⟨_,_,rfl,λz=>z.elim,SqL.of hp,.of_vals hs⟩
 |mat h0 h1 ht M=>
  unfold Rep;exact⟨_,_,rfl,λz=>z,ht,.cons rfl (.cons (M.rep λx hx z=>z) .nil)⟩
theorem QY{H0 H:Hp}{av:Addr->Prop}{A:Nat->Option Addr}{σ:L2.St}{δ:Env}(E:ER G [] H0 av A σ H δ):ER G [] H av (λ_=>none) σ H δ:=by
 have hA:A=λ_=>none:=funext λi=>by
  cases h:A i with
  |none=>rfl
  |some a=>exact absurd (E.dom i (by rw [h];exact λz=>by cases z)) (by simp)
 subst hA;exact⟨Same.refl H,E.avH,λ_ _ z=>(by cases z),λ_ _ _ z=>(by cases z),λ_ _ z=>(by cases z),λ_ z=>absurd rfl z,λ_ z=>(by cases z),E.len,E.pin,E.kept,E.var⟩
theorem ZbF{H H':Hp}{F:Addr->Prop}{σ:L2.St}{δ:Env}(E:ER G [] H F (λ_=>none) σ H δ)(h:∀b o,¬F b->H b=some o->H' b=some o):ER G [] H' (λ_=>False) (λ_=>none) σ H' δ:=by
 refine⟨Same.refl _,λ_ z=>z.elim,λ_ _ z=>(by cases z),λ_ _ _ z=>(by cases z),λ_ _ z=>(by cases z),λ_ z=>absurd rfl z,λ_ z=>(by cases z),E.len,E.pin,E.kept,λi d e => ?_⟩;obtain⟨v,h1,h2,_⟩:=E.var i d e;refine⟨v,h1,λz=>((h2 rfl).ext λb o n q=>h b o (λz=>n (.inl z)) q).av λb z => .inl ?_,λa z=>by cases z⟩;rcases z with z|⟨_,z⟩
 · exact z.elim
 · cases z
theorem NR.view{H0 H:Hp}{F:Addr->Prop}{σ:L2.St}{δ:Env}(R:NR G j H0 F σ H δ)(hn:G.2 j=none):ER G [] H (λ_=>False) (λ_=>none) σ H δ:=by
 obtain⟨d,v,h1,h2,N⟩:=R.ex;have E:=ZbF R.er λb o _ e=>e
 have E2:=QY (E.set (ow1:=[]) (i:=j) (d:=d) (v:=v) (N.rep.av λb z => .inl (by
  rcases z with z|⟨_,z⟩
  · exact z
  · cases z)) (λk=>by simp) hn)
 rw [List.set_set]at E2
 have e1:δ.set j (some d)=δ:=by
  apply List.ext_getElem?;intro n
  by_cases q:n=j
  · subst q;rw [List.getElem?_set_self R.lt,h1]
  · rw [List.getElem?_set_ne (Ne.symm q)]
 have e2:σ.set j (some v)=σ:=by
  apply List.ext_getElem?;intro n
  by_cases q:n=j
  · subst q;rw [List.getElem?_set_self (List.getElem?_eq_some_iff.mp h2).1,h2]
  · rw [List.getElem?_set_ne (Ne.symm q)]
 rw [e1,e2]at E2;exact E2
theorem NR.mono{H0 H H':Hp}{F:Addr->Prop}{σ:L2.St}{δ:Env}(R:NR G j H0 F σ H δ)(s:Same H H'):NR G j H0 F σ H' δ:=by
 obtain⟨d,v,h1,h2,N⟩:=R.ex;exact⟨R.same.trans s,R.fr,R.lt,⟨d,v,h1,h2,N.mono s⟩,QY (R.er.mono s)⟩
def Ui(j:Nat)(ε:Env->Option D)(ψ:Env->Option Out)(δ:Env):Option Out:=match ε δ with
 |some d=>if j<δ.length then(match ψ (δ.set j (some d))with
  |some (.rt (.bl b))=>some (.rt (.bl b))
  |_=>none)else none
 |none=>none
theorem Zfh{te:TE}{u:TS}{ε:Env->Option D}{ψ:Env->Option Out}(j:Nat)(hn:G.2 j=none)(h:VEV G [] te ε)(hu:VNT G j u ψ):VS G [] owN owB owC (Yn (Y0 te (YN j)) u) (Ui j ε ψ):=λH0 av A σ H δ E o e De k=>by
 unfold Ui at e;cases he:ε δ with
 |none=>rw [he]at e;cases e
 |some d=>
  rw [he]at e;dsimp only at e
  by_cases hl:j<δ.length
  case neg=>rw [if_neg hl]at e;cases e
  rw [if_pos hl]at e
  split at e
  case h_2=>cases e
  rename_i b hψ;cases e;refine h H0 av A σ H δ E d he _ λv H1 s N => ?_
  have E1:=QY (E.mono s)
  have key:∃F:Addr->Prop,(∀b,F b->H b=none/\∃vs,H1 b=some (.lst vs))/\NewI F H1 d v:=by
   cases N with
   | @flat t p s xs h0 h1 ht hp hs=>
    exact⟨λb=>b=p,λb z=>by subst z;exact⟨h1,_,hp⟩,.flat (λz=>by subst z;rw [ht]at hp;cases hp) rfl ht hp hs⟩
   | @mat t p bs rows s h0 h1 ht M=>
    exact⟨λb=>b∈p::bs,λb z=>⟨h1 b z,M.there z⟩,.mat (λz=>by
     obtain⟨vs,q⟩:=M.there z;rw [ht]at q;cases q) (λx hx=>hx) ht M⟩
  obtain⟨F,hF,NI⟩:=key
  have R:NR G j H0 F (σ.set j (some v)) H1 (δ.set j (some d)):=by
   refine⟨E.same.trans s,λb z=>E.same.free (hF b z).1,by rw [List.length_set];exact hl,⟨d,v,List.getElem?_set_self hl,List.getElem?_set_self (by rw [E.len];exact hl),NI⟩,?_⟩;rw [List.set_set];have E2:=(QY E)
   refine⟨Same.refl _,λb z => ?_,λ_ _ z=>(by cases z),λ_ _ _ z=>(by cases z),λ_ _ z=>(by cases z),λ_ z=>absurd rfl z,λ_ z=>(by cases z),by rw [List.length_set,List.length_set];exact E.len,λi a z=>E2.pin i a z,λi w z => ?_,λi x e => ?_⟩
   · obtain⟨_,vs,q⟩:=hF b z
     rw [q];exact λz=>by cases z
   · have q:i≠j:=λy=>by rw [y,hn]at z;cases z
     rw [List.getElem?_set_ne (Ne.symm q)];exact E2.kept i w z
   · by_cases q:i=j
     · subst q;rw [List.getElem?_set_self hl]at e;cases e
     · rw [List.getElem?_set_ne (Ne.symm q)]at e
       obtain⟨w,h1,h2,_⟩:=E2.var i x e;refine⟨w,by rw [List.getElem?_set_ne (Ne.symm q)];exact h1,λ_=>((h2 rfl).av λb z => ?_).same s,λa z=>by cases z⟩;rcases z with z|⟨_,z⟩
       · exact .inr (hF b z).1
       · cases z
  exact hu H0 F _ _ _ R _ hψ De λb' H' e s'=>by
   cases e;exact k _ _ s' rfl
def Xx(τ:Env->Option Bool)(ε:Env->Option D)(ψ:Env->Option Out)(δ:Env):Option Out:=match τ δ with
 |some true=>match ε δ with
  |some (.bl b)=>some (.rt (.bl b))
  |_=>none
 |some false=>ψ δ
 |none=>none
theorem U5{c:TT}{te:TE}{q:Ql}{u:TS}{τ:Env->Option Bool}{ε:Env->Option D}{ψ:Env->Option Out}(hn:G.2 j=none)(hc:VT G [] c τ)(he:VE G [] te q ε)(hu:VNT G j u ψ):VNT G j (Yn (V7 c (X5 te) tNext) u) (Xx τ ε ψ):=λH0 F σ H δ R o e De k=>by
 unfold Xx at e;cases ht:τ δ with
 |none=>rw [ht]at e;cases e
 |some b=>
  rw [ht]at e;refine hc _ _ _ σ H δ (R.view hn) b ht _ λH1 s1 => ?_
  have R1:=R.mono s1;cases b with
  |false=>exact XH (hu H0 F σ H1 δ R1 o e De k)
  |true=>
   dsimp only at e
   split at e
   · rename_i b hb
     cases e;refine XI (he _ _ _ σ H1 δ (R1.view hn) _ hb _ λv H2 s2 r => ?_);have ev:v = .bl b:=RepQ.any r;rw [ev];exact k b H2 rfl (R1.same.trans s2)
   · cases e
def U6(i j:Nat)(ε:Env->Option D)(ψ:Env->Option Out)(δ:Env):Option Out:=match ε (δ.set j none)with
 |some d=>ψ (δ.set i (some d))
 |none=>none
theorem Zds{te:TE}{u:TS}{ε:Env->Option D}{ψ:Env->Option Out}(i:Nat)(hi:i≠j)(hn:G.2 i=none)(he:VE G [] te .cl ε)(hu:VNT G j u ψ):VNT G j (Yn (Y0 te (YN i)) u) (U6 i j ε ψ):=λH0 F σ H δ R o e De k=>by
 unfold U6 at e;cases hd:ε (δ.set j none)with
 |none=>rw [hd]at e;cases e
 |some d=>
  rw [hd]at e;refine he _ _ _ σ H _ R.er d hd _ λv H1 s1 r => ?_
  obtain⟨d',v',h1,h2,N⟩:=R.ex;refine hu H0 F _ H1 _ ⟨R.same.trans s1,R.fr,by rw [List.length_set];exact R.lt,⟨d',v',by rw [List.getElem?_set_ne hi];exact h1,by rw [List.getElem?_set_ne hi];exact h2,N.mono s1⟩,?_⟩ o e De k;have E1:=QY ((R.er.mono s1).set (ow1:=[]) (i:=i) (RepT.r r) (λk=>by simp) hn);rw [List.set_comm _ _ (Ne.symm hi)]at E1;exact E1
def U7(ε:Env->Option D)(δ:Env):Option Out:=match ε δ with
 |some (.bl b)=>some (.rt (.bl b))
 |_=>none
def Uj(j:Nat)(τ:Env->Option Bool)(ε:Env->Option D)(δ:Env):Option Out:=match Za j δ with
 |some (.tup [.str _,.lst xs])=>if xs.length<sizeLine then(match τ (δ.set j none)with
  |some true=>match xs with
   | .lst (.int _::_)::_=>U7 ε (δ.set j none)
   |_=>none
  |some false=>U7 ε (δ.set j none)
  |none=>none)else none
 |_=>none
theorem Zck{c:TT}{te:TE}{q:Ql}{τ:Env->Option Bool}{ε:Env->Option D}(hn:G.2 j=none)(hc:VT G [] c τ)(he:VE G [] te q ε) :
 VNT G j (Yn (Jp (tBM G.1.K "list" rAppend (tOp (X9 G.1.K) (YM j) (tC (.int 1))) (Yj (tC (.int 0)) tNil)))
  (Yn (V7 c (Y0 (tOp (QV G.1.K) (tOp (X9 G.1.K) (tOp (X9 G.1.K) (tOp (X9 G.1.K) (YM j) (tC (.int 1))) (tC (.int 0))) (tC (.int 0))) (tC (.int 1))) (Zh6 (tOp (X9 G.1.K) (tOp (X9 G.1.K) (YM j) (tC (.int 1))) (tC (.int 0))) (tC (.int 0)) rSetL)) tNext)
  (X5 te))) (Uj j τ ε):=λH0 F σ H δ R o e De k=>by
 unfold Uj at e
 split at e
 case h_2=>cases e
 rename_i s xs hv
 by_cases hz:xs.length<sizeLine
 case neg=>rw [if_neg hz]at e;cases e
 rw [if_pos hz]at e;obtain⟨d,v,h1,h2,N⟩:=R.ex
 have hd:some d=some (D.tup [.str s,.lst xs]):=by
  have:=XO hv;rw [h1]at this;exact Option.some.inj this
 cases hd
 have key:∃t p ws,v = .ref t/\¬F t/\F p/\H t=some (.tup [S s,.ref p])/\H p=some (.lst ws)/\ws.length=xs.length /\
  ∀i is xr,xs = .lst (.int i::is)::xr->∃b wr wb,ws = .ref b::wr/\F b/\b≠p/\H b=some (.lst (.int i::wb)):=by
  cases N with
  |flat h0 h1' ht hp hs=>
   refine⟨_,_,_,rfl,h0,h1',ht,hp,by rw [List.length_map],λi is xr e => ?_⟩;subst e;cases hs
  | @mat t p bs rows _ h0 h1' ht M=>
   refine⟨_,_,_,rfl,h0,h1' _ List.mem_cons_self,ht,M.top,by rw [List.length_map,List.length_map];exact M.len,λi is xr e => ?_⟩;have e:rows.map D.lst = .lst (.int i::is)::xr:=e;cases rows with
   |nil=>cases e
   |cons r rows=>
    have er:r = .int i::is:=by
     rw [List.map_cons]at e;exact D.lst.inj (List.cons.inj e).1
    subst er;cases bs with
    |nil=>exact absurd M.len (by simp)
    |cons b bs=>
     exact⟨b,bs.map V.ref,is.map val,rfl,h1' _ (List.mem_cons_of_mem _ List.mem_cons_self),λz=>M.na (by rw [<-z];exact List.mem_cons_self),M.row 0 b _ rfl rfl⟩
 obtain⟨t,p,ws,rfl,nt,Fp,ht,hp,hlen,hrow⟩:=key;have tp:t≠p:=λz=>nt (z▸Fp)
 have at1:atI [S s,V.ref p] 1=some (.ref p):=rfl;refine⟨_,h2,.inr (.inl ⟨t,_,1,.ref p,rfl,rfl,SqT.of ht,at1,.inl ⟨rfl,ws,SqL.of hp⟩,p,ws,.int 0,rfl,rfl,hp,by rw [hlen];exact hz,?_⟩)⟩;have ft:∀H',(∀b o,¬F b->H b=some o->H' b=some o)->Same H0 H':=λH' hF b o e=>hF b o (λz=>by rw [R.fr b z]at e;cases e) (R.same b o e)
 have fin:∀H',(∀b o,¬F b->H b=some o->H' b=some o)->U7 ε (δ.set j none)=some o->X5 te De σ H':=λH' hF e=>by
  unfold U7 at e
  split at e
  · rename_i b hb
    cases e;refine he _ _ _ σ H' _ (ZbF R.er hF) _ hb _ λv H2 s2 r => ?_
    have ev:v = .bl b:=RepQ.any r;rw [ev];exact k b H2 rfl ((ft H' hF).trans s2)
  · cases e
 have hF1:∀b o,¬F b->H b=some o->upd H p (.lst (ws++[.int 0])) b=some o:=λb o n e=>by rw [ZA (λz=>n (by rw [z];exact Fp))];exact e
 cases hτ:τ (δ.set j none)with
 |none=>rw [hτ]at e;cases e
 |some b=>
  rw [hτ]at e;refine hc _ _ _ σ _ _ (ZbF R.er hF1) b hτ _ λH2 s2 => ?_
  have hF2:∀b o,¬F b->H b=some o->H2 b=some o:=λb o n e=>s2 _ _ (hF1 b o n e)
  cases b with
  |false=>exact XH (fin H2 hF2 e)
  |true=>
   dsimp only at e
   split at e
   case h_2=>cases e
   rename_i i is xr;obtain⟨b,wr,wb,rfl,Fb,nb,hb⟩:=hrow i is xr rfl;have ht2:H2 t=some (.tup [S s,.ref p]):=hF2 _ _ nt ht;have hp2:H2 p=some (.lst (.ref b::(wr++[.int 0]))):=s2 _ _ ZW;have hb2:H2 b=some (.lst (.int i::wb)):=s2 _ _ (by rw [ZA nb];exact hb)
   have at0:∀(x:V)(l:List V),atI (x::l) 0=some x:=λx l=>by
    unfold atI ixN;rw [if_pos (by omega),if_pos (by rw [List.length_cons];omega)];rfl
   refine XI ⟨_,h2,.inr (.inl ⟨t,_,1,.ref p,rfl,rfl,SqT.of ht2,at1,.inl ⟨p,_,0,.ref b,rfl,rfl,SqL.of hp2,at0 _ _,.inl ⟨b,_,0,.int i,rfl,rfl,SqL.of hb2,at0 _ _,.inl ⟨i,1,rfl,rfl,?_⟩⟩⟩⟩)⟩;refine⟨_,h2,.inr (.inl ⟨t,_,1,.ref p,rfl,rfl,SqT.of ht2,at1,.inl ⟨p,_,0,.ref b,rfl,rfl,SqL.of hp2,at0 _ _,⟨b,_,0,0,rfl,rfl,hb2,?_,?_⟩⟩⟩)⟩
   · unfold ixN
     rw [if_pos (by omega),if_pos (by rw [List.length_cons];omega)];rfl
   · exact fin _ (λc o n e'=>by rw [ZA (λz=>n (by rw [z];exact Fb))];exact hF2 c o n e') e
theorem ZeI{c:TT}{tm t1 t2 u:TS}{τ:Env->Option Bool}{φm ψ1 ψ2:Env->Option Out}(hc:VT G [] c τ)(hm:VS G [] [] owB owC tm φm)(h1:VS G [] owN owB owC (Yn t1 u) ψ1)(h2:VS G [] owN owB owC (Yn t2 u) ψ2):VS G [] owN owB owC (Yn (V7 c (Yn tm t1) t2) u) (sIf τ (Zg φm ψ1) ψ2):=by
 have h:VS G [] owN owB owC (V7 c (Yn tm (Yn t1 u)) (Yn t2 u)) (sIf τ (Zg φm ψ1) ψ2):=Yy hc (Zu hm h1) h2;exact h
end
end DL
namespace DL
open PySem PySem.Spec L2
theorem Xf(i j:Int):eqD (.int i) (.int j)=some (.bl (decide (i=j))):=by
 show(if(ZD (.int i)&&ZD (.int j)&&X8 (V.int i) (V.int j))=true then some (D.bl (decide (V.int i=V.int j)))else _)=_;rw [if_pos (by rfl)];simp
theorem XZ(a b:List Nat):eqD (.str a) (.str b)=some (.bl (decide (a=b))):=by
 show(if(ZD (.str a)&&ZD (.str b)&&X8 (S a) (S b))=true then some (D.bl (decide (S a=S b)))else _)=_;rw [if_pos (by rfl)];simp only [Ziu]
theorem QZ(a b:Bool):eqD (.bl a) (.bl b)=some (.bl (decide (a=b))):=by
 show(if(ZD (.bl a)&&ZD (.bl b)&&X8 (V.bl a) (V.bl b))=true then some (D.bl (decide (V.bl a=V.bl b)))else _)=_;rw [if_pos (by rfl)];simp
theorem U8:eqD .non .non=some (.bl true):=rfl
theorem U9(i:Int):eqD .non (.int i)=some (.bl false):=by
 show(if(ZD .non&&ZD (.int i)&&X8 V.non (V.int i))=true then some (D.bl (decide (V.non=V.int i)))else _)=_;rw [if_pos (by rfl)];simp
theorem Qa(i:Int):eqD (.int i) .non=some (.bl false):=by
 show(if(ZD (.int i)&&ZD .non&&X8 (V.int i) V.non)=true then some (D.bl (decide (V.int i=V.non)))else _)=_;rw [if_pos (by rfl)];simp
theorem X0(i j:Int):neD (.int i) (.int j)=some (.bl (!decide (i=j))):=by unfold neD;rw [Xf]
theorem UE(i j:List Nat):neD (.str i) (.str j)=some (.bl (!decide (i=j))):=by unfold neD;rw [XZ]
theorem Q0:neD .non .non=some (.bl false):=by unfold neD;rw [U8];rfl
theorem Q1(i:Int):neD .non (.int i)=some (.bl true):=by unfold neD;rw [U9];rfl
theorem Q2(i:Int):neD (.int i) .non=some (.bl true):=by unfold neD;rw [Qa];rfl
theorem X1{γ:D->Env->Option Env}{φ:Env->Option Out}(I:Nat->Env->Prop):∀(xs:List D)(k:Nat)(δ:Env),I k δ ->
 (∀(j:Nat)x δ,xs[j]? = some x->I (k+j) δ->∃δ1,γ x δ=some δ1/\∃δ2,φ δ1=some (.nx δ2)/\I (k+j+1) δ2)->∃δ',Yz γ φ xs δ=some (.nx δ')/\I (k+xs.length) δ'
 | [],k,δ,h,_=>⟨δ,rfl,h⟩
 |x::xs,k,δ,h,step=>by
  obtain⟨δ1,h1,δ2,h2,h3⟩:=step 0 x δ rfl h
  obtain⟨δ',h4,h5⟩:=X1 I xs (k+1) δ2 h3 λj y δ hy hI=>by
   have:=step (j+1) y δ (by simpa using hy) (by rwa [show k+(j+1)=k+1+j by omega])
   rwa [show k+(j+1)+1=k+1+j+1 by omega]at this
  refine⟨δ',?_,by rwa [List.length_cons,show k+(xs.length+1)=k+1+xs.length by omega]⟩;unfold Yz;rw [h1];dsimp only;rw [h2];exact h4
theorem J4(lo c:Int)(n:Nat):(ZO lo c n).length=n:=by simp [ZO]
end DL
namespace DL
open PySem PySem.Spec L2
end DL
namespace DL
open PySem PySem.Spec L2
end DL
namespace DL
open PySem PySem.Spec L2
theorem Zr{a b:Env->Option Out}{δ δ':Env}(h:a δ=some (.nx δ')):Zg a b δ=b δ':=by
 unfold Zg;rw [h]
theorem Uk{a b:Env->Option Out}{δ:Env}{d:D}(h:a δ=some (.rt d)):Zg a b δ=some (.rt d):=by
 unfold Zg;rw [h]
theorem ZE{i:Nat}{e:Env->Option D}{δ:Env}{d:D}(h:e δ=some d):Zj i e δ=some (.nx (δ.set i (some d))):=by
 unfold Zj;rw [h]
theorem ZU{e:Env->Option D}{δ:Env}{d:D}(h:e δ=some d):Zq e δ=some (.rt d):=by
 unfold Zq;rw [h]
theorem Xy{t:Env->Option Bool}{a b:Env->Option Out}{δ:Env}(h:t δ=some true):sIf t a b δ=a δ:=by
 unfold sIf;rw [h]
theorem YB{t:Env->Option Bool}{a b:Env->Option Out}{δ:Env}(h:t δ=some false):sIf t a b δ=b δ:=by
 unfold sIf;rw [h]
theorem ZH{e:Env->Option D}{δ:Env}{b:Bool}(h:e δ=some (.bl b)):xB e δ=some b:=by
 unfold xB;rw [h];rfl
theorem Ul{t:Env->Option Bool}{δ:Env}{b:Bool}(h:t δ=some b):Yc t δ=some (!b):=by
 unfold Yc;rw [h]
theorem Um{a b:Env->Option Bool}{δ:Env}{x:Bool}(h1:a δ=some false)(h2:b δ=some x):xOr a b δ=some x:=by
 unfold xOr;rw [h1];exact h2
theorem ZN{n:Nat}{m:List D->Option D}{α:Env->Option (List D)}{δ:Env}{ds:List D}(h:α δ=some ds)(hn:ds.length=n):Zo n m [] α δ=m ds:=by
 unfold Zo;rw [h];dsimp only;rw [List.append_nil,if_pos hn]
theorem Zh{a:Env->Option D}{b:Env->Option (List D)}{δ:Env}{x:D}{xs:List D}(h1:a δ=some x)(h2:b δ=some xs):Zb a b δ=some (x::xs):=by
 unfold Zb;rw [h1,h2]
theorem Zi{f:D->D->Option D}{a b:Env->Option D}{δ:Env}{x y:D}(h1:a δ=some x)(h2:b δ=some y):eOp f a b δ=f x y:=by
 unfold eOp;rw [h1,h2]
theorem J5{a b:Env->Option D}{δ:Env}{x:D}(h1:a δ=some (.bl true))(h2:b δ=some x):YC a b δ=some x:=by
 unfold YC;rw [h1];exact h2
theorem J6{α:Env->Option (List D)}{δ:Env}{ds:List D}(h:α δ=some ds)(hl:ds.length<=1000):Y4 α δ=(some (.tup ds):Option D):=by
 unfold Y4;rw [h];exact if_pos (Nat.le_trans hl (by decide))
theorem Xg{α:Env->Option (List D)}{δ:Env}{ds:List D}(h:α δ=some ds)(hl:ds.length<=1000):Zz α δ=(some (.lst ds):Option D):=by
 unfold Zz;rw [h];exact if_pos (Nat.le_trans hl (by decide))
theorem J7{γ:D->Env->Option Env}{φ:Env->Option Out}(I:Env->Prop):∀(xs:List D)(δ:Env),I δ ->
 (∀x∈xs,∀δ,I δ->∃δ1,γ x δ=some δ1/\∃δ2,φ δ1=some (.nx δ2)/\I δ2)->∃δ',Yz γ φ xs δ=some (.nx δ')/\I δ'
 | [],δ,h,_=>⟨δ,rfl,h⟩
 |x::xs,δ,h,step=>by
  obtain⟨δ1,h1,δ2,h2,h3⟩:=step x List.mem_cons_self δ h;obtain⟨δ',h4,h5⟩:=J7 I xs δ2 h3 λy hy=>step y (List.mem_cons_of_mem _ hy)
  refine⟨δ',?_,h5⟩;unfold Yz;rw [h1];dsimp only;rw [h2];exact h4
theorem Zgd{lo c:Int}{n:Nat}{x:D}(h:x∈ZO lo c n):∃k:Nat,k<n/\x = .int (lo+(k:Nat)*c):=by
 unfold ZO at h;obtain⟨k,hk,rfl⟩:=List.mem_map.mp h;exact⟨k,List.mem_range.mp hk,rfl⟩
theorem Zcl {τ:Env->Option Bool} {φ:Env->Option Out} (I J:Env->Prop) (μ:Env->Nat)
 (step:∀δ,I δ->(τ δ=some false/\J δ)\/(τ δ=some true/\∃δ',φ δ=some (.nx δ')/\I δ'/\μ δ'<μ δ)) :
 ∀(k:Nat)(δ:Env),μ δ<=k->I δ->∃n δ',Yp τ φ n δ=some (.nx δ')/\J δ'
 |0,δ,hk,h=>by
  rcases step δ h with⟨h1,h2⟩|⟨h1,δ',h2,h3,h4⟩
  · exact⟨1,δ,by unfold Yp;rw [h1],h2⟩
  · omega
 |k+1,δ,hk,h=>by
  rcases step δ h with⟨h1,h2⟩|⟨h1,δ',h2,h3,h4⟩
  · exact⟨1,δ,by unfold Yp;rw [h1],h2⟩
  · obtain⟨n,δ2,h5,h6⟩:=Zcl I J μ step k δ' (by omega) h3
    refine⟨n+1,δ2,?_,h6⟩;unfold Yp;rw [h1];dsimp only;rw [h2];exact h5
theorem Q3 {τ:Env->Option Bool} {φ:Env->Option Out} (I J:Env->Prop) (μ:Env->Nat)
 (step:∀δ,I δ->(τ δ=some false/\J δ)\/(τ δ=some true/\∃δ',φ δ=some (.nx δ')/\I δ'/\μ δ'<μ δ)) (δ:Env) (h:I δ):∃δ',Z9 τ φ δ=some (.nx δ')/\J δ':=by
 obtain⟨n,δ',h1,h2⟩:=Zcl I J μ step (μ δ) δ (Nat.le_refl _) h;exact⟨δ',JG h1,h2⟩
theorem ZfL{i:Int}(h:i.natAbs<=10 ^ 1000):Wd i:=Nat.lt_of_le_of_lt h (by decide +kernel)
theorem Q4{i j:Int}(h1:j≠0)(h2:Wd j):fdivW (.int i) (.int j)=some (.int (i.fdiv j)):=if_pos ⟨h1,h2⟩
theorem Zdt{i j:Int}(h1:j≠0):modW (.int i) (.int j)=some (.int (i.fmod j)):=if_pos h1
theorem Zdu{i j:Int}(h:Uu i j):powW (.int i) (.int j)=some (.int (i ^ j.toNat)):=if_pos h
theorem Uo{a b:Int}(h:0<b):0<=a.fmod b/\a.fmod b<b:=by
 rw [Int.fmod_eq_emod_of_nonneg a (by omega)];exact⟨Int.emod_nonneg a (by omega),Int.emod_lt_of_pos a h⟩
theorem ZeJ{a b:Int}(h:b≠0):(a.fmod b).natAbs<b.natAbs:=by
 rw [Int.fmod_eq_emod];have h1:=Int.emod_nonneg a h;have h2:=Int.emod_lt_of_pos a (b:=(b.natAbs:Int)) (by omega);rw [show a % (b.natAbs:Int)=a % b from by rcases Int.natAbs_eq b with e|e<;>rw [e]<;>simp]at h2
 split
 · omega
 · rename_i hn
   have h3:a % b≠0:=λz=>hn (.inr (Int.dvd_of_emod_eq_zero z))
   have h4:¬0<=b:=λz=>hn (.inl z)
   omega
theorem ZeK(a b:Int):Int.gcd b (a.fmod b)=Int.gcd a b:=by
 have e:a.fmod b=a-b*a.fdiv b:=Int.fmod_def a b;apply Nat.dvd_antisymm
 · apply Int.dvd_gcd
   · have h1:((Int.gcd b (a.fmod b):Nat):Int)∣b:=Int.gcd_dvd_left ..
     have h2:((Int.gcd b (a.fmod b):Nat):Int)∣a.fmod b:=Int.gcd_dvd_right ..;have:a=a.fmod b+b*a.fdiv b:=by omega
     have h3:=Int.dvd_add h2 (Int.dvd_mul_of_dvd_left (c:=a.fdiv b) h1);rw [<-this]at h3;exact h3
   · exact Int.gcd_dvd_left ..
 · apply Int.dvd_gcd
   · exact Int.gcd_dvd_right ..
   · rw [e]
     exact Int.dvd_sub (Int.gcd_dvd_left ..) (Int.dvd_mul_of_dvd_left (Int.gcd_dvd_right ..))
end DL
namespace DL
open PySem PySem.Spec L2
theorem Vw{α:Env->Option (List D)}{δ:Env}{j:Int}(h:α δ=some [.int j])(h1 : -1000000<=j)(h2:j<=1000000):ZI α δ=some (ZO 0 1 j.toNat):=by
 unfold ZI;rw [h];dsimp only;rw [if_pos ⟨by omega,by omega⟩]
theorem Zc2{α:Env->Option (List D)}{δ:Env}{i j:Int}(h:α δ=some [.int i,.int j])(h1 : -1000000<=j)(h2:j<=1000000)(h3 : -1000000<=i)(h4:i<=1000000):ZI α δ=some (ZO i 1 (j-i).toNat):=by
 unfold ZI;rw [h];dsimp only;rw [if_pos ⟨by omega,by omega,by omega,by omega⟩]
theorem Vx{i:Nat}{ε:Env->Option D}{δ:Env}{xs:List D}{d:D}(h1:Za i δ=some (.lst xs))(h2:ε δ=some d)(hl:xs.length<=1000000):Z7 i ε δ=some (.nx (δ.set i (some (.lst (xs++[d]))))):=by
 unfold Z7;rw [h1];dsimp only;rw [h2];dsimp only;rw [if_pos (by rw [PySem.sizeLine_eq];omega)]
theorem Qb{n j:Nat}{x:D}(h:(ZO 0 1 n)[j]? = some x):j<n/\x = .int (j:Nat):=by
 have hj:j<n:=by have:=(List.getElem?_eq_some_iff.mp h).1;simpa [ZO]using this
 refine⟨hj,?_⟩;unfold ZO at h;rw [List.getElem?_map,List.getElem?_range hj]at h;have:=Option.some.inj h;rw [<-this];show D.int (0+(j:Int)*1)=_;rw [show(0+(j:Int)*1)=j by omega]
theorem Zge(lo c:Int)(n:Nat):(ZO lo c n).length=n:=by simp [ZO]
theorem YG{ι:Env->Option (List D)}{γ:D->Env->Option Env}{φ:Env->Option Out}{δ:Env}{xs:List D}{o:Out}(h1:ι δ=some xs)(h2:Yz γ φ xs δ=some o):ZQ ι γ φ δ=some o:=by
 unfold ZQ;rw [h1];exact h2
theorem YX{ι:Env->Option (List D)}{γ:D->Env->Option Env}{τ:Env->Option Bool}{ε:Env->Option D}{n:Nat}{js:List Nat}{δ δ0:Env}{xs ys:List D}(h1:ι δ=some xs)(hb:Vd n δ js=δ0)(h2:Z3 γ τ ε δ0 xs=some ys)(hl:ys.length<=1000000):ZV ι γ τ ε n js δ=some (.lst ys):=by
 unfold ZV;rw [h1];dsimp only;rw [hb,h2];dsimp only;rw [if_pos (by rw [PySem.sizeLine_eq];omega)]
theorem ZY{f:List D->Option D}{α:Env->Option (List D)}{δ:Env}{ds:List D}(h:α δ=some ds):eCB f α δ=f ds:=by
 unfold eCB;rw [h]
theorem Yi{n:Nat}{f:Env->Option Out}{vs:List D}{δ:Env}{d:D}(h1:(vs.map some++List.replicate (n-vs.length) none)=δ)(h2:f δ=some (.rt d)):DL.run n f vs=some d:=by
 unfold DL.run;rw [h1,h2]
theorem nil_of{δ:Env}:eNil δ=some []:=rfl
end DL
namespace DL
open PySem PySem.Spec L2
theorem Zcm{x:D}(hs:ZD x=false)(h:SeqAt.shaped (toP x)=true):eqD x x=some (.bl true):=by
 unfold eqD;rw [if_neg (by simp [hs]),h,if_pos (by rfl)];rw [SeqAt.eqv_refl _ (SeqAt.canLay_of_shaped h)]
theorem ZeL{x:D}(hs:ZD x=false)(h:SeqAt.shaped (toP x)=true):neD x x=some (.bl false):=by
 unfold neD;rw [Zcm hs h];rfl
theorem ZaA:∀ws:List Int,PyData.canLayAll0 (Yu (ws.map D.int))=true
 | []=>rfl
 |w::ws=>by rw [List.map_cons,Yu,PyData.canLayAll0,ZaA ws];rfl
theorem ZaM:∀ws:List Int,PyData.depthAll (Yu (ws.map D.int))=0
 | []=>rfl
 |w::ws=>by rw [List.map_cons,Yu,PyData.depthAll,ZaM ws];rfl
theorem ZaB(ws:List Int):SeqAt.shaped (toP (.lst (ws.map D.int)))=true:=by
 simp [SeqAt.shaped,toP,PyData.canLay0,PyData.depth,ZaA,ZaM]
end DL
namespace DL
open PySem PySem.Spec L2
theorem add_int(i j:Int):addX (.int i) (.int j)=some (.int (i+j)):=rfl
theorem ZbG{a b:List D}(h:a.length+b.length<=100000):addX (.lst a) (.lst b)=some (.lst (a++b)):=by
 show(if a.length+b.length<=PySem.sizeLine then some (D.lst (a++b))else none)=_;rw [if_pos (by rw [PySem.sizeLine_eq];omega)]
theorem UF{i j:Int}(h1 : -1000<=j)(h2:j<=1000):mulX (.int i) (.int j)=some (.int (i*j)):=if_pos (.inr (.inr ⟨by omega,by omega⟩))
theorem J8{a:List D}{n:Nat}(h:a.length*n<=100000)(hn:n<=100000):mulX (.lst a) (.int (n:Int))=some (.lst (List.replicate n a).flatten):=by
 unfold mulX;dsimp only;rw [Int.toNat_natCast,if_pos ⟨by omega,by omega,by rw [PySem.sizeLine_eq];omega⟩]
theorem Zdv{n a:Nat}(h:a<n):ixN n (a:Int)=some a:=by
 unfold ixN;rw [if_pos (by omega),if_pos (by omega),Int.toNat_natCast]
theorem Q5{xs:List D}{a:Nat}{x:D}(h:xs[a]? = some x):ixD (.lst xs) (.int (a:Int))=some x:=Zdh h
theorem Vf{cs:List Int}{a:Nat}(h:a<cs.length):ixD (.lst (cs.map D.int)) (.int (a:Int))=some (.int (cs.getD a 0)):=by
 refine Q5 ?_;rw [List.getElem?_map,List.getElem?_eq_getElem h,List.getD_eq_getElem?_getD,List.getElem?_eq_getElem h];rfl
theorem Zfi{i:Int}(h:0<=i):∃a:Nat,i=(a:Int):=⟨i.toNat,(Int.toNat_of_nonneg h).symm⟩
theorem len_lst{xs:List D}:lenD [.lst xs]=some (.int (xs.length:Int)):=rfl
theorem Zgf{xs:List D}:lenD [.tup xs]=some (.int (xs.length:Int)):=rfl
end DL
namespace K30
open PySem PySem.Spec L2 DL
def J9:List (String×Bool):=[("NoneType",false),("bool",true),("int",false),("str",false),("list",false),("tuple",false)]
def ZbS:List (String×Bool):=[("NoneType",false),("bool",true),("int",true),("str",false),("list",false),("tuple",false)]
def Qc:List (String×Bool):=[("NoneType",false),("bool",false),("int",false),("str",false),("list",true),("tuple",false)]
def ZbT:List (String×Bool):=[("NoneType",false),("bool",false),("int",false),("str",true),("list",false),("tuple",false)]
def Zaq:List (String×Bool):=[("NoneType",false),("bool",false),("int",false),("str",false),("list",false),("tuple",true)]
noncomputable def f_QA:DL.Env->Option Out:=
 (Zg (Z9 (xB (eOp neD (Za 1) (eC (.int 0)))) (Zg (Zj 2 (eOp modW (Za 0) (Za 1)))
 (Zg (Zj 0 (Za 1))
 (Zj 1 (Za 2)))))
 (Zq (eCB absD (Zb (Za 0) eNil))))
noncomputable def UG:List D->Option D:=run 3 f_QA
noncomputable def f_QU:DL.Env->Option Out:=
 (Zg (Zj 2 (Zo 2 UG [] (Zb (Za 0) (Zb (Za 1) eNil))))
 (Zg (sIf (xB (eOp (Z5 λi j=>decide (i<j)) (Za 1) (eC (.int 0)))) (Zj 2 (eUn Yl (Za 2))) sNext)
 (Zq (Y4 (Zb (eOp fdivW (Za 0) (Za 2)) (Zb (eOp fdivW (Za 1) (Za 2)) eNil))))))
noncomputable def Q6:List D->Option D:=run 3 f_QU
noncomputable def f_QK:DL.Env->Option Out:=
 (Zg (Zj 2 (ZV (ZI (Zb (Za 1) (Zb (eCB lenD (Zb (Za 0) eNil)) eNil))) (Zs 0) (xB (eOp neD (eOp ixD (eOp ixD (Za 1) (Za 0)) (eC (.int 0))) (eC (.int 0)))) (Za 0) 1 [0]))
 (Zq (eIf (xB (eOp (Z5 λi j=>decide (j<i)) (eCB lenD (Zb (Za 2) eNil)) (eC (.int 0)))) (eOp ixD (Za 2) (eC (.int 0))) (eC .non))))
noncomputable def Q7:List D->Option D:=run 3 f_QK
noncomputable def f_QR:DL.Env->Option Out:=
 (Zg (Zj 3 (eCB Y5 (Zb (Za 0) eNil)))
 (Zg (YV 3 (Za 1) (eOp ixD (Za 0) (Za 2)))
 (Zg (YV 3 (Za 2) (eOp ixD (Za 0) (Za 1)))
 (Zq (Za 3)))))
noncomputable def Q8:List D->Option D:=run 4 f_QR
noncomputable def f_QW:DL.Env->Option Out:=
 (Zg (Zj 3 (eOp ixD (Za 0) (Za 1)))
 (Zg (Zj 4 (Zz eNil))
 (Zg (ZQ (QU 0 (Za 0)) (YR 2 (Z8 5 (Z8 6 gsNil))) (sIf (xB (eOp eqD (Za 5) (Za 1))) (Z7 4 (eSl (Za 6) (xP (eC (.int 1))) xNoP)) (Zg (Zj 7 (QX (Za 6) (Za 3)))
 (Z7 4 (ZV (Z2 (eSl (Za 7) (xP (eC (.int 1))) xNoP)) (YR 2 (Z8 0 (Z8 1 gsNil))) (λ_=>some true) (eOp fdivW (eOp subD (eOp mulX (eOp ixD (Za 2) (eC (.int 0))) (Za 0)) (eOp mulX (eOp ixD (Za 3) (eC (.int 0))) (Za 1))) (Za 4)) 2 [3,6,2])))))
 (Zq (Za 4)))))
noncomputable def ZhR:List D->Option D:=run 8 f_QW
noncomputable def f_QX:DL.Env->Option Out:=
 (Zg (Zj 2 (ZV (XX (Za 0) (Za 1)) (YR 2 (Z8 0 (Z8 1 gsNil))) (λ_=>some true) (eOp addX (eCB Y5 (Zb (Za 0) eNil)) (Zz (Zb (Za 1) eNil))) 2 []))
 (Zg (Zj 3 (eC (.int 1)))
 (Zg (ZQ (ZI (Zb (eCB lenD (Zb (Za 0) eNil)) eNil)) (Zs 4) (Zg (Zj 5 (Zo 2 Q7 [] (Zb (Za 2) (Zb (Za 4) eNil))))
 (Zg (sIf (xB (Xq (Za 5))) (Zq (eC .non)) sNext)
 (Zg (Zj 6 (eOp ixD (eOp ixD (Za 2) (Za 5)) (eC (.int 0))))
 (Zg (Zj 2 (Zo 3 ZhR [] (Zb (Zo 3 Q8 [] (Zb (Za 2) (Zb (Za 5) (Zb (Za 4) eNil)))) (Zb (Za 4) (Zb (Za 3) eNil)))))
 (Zj 3 (Za 6)))))))
 (Zq (ZV (Z2 (Za 2)) (Zs 0) (λ_=>some true) (Zo 2 Q6 [] (Zb (eOp ixD (Za 0) (eC (.int 0))) (Zb (Za 1) eNil))) 1 [3])))))
noncomputable def Q9:List D->Option D:=run 7 f_QX
noncomputable def f_QH:DL.Env->Option Out:=
 (Zg (Zj 2 (Zz eNil))
 (Zg (ZQ (ZI (Zb (eCB lenD (Zb (Za 0) eNil)) eNil)) (Zs 3) (Zg (Zj 4 (ZV (Z2 (Za 0)) (Zs 0) (λ_=>some true) (eUn Yl (eOp ixD (Za 0) (Za 1))) 1 [3]))
 (Zg (YV 4 (Za 3) (eOp addX (eOp ixD (Za 4) (Za 3)) (Za 1)))
 (Z7 2 (Za 4)))))
 (Zq (Za 2))))
noncomputable def Qd:List D->Option D:=run 5 f_QH
noncomputable def f_Q0:DL.Env->Option Out:=
 (Y7 (Zj 2 (Zo 2 Q9 [] (Zb (Zo 2 Qd [] (Zb (Za 0) (Zb (Za 1) eNil))) (Zb (eOp Yq (Zz (Zb (eC (.int 1)) eNil)) (eCB lenD (Zb (Za 0) eNil))) eNil))))
 (Y7 (sIf (xOr (xB (Xq (Za 2))) (xB (eOp (Z5 λi j=>decide (i<=j)) (eCB minLD (Zb (ZV (Z2 (Za 2)) (Zs 0) (λ_=>some true) (eOp ixD (Za 0) (eC (.int 0))) 1 []) eNil)) (eC (.int 0))))) (Zq (eC .non)) sNext)
 (Y7 (Zj 3 (eC (.int 1)))
 (Y7 (ZQ (Z2 (Za 2)) (Zs 4) (Zj 3 (eOp fdivW (eOp mulX (Za 3) (eOp ixD (Za 4) (eC (.int 1)))) (Zo 2 UG [] (Zb (Za 3) (Zb (eOp ixD (Za 4) (eC (.int 1))) eNil))))))
 (Zq (ZV (Z2 (Za 2)) (Zs 0) (λ_=>some true) (eOp mulX (eOp ixD (Za 0) (eC (.int 0))) (eOp fdivW (Za 1) (eOp ixD (Za 0) (eC (.int 1))))) 1 [3]))))))
noncomputable def UH:List D->Option D:=Y6 5 f_Q0
noncomputable def f_Q1:DL.Env->Option Out:=
 (Zq (ZV (Z2 (Za 0)) (Zs 0) (λ_=>some true) (eCB sumLD (Zb (ZV (XX (Za 0) (Za 1)) (YR 2 (Z8 0 (Z8 1 gsNil))) (λ_=>some true) (eOp mulX (Za 0) (Za 1)) 2 []) eNil)) 1 [1]))
noncomputable def ZhS:List D->Option D:=run 2 f_Q1
noncomputable def f_QZ:DL.Env->Option Out:=
 (Zq (ZV (XX (Zo 2 ZhS [] (Zb (Za 0) (Zb (Za 2) eNil))) (Za 2)) (YR 2 (Z8 0 (Z8 1 gsNil))) (λ_=>some true) (eCB minD (Zb (Za 1) (Zb (eOp fdivW (Za 0) (Za 2)) eNil))) 2 [1]))
noncomputable def UI:List D->Option D:=Y6 3 f_QZ
noncomputable def f_QY:DL.Env->Option Out:=
 (Xw (UZ 3 (U1 (Zz (Zb (eCB Y5 (Zb (Za 2) eNil)) eNil))))
 (Xw (UY 3 (Zj 4 (Zo 3 UI [] (Zb (Za 0) (Zb (Za 1) (Zb (Za 2) eNil))))))
 (Xw (Z9 (xB (eOp neD (Za 4) (eOp ixD (Za 3) (eUn Yl (eC (.int 1)))))) (U3 3 4 (Zo 3 UI [] (Zb (Za 0) (Zb (Za 1) (Zb (Za 4) eNil))))))
 (Zq (Za 3)))))
noncomputable def Qe:List D->Option D:=Y6 5 f_QY
noncomputable def f_QL:DL.Env->Option Out:=
 (Zg (Zj 1 (Zz (Zb (eC (.int 1)) eNil)))
 (Zg (Z9 (xB (eOp (Z5 λi j=>decide (i<=j)) (eOp mulX (eOp ixD (Za 1) (eUn Yl (eC (.int 1)))) (eC (.int 2))) (Za 0))) (Z7 1 (eOp mulX (eOp ixD (Za 1) (eUn Yl (eC (.int 1)))) (eC (.int 2)))))
 (Zq (Za 1))))
noncomputable def Ja:List D->Option D:=run 2 f_QL
noncomputable def f_QV:DL.Env->Option Out:=
 (Uh 3 4 5 [112,114,101,115,115] [119,101,105,103,104,116,115] [99,108,111,115,101] (Zo 2 UH [] (Zb (Za 0) (Zb (Za 1) eNil))) (Z2 (Zo 1 Ja [] (Zb (Za 2) eNil))) (Zo 3 Qe [] (Zb (Za 0) (Zb (Za 1) (Zb (eOp Yq (Zz (Zb (Za 5) eNil)) (eCB lenD (Zb (Za 0) eNil))) eNil)))) (xB (eOp (Z5 λi j=>decide (j<i)) (eCB maxLD (Zb (eOp ixD (Za 4) (eUn Yl (eC (.int 1)))) eNil)) (eC (.int 0)))))
noncomputable def Vg:List D->Option D:=Y6 6 f_QV
noncomputable def f_QF:DL.Env->Option Out:=
 (Zg (sIf (xB (eOp (Z5 λi j=>decide (i<j)) (Za 1) (eCB lenD (Zb (Za 0) eNil)))) (Zq (eOp ixD (Za 0) (Za 1))) sNext)
 (Zq (eC (.int 0))))
noncomputable def Vy:List D->Option D:=run 2 f_QF
noncomputable def f_QB:DL.Env->Option Out:=
 (Zq (YC (Yv ZbS (Za 0)) (Ub (Yv J9 (Za 0)))))
noncomputable def Jb:List D->Option D:=run 1 f_QB
noncomputable def f_QT:DL.Env->Option Out:=
 (Zg (sIf (xOr (Yc (xB (Yv Qc (Za 0)))) (xB (eOp neD (eCB lenD (Zb (Za 0) eNil)) (Za 1)))) (Zq (eC (.bl false))) sNext)
 (Zg (ZQ (Z2 (Za 0)) (Zs 2) (sIf (Yc (xB (Zo 1 Jb [] (Zb (Za 2) eNil)))) (Zq (eC (.bl false))) sNext))
 (Zq (eC (.bl true)))))
noncomputable def Up:List D->Option D:=run 3 f_QT
noncomputable def f_QJ(m_QJ:List D->Option D):DL.Env->Option Out:=
 (Zg (sIf (xB (eOp eqD (eCB lenD (Zb (Za 1) eNil)) (eC (.int 0)))) (Zq (eC (.int 1))) sNext)
 (Zg (Zj 2 (eOp ixD (Za 0) (eOp subD (eCB lenD (Zb (Za 0) eNil)) (eCB lenD (Zb (Za 1) eNil)))))
 (Zg (Zj 3 (eC (.int 0)))
 (Zg (ZQ (ZI (Zb (eCB lenD (Zb (Za 1) eNil)) eNil)) (Zs 4) (Zg (Zj 5 (eOp ixD (Za 2) (eOp ixD (Za 1) (Za 4))))
 (Zg (sIf (xB (eOp neD (Za 5) (eC (.int 0)))) (Zj 5 (eOp mulX (Za 5) (Zo 2 m_QJ [] (Zb (Za 0) (Zb (eOp addX (eSl (Za 1) xNoP (xP (Za 4))) (eSl (Za 1) (xP (eOp addX (Za 4) (eC (.int 1)))) xNoP)) eNil))))) sNext)
 (Zj 3 (eOp addX (Za 3) (eOp mulX (Za 5) (eOp subD (eC (.int 1)) (eOp mulX (eOp modW (Za 4) (eC (.int 2))) (eC (.int 2))))))))))
 (Zq (Za 3))))))
noncomputable def UJ:Nat->List D->Option D
 |0=>λ_=>none
 |n+1=>run 6 (f_QJ (UJ n))
noncomputable def m_QJ:List D->Option D:=UJ 8
noncomputable def f_QD:DL.Env->Option Out:=
 (Zq (Zo 2 m_QJ [] (Zb (Za 0) (Zb (U4 (Zb (eCB lenD (Zb (Za 0) eNil)) eNil)) eNil))))
noncomputable def Jc:List D->Option D:=run 1 f_QD
noncomputable def f_QQ:DL.Env->Option Out:=
 (Zg (ZQ (ZI (Zb (eC (.int 1)) (Zb (eOp addX (eCB lenD (Zb (Za 0) eNil)) (eC (.int 1))) eNil))) (Zs 2) (Zg (Zj 3 (Zz eNil))
 (Zg (ZQ (ZI (Zb (Za 2) eNil)) (Zs 4) (Z7 3 (ZV (ZI (Zb (Za 2) eNil)) (Zs 0) (λ_=>some true) (eOp subD (eOp mulX (Za 1) (eCB intD (Zb (eOp eqD (Za 0) (Za 2)) eNil))) (eOp ixD (eOp ixD (Za 3) (Za 2)) (Za 0))) 1 [1,4,0])))
 (sIf (xB (eOp (Z5 λi j=>decide (i<=j)) (Zo 1 Jc [] (Zb (Za 3) eNil)) (eC (.int 0)))) (Zq (eC (.bl false))) sNext))))
 (Zq (eC (.bl true))))
noncomputable def ZhT:List D->Option D:=run 5 f_QQ
noncomputable def f_QN:DL.Env->Option Out:=
 (Zg (Zj 1 (eC (.int 0)))
 (Zg (ZQ (Z2 (Za 0)) (Zs 2) (Z9 (xB (eOp neD (Za 2) (eC (.int 0)))) (Zg (Zj 3 (eOp modW (Za 1) (Za 2)))
 (Zg (Zj 1 (Za 2))
 (Zj 2 (Za 3))))))
 (Zq (eOp eqD (Za 1) (eC (.int 1))))))
noncomputable def Jd:List D->Option D:=run 4 f_QN
noncomputable def f_QE:DL.Env->Option Out:=
 (Zg (Zj 3 (eCB lenD (Zb (Za 0) eNil)))
 (Zg (sIf (xOr (Yc (xB (Zo 2 Up [] (Zb (Za 2) (Zb (Za 3) eNil))))) (xB (eOp (Z5 λi j=>decide (i<=j)) (eCB minLD (Zb (Za 2) eNil)) (eC (.int 0))))) (Zq (eC (.bl false))) sNext)
 (Zg (Zj 4 (Zz eNil))
 (Zg (ZQ (ZI (Zb (Za 3) eNil)) (Zs 5) (Z7 4 (eOp subD (eOp mulX (Za 1) (eOp ixD (Za 2) (Za 5))) (eCB sumLD (Zb (ZV (ZI (Zb (Za 3) eNil)) (Zs 0) (λ_=>some true) (eOp mulX (eOp ixD (Za 1) (Za 0)) (eOp ixD (eOp ixD (Za 2) (Za 0)) (Za 3))) 1 [2,0,5]) eNil)))))
 (Zq (YC (eOp (Z5 λi j=>decide (j<i)) (eOp ixD (Za 4) (eC (.int 0))) (eC (.int 0))) (YC (eOp eqD (Za 4) (eOp Yq (Zz (Zb (eOp ixD (Za 4) (eC (.int 0))) eNil)) (Za 3))) (Zo 1 Jd [] (Zb (eOp addX (Za 2) (Zz (Zb (eOp ixD (Za 4) (eC (.int 0))) eNil))) eNil)))))))))
noncomputable def ZhU:List D->Option D:=run 6 f_QE
noncomputable def f_QM:DL.Env->Option Out:=
 (Zg (Zj 1 (eOp modW (Za 0) (eC (.int 4))))
 (Zg (sIf (xB (eOp eqD (Za 1) (eC (.int 0)))) (Zq (eC (.int 0))) sNext)
 (Zq (eOp modW (eOp fdivW (Za 0) (eC (.int 4))) (eOp ixD (Zz (Zb (eC (.int 3)) (Zb (eC (.int 12)) (Zb (eOp powW (eC (.int 10)) (eC (.int 12))) eNil)))) (eOp subD (Za 1) (eC (.int 1))))))))
noncomputable def ZhV:List D->Option D:=run 2 f_QM
noncomputable def f_QC:DL.Env->Option Out:=
 (Zg (Zj 2 (eOp Yq (Zz (Zb (eC (.int 0)) eNil)) (eOp mulX (Za 1) (Za 1))))
 (Zg (ZQ (ZI (Zb (eC (.int 3)) (Zb (eCB lenD (Zb (Za 0) eNil)) eNil))) (Zs 3) (Zg (Zj 4 (eOp modW (eOp subD (Za 3) (eC (.int 3))) (eOp mulX (Za 1) (Za 1))))
 (YV 2 (Za 4) (eOp modW (eOp addX (eOp mulX (eOp ixD (Za 2) (Za 4)) (eC (.int 1009))) (eOp ixD (Za 0) (Za 3))) (eOp powW (eC (.int 10)) (eC (.int 15)))))))
 (Zq (Za 2))))
noncomputable def ZhW:List D->Option D:=run 5 f_QC
noncomputable def f_QP:DL.Env->Option Out:=
 (Zg (Zj 2 (eCB maxLD (Zb (ZV (Z2 (Za 1)) (Zs 0) (λ_=>some true) (eCB sumLD (Zb (Za 0) eNil)) 1 []) eNil)))
 (Zg (sIf (xB (eOp eqD (eOp modW (Za 0) (eC (.int 3))) (eC (.int 0)))) (Zq (eOp addX (eC (.int 1)) (eOp modW (eOp fdivW (Za 0) (eC (.int 3))) (eC (.int 5))))) sNext)
 (Zq (eOp addX (eC (.int 1)) (eOp modW (eOp fdivW (Za 0) (eC (.int 3))) (eOp addX (Za 2) (eC (.int 2))))))))
noncomputable def ZhX:List D->Option D:=run 3 f_QP
noncomputable def f_QG:DL.Env->Option Out:=
 (Zg (Zj 3 (Zz eNil))
 (Zg (ZQ (ZI (Zb (eCB lenD (Zb (Za 0) eNil)) eNil)) (Zs 4) (Zg (Zj 5 (eC (.int 0)))
 (Zg (ZQ (ZI (Zb (eCB lenD (Zb (Za 0) eNil)) eNil)) (Zs 6) (Zj 5 (eOp addX (Za 5) (eOp mulX (eOp ixD (eOp ixD (Za 0) (Za 4)) (Za 6)) (eOp ixD (Za 2) (Za 6))))))
 (Z7 3 (eCB minLD (Zb (Zz (Zb (eOp ixD (Za 2) (Za 4)) (Zb (eOp fdivW (Za 5) (Za 1)) eNil))) eNil))))))
 (Zq (Za 3))))
noncomputable def Uq:List D->Option D:=run 7 f_QG
noncomputable def f_QI:DL.Env->Option Out:=
 (Zg (Zj 3 (Zz (Zb (eOp Yq (Zz (Zb (Za 2) eNil)) (eCB lenD (Zb (Za 0) eNil))) eNil)))
 (Zg (Zj 4 (Zo 3 Uq [] (Zb (Za 0) (Zb (Za 1) (Zb (eOp ixD (Za 3) (eUn Yl (eC (.int 1)))) eNil)))))
 (Zg (Z9 (xB (eOp neD (Za 4) (eOp ixD (Za 3) (eUn Yl (eC (.int 1)))))) (Zg (Z7 3 (Za 4))
 (Zj 4 (Zo 3 Uq [] (Zb (Za 0) (Zb (Za 1) (Zb (Za 4) eNil)))))))
 (Zq (Za 3)))))
noncomputable def ZhY:List D->Option D:=run 5 f_QI
noncomputable def f_QS:DL.Env->Option Out:=
 (Zg (Zj 3 (eC (.int 1)))
 (Zg (Zj 4 (Zz eNil))
 (Zg (Z9 (xB (eOp (Z5 λi j=>decide (i<=j)) (Za 3) (Za 2))) (Zg (Zj 4 (Zo 3 ZhY [] (Zb (Za 0) (Zb (Za 1) (Zb (Za 3) eNil)))))
 (Zg (sIf (xB (eOp neD (eOp ixD (Za 4) (eUn Yl (eC (.int 1)))) (eOp Yq (Zz (Zb (eC (.int 0)) eNil)) (eCB lenD (Zb (Za 0) eNil))))) (Zq (Y4 (Zb (eC (.str [119,101,105,103,104,116,115])) (Zb (eOp ixD (Za 4) (eUn Yl (eC (.int 1)))) eNil)))) sNext)
 (Zj 3 (eOp mulX (Za 3) (eC (.int 2)))))))
 (Zq (Y4 (Zb (eC (.str [99,108,111,115,101])) (Zb (Za 4) eNil)))))))
noncomputable def ZhZ:List D->Option D:=run 5 f_QS
noncomputable def f_QO:DL.Env->Option Out:=
 (Zg (sIf (xB (eOp neD (eOp ixD (Za 0) (eC (.int 0))) (eOp ixD (Za 1) (eC (.int 0))))) (Zq (eC (.bl false))) sNext)
 (Zg (sIf (xB (eOp eqD (eOp ixD (Za 1) (eC (.int 0))) (eC (.str [119,101,105,103,104,116,115])))) (Zq (YC (Zo 2 Up [] (Zb (eOp ixD (Za 0) (eC (.int 1))) (Zb (Za 2) eNil))) (eOp eqD (eOp ixD (Za 0) (eC (.int 1))) (eOp ixD (Za 1) (eC (.int 1)))))) sNext)
 (Zg (sIf (xOr (Yc (xB (Yv Qc (eOp ixD (Za 0) (eC (.int 1)))))) (xB (eOp neD (eCB lenD (Zb (eOp ixD (Za 0) (eC (.int 1))) eNil)) (eCB lenD (Zb (eOp ixD (Za 1) (eC (.int 1))) eNil))))) (Zq (eC (.bl false))) sNext)
 (Zg (ZQ (ZI (Zb (eCB lenD (Zb (eOp ixD (Za 1) (eC (.int 1))) eNil)) eNil)) (Zs 3) (sIf (xOr (Yc (xB (Zo 2 Up [] (Zb (eOp ixD (eOp ixD (Za 0) (eC (.int 1))) (Za 3)) (Zb (Za 2) eNil))))) (xB (eOp neD (eOp ixD (eOp ixD (Za 0) (eC (.int 1))) (Za 3)) (eOp ixD (eOp ixD (Za 1) (eC (.int 1))) (Za 3))))) (Zq (eC (.bl false))) sNext))
 (Zq (eC (.bl true)))))))
noncomputable def Qf:List D->Option D:=run 4 f_QO
noncomputable def Ur:DL.Env->Option Out:=
 (Xx (xOr (xB (eOp neD (Za 7) (Za 3))) (xOr (Yc (xB (Yv Zaq (Za 8)))) (xOr (xB (eOp neD (eCB lenD (Zb (Za 8) eNil)) (eC (.int 2)))) (Yc (xB (Yv ZbT (eOp ixD (Za 8) (eC (.int 0))))))))) (eC (.bl false))
 (Xx (xB (Zo 2 ZhT [] (Zb (Za 3) (Zb (Za 5) eNil)))) (YC (eOp eqD (eOp ixD (Za 8) (eC (.int 0))) (eC (.str [112,114,101,115,115]))) (Zo 3 ZhU [] (Zb (Za 3) (Zb (Za 5) (Zb (eOp ixD (Za 8) (eC (.int 1))) eNil)))))
 (U6 9 8 (Zo 3 ZhZ [] (Zb (Za 3) (Zb (Za 5) (Zb (Za 6) eNil))))
 (Xx (Yc (xB (Zo 3 Qf [] (Zb (Za 8) (Zb (Za 9) (Zb (Za 1) eNil)))))) (eC (.bl false))
 (Uj 8 (xB (eOp eqD (eOp ixD (Za 9) (eC (.int 0))) (eC (.str [99,108,111,115,101])))) (Zo 3 Qf [] (Zb (Zo 3 Vg [] (Zb (Za 7) (Zb (Za 5) (Zb (Za 6) eNil)))) (Zb (Za 9) (Zb (Za 1) eNil)))))))))
noncomputable def f_Q2:DL.Env->Option Out:=
 (Zg (Zj 1 (eOp addX (eC (.int 1)) (eOp modW (Zo 2 Vy [] (Zb (Za 0) (Zb (eC (.int 0)) eNil))) (eC (.int 4)))))
 (Zg (Zj 2 (Zo 2 ZhW [] (Zb (Za 0) (Zb (Za 1) eNil))))
 (Zg (Zj 3 (Zz eNil))
 (Zg (ZQ (ZI (Zb (Za 1) eNil)) (Zs 4) (Z7 3 (ZV (ZI (Zb (Za 1) eNil)) (Zs 0) (λ_=>some true) (Zo 1 ZhV [] (Zb (eOp ixD (Za 1) (eOp addX (eOp mulX (Za 2) (Za 3)) (Za 0))) eNil)) 1 [2,4,1])))
 (Zg (Zj 5 (Zo 2 ZhX [] (Zb (Zo 2 Vy [] (Zb (Za 0) (Zb (eC (.int 1)) eNil))) (Zb (Za 3) eNil))))
 (Zg (Zj 6 (eOp addX (eC (.int 1)) (eOp modW (eOp fdivW (Zo 2 Vy [] (Zb (Za 0) (Zb (eC (.int 2)) eNil))) (eC (.int 3))) (eC (.int 40)))))
 (Zg (Zj 7 (ZV (Z2 (Za 3)) (Zs 0) (λ_=>some true) (eCB Y5 (Zb (Za 0) eNil)) 1 []))
 (sIf (xB (eOp eqD (eOp modW (Zo 2 Vy [] (Zb (Za 0) (Zb (eC (.int 2)) eNil))) (eC (.int 3))) (eC (.int 1)))) (Zg (Zj 6 (eC (.int 16))) (Ui 8 (Zo 3 Vg [.int 16] (Zb (Za 7) (Zb (Za 5) eNil))) Ur)) (Ui 8 (Zo 3 Vg [] (Zb (Za 7) (Zb (Za 5) (Zb (Za 6) eNil)))) Ur)))))))))
noncomputable def Zh0:List D->Option D:=run 10 f_Q2
end K30
namespace K30
open PySem PySem.Spec L2 DL
def top(i:Nat):Stmt:=PySem.Challenge.pw_grooveway_k30_whole_verdict.main.body.getD i (.Pass ⟨0,0,0,0⟩)
abbrev Vz:Stmt:=top 1
abbrev VB:Stmt:=top 2
abbrev Vh:Stmt:=top 3
abbrev VC:Stmt:=top 4
abbrev Vi:Stmt:=top 5
abbrev X2:Stmt:=top 6
abbrev Vj:Stmt:=top 8
abbrev X3:Stmt:=top 9
abbrev Vk:Stmt:=top 10
abbrev Vl:Stmt:=top 11
abbrev VD:Stmt:=top 12
abbrev VH:Stmt:=top 13
abbrev VL:Stmt:=top 14
abbrev VN:Stmt:=top 16
abbrev VP:Stmt:=top 17
abbrev VQ:Stmt:=top 18
abbrev VR:Stmt:=top 19
abbrev VU:Stmt:=top 20
abbrev Vm:Stmt:=top 21
abbrev VV:Stmt:=top 22
abbrev Vn:Stmt:=top 23
abbrev VY:Stmt:=top 24
abbrev VZ:Stmt:=top 25
abbrev Vo:Stmt:=top 26
abbrev V0:Stmt:=top 27
abbrev V1:Stmt:=top 28
abbrev V2:Stmt:=top 29
abbrev V3:Stmt:=top 30
abbrev Y8:Stmt:=top 31
theorem ZiF:FnScope ["a", "b", "rest"] ["a", "b"] (defScope Vz):=⟨rfl,rfl,rfl,by decide +kernel,rfl,by decide +kernel,by decide +kernel⟩
theorem ZiG:FnScope ["a", "b", "common"] ["a", "b"] (defScope VB):=⟨rfl,rfl,rfl,by decide +kernel,rfl,by decide +kernel,by decide +kernel⟩
theorem ZiH:FnScope ["rows", "place", "fit"] ["rows", "place"] (defScope Vh):=⟨rfl,rfl,rfl,by decide +kernel,rfl,by decide +kernel,by decide +kernel⟩
theorem ZiI:FnScope ["rows", "one", "other", "told"] ["rows", "one", "other"] (defScope VC):=⟨rfl,rfl,rfl,by decide +kernel,rfl,by decide +kernel,by decide +kernel⟩
theorem ZiJ:FnScope ["rows", "place", "divided_by", "taken", "fewer", "number", "row", "pairs"] ["rows", "place", "divided_by"] (defScope Vi):=⟨rfl,rfl,rfl,by decide +kernel,rfl,by decide +kernel,by decide +kernel⟩
theorem ZiK:FnScope ["table", "right", "rows", "last", "place", "number", "front"] ["table", "right"] (defScope X2):=⟨rfl,rfl,rfl,by decide +kernel,rfl,by decide +kernel,by decide +kernel⟩
theorem ZiL:FnScope ["table", "n", "sides", "column", "side"] ["table", "n"] (defScope Vj):=⟨rfl,rfl,rfl,by decide +kernel,rfl,by decide +kernel,by decide +kernel⟩
theorem ZiM:FnScope ["table", "n", "found", "shared", "part"] ["table", "n"] (defScope X3):=⟨rfl,rfl,rfl,by decide +kernel,rfl,by decide +kernel,by decide +kernel⟩
theorem ZiN:FnScope ["table", "weights"] ["table", "weights"] (defScope Vk):=⟨rfl,rfl,rfl,by decide +kernel,rfl,by decide +kernel,by decide +kernel⟩
theorem ZiO:FnScope ["table", "n", "weights"] ["table", "n", "weights"] (defScope Vl):=⟨rfl,rfl,rfl,by decide +kernel,rfl,by decide +kernel,by decide +kernel⟩
theorem ZiP:FnScope ["table", "n", "weights", "told", "after"] ["table", "n", "weights"] (defScope VD):=⟨rfl,rfl,rfl,by decide +kernel,rfl,by decide +kernel,by decide +kernel⟩
theorem ZiQ:FnScope ["most", "told"] ["most"] (defScope VH):=⟨rfl,rfl,rfl,by decide +kernel,rfl,by decide +kernel,by decide +kernel⟩
theorem ZiR:FnScope ["table", "n", "most", "pressed", "told", "weight"] ["table", "n", "most"] (defScope VL):=⟨rfl,rfl,rfl,by decide +kernel,rfl,by decide +kernel,by decide +kernel⟩
theorem ZiS:FnScope ["script", "k"] ["script", "k"] (defScope VN):=⟨rfl,rfl,rfl,by decide +kernel,rfl,by decide +kernel,by decide +kernel⟩
theorem ZiT:FnScope ["found"] ["found"] (defScope VP):=⟨rfl,rfl,rfl,by decide +kernel,rfl,by decide +kernel,by decide +kernel⟩
theorem ZiU:FnScope ["found", "many", "number"] ["found", "many"] (defScope VQ):=⟨rfl,rfl,rfl,by decide +kernel,rfl,by decide +kernel,by decide +kernel⟩
theorem ZiV:FnScope ["table", "columns", "row", "whole", "k", "part"] ["table", "columns"] (defScope VR):=⟨rfl,rfl,rfl,by decide +kernel,rfl,by decide +kernel,by decide +kernel⟩
theorem ZiW:FnScope ["table"] ["table"] (defScope VU):=⟨rfl,rfl,rfl,by decide +kernel,rfl,by decide +kernel,by decide +kernel⟩
theorem ZiX:FnScope ["table", "n", "many", "corner", "k"] ["table", "n"] (defScope Vm):=⟨rfl,rfl,rfl,by decide +kernel,rfl,by decide +kernel,by decide +kernel⟩
theorem ZiY:FnScope ["numbers", "by", "number", "rest"] ["numbers"] (defScope VV):=⟨rfl,rfl,rfl,by decide +kernel,rfl,by decide +kernel,by decide +kernel⟩
theorem ZiZ:FnScope ["table", "n", "found", "many", "left", "j"] ["table", "n", "found"] (defScope Vn):=⟨rfl,rfl,rfl,by decide +kernel,rfl,by decide +kernel,by decide +kernel⟩
theorem Zi0:FnScope ["number", "way"] ["number"] (defScope VY):=⟨rfl,rfl,rfl,by decide +kernel,rfl,by decide +kernel,by decide +kernel⟩
theorem Zi1:FnScope ["script", "many", "numbers", "k", "at"] ["script", "many"] (defScope VZ):=⟨rfl,rfl,rfl,by decide +kernel,rfl,by decide +kernel,by decide +kernel⟩
theorem Zi2:FnScope ["cell", "table", "most"] ["cell", "table"] (defScope Vo):=⟨rfl,rfl,rfl,by decide +kernel,rfl,by decide +kernel,by decide +kernel⟩
theorem Zi3:FnScope ["table", "n", "weights", "due", "k", "whole", "j"] ["table", "n", "weights"] (defScope V0):=⟨rfl,rfl,rfl,by decide +kernel,rfl,by decide +kernel,by decide +kernel⟩
theorem Zi4:FnScope ["table", "n", "m", "due", "later"] ["table", "n", "m"] (defScope V1):=⟨rfl,rfl,rfl,by decide +kernel,rfl,by decide +kernel,by decide +kernel⟩
theorem Zi5:FnScope ["table", "n", "most", "m", "due"] ["table", "n", "most"] (defScope V2):=⟨rfl,rfl,rfl,by decide +kernel,rfl,by decide +kernel,by decide +kernel⟩
theorem Zi6:FnScope ["found", "due", "many", "k"] ["found", "due", "many"] (defScope V3):=⟨rfl,rfl,rfl,by decide +kernel,rfl,by decide +kernel,by decide +kernel⟩
theorem Zi7:FnScope ["script", "many", "numbers", "table", "k", "n", "most", "handed", "found", "due"] ["script"] (defScope Y8):=⟨rfl,rfl,rfl,by decide +kernel,rfl,by decide +kernel,by decide +kernel⟩
structure Adr where
 a_QA:Addr
 d_QA:FuncData
 a_QU:Addr
 d_QU:FuncData
 a_QK:Addr
 d_QK:FuncData
 a_QR:Addr
 d_QR:FuncData
 a_QW:Addr
 d_QW:FuncData
 a_QX:Addr
 d_QX:FuncData
 a_QH:Addr
 d_QH:FuncData
 a_Q0:Addr
 d_Q0:FuncData
 a_Q1:Addr
 d_Q1:FuncData
 a_QZ:Addr
 d_QZ:FuncData
 a_QY:Addr
 d_QY:FuncData
 a_QL:Addr
 d_QL:FuncData
 a_QV:Addr
 d_QV:FuncData
 dv0_verdict:Value
 a_QF:Addr
 d_QF:FuncData
 a_QB:Addr
 d_QB:FuncData
 a_QT:Addr
 d_QT:FuncData
 a_QJ:Addr
 d_QJ:FuncData
 a_QD:Addr
 d_QD:FuncData
 a_QQ:Addr
 d_QQ:FuncData
 a_QN:Addr
 d_QN:FuncData
 a_QE:Addr
 d_QE:FuncData
 a_QM:Addr
 d_QM:FuncData
 a_QC:Addr
 d_QC:FuncData
 a_QP:Addr
 d_QP:FuncData
 a_QG:Addr
 d_QG:FuncData
 a_QI:Addr
 d_QI:FuncData
 a_QS:Addr
 d_QS:FuncData
 a_QO:Addr
 d_QO:FuncData
 a_Q2:Addr
 d_Q2:FuncData
def Adr.c(t:Adr):String->Addr:=λc=>0
structure Txt(K:PySem.W.Frag)(mg:Str->Option Value)(t:Adr):Prop where
 f_QA:FunX K "common_divisor" "common_divisor" Vz t.a_QA t.d_QA
 b_QA:Binds K t.d_QA ["a", "b"] []
 g_QA:mg "common_divisor" = some (.ref t.a_QA)
 k_QA:keepIn K (.ref t.a_QA)=true
 f_QU:FunX K "reduced" "reduced" VB t.a_QU t.d_QU
 b_QU:Binds K t.d_QU ["a", "b"] []
 g_QU:mg "reduced" = some (.ref t.a_QU)
 k_QU:keepIn K (.ref t.a_QU)=true
 f_QK:FunX K "row_to_take" "row_to_take" Vh t.a_QK t.d_QK
 b_QK:Binds K t.d_QK ["rows", "place"] []
 g_QK:mg "row_to_take" = some (.ref t.a_QK)
 k_QK:keepIn K (.ref t.a_QK)=true
 f_QR:FunX K "exchanged" "exchanged" VC t.a_QR t.d_QR
 b_QR:Binds K t.d_QR ["rows", "one", "other"] []
 g_QR:mg "exchanged" = some (.ref t.a_QR)
 k_QR:keepIn K (.ref t.a_QR)=true
 f_QW:FunX K "cleared" "cleared" Vi t.a_QW t.d_QW
 b_QW:Binds K t.d_QW ["rows", "place", "divided_by"] []
 g_QW:mg "cleared" = some (.ref t.a_QW)
 k_QW:keepIn K (.ref t.a_QW)=true
 f_QX:FunX K "solved" "solved" X2 t.a_QX t.d_QX
 b_QX:Binds K t.d_QX ["table", "right"] []
 g_QX:mg "solved" = some (.ref t.a_QX)
 k_QX:keepIn K (.ref t.a_QX)=true
 f_QH:FunX K "press_sides" "press_sides" Vj t.a_QH t.d_QH
 b_QH:Binds K t.d_QH ["table", "n"] []
 g_QH:mg "press_sides" = some (.ref t.a_QH)
 k_QH:keepIn K (.ref t.a_QH)=true
 f_Q0:FunX K "press" "press" X3 t.a_Q0 t.d_Q0
 b_Q0:Binds K t.d_Q0 ["table", "n"] []
 g_Q0:mg "press" = some (.ref t.a_Q0)
 k_Q0:keepIn K (.ref t.a_Q0)=true
 f_Q1:FunX K "borne" "borne" Vk t.a_Q1 t.d_Q1
 b_Q1:Binds K t.d_Q1 ["table", "weights"] []
 g_Q1:mg "borne" = some (.ref t.a_Q1)
 k_Q1:keepIn K (.ref t.a_Q1)=true
 f_QZ:FunX K "shrunk" "shrunk" Vl t.a_QZ t.d_QZ
 b_QZ:Binds K t.d_QZ ["table", "n", "weights"] []
 g_QZ:mg "shrunk" = some (.ref t.a_QZ)
 k_QZ:keepIn K (.ref t.a_QZ)=true
 f_QY:FunX K "rounds" "rounds" VD t.a_QY t.d_QY
 b_QY:Binds K t.d_QY ["table", "n", "weights"] []
 g_QY:mg "rounds" = some (.ref t.a_QY)
 k_QY:keepIn K (.ref t.a_QY)=true
 f_QL:FunX K "beginnings" "beginnings" VH t.a_QL t.d_QL
 b_QL:Binds K t.d_QL ["most"] []
 g_QL:mg "beginnings" = some (.ref t.a_QL)
 k_QL:keepIn K (.ref t.a_QL)=true
 f_QV:FunX K "verdict" "verdict" VL t.a_QV t.d_QV
 b_QV:Binds K t.d_QV ["table", "n", "most"] []
 b1_verdict:Binds K t.d_QV ["table", "n", "most"] [t.dv0_verdict]
 dr0_verdict:RelV (.int 16) t.dv0_verdict
 g_QV:mg "verdict" = some (.ref t.a_QV)
 k_QV:keepIn K (.ref t.a_QV)=true
 f_QF:FunX K "_law_cell_at" "_law_cell_at" VN t.a_QF t.d_QF
 b_QF:Binds K t.d_QF ["script", "k"] []
 g_QF:mg "_law_cell_at" = some (.ref t.a_QF)
 k_QF:keepIn K (.ref t.a_QF)=true
 f_QB:FunX K "_law_is_whole" "_law_is_whole" VP t.a_QB t.d_QB
 b_QB:Binds K t.d_QB ["found"] []
 g_QB:mg "_law_is_whole" = some (.ref t.a_QB)
 k_QB:keepIn K (.ref t.a_QB)=true
 f_QT:FunX K "_law_row" "_law_row" VQ t.a_QT t.d_QT
 b_QT:Binds K t.d_QT ["found", "many"] []
 g_QT:mg "_law_row" = some (.ref t.a_QT)
 k_QT:keepIn K (.ref t.a_QT)=true
 f_QJ:FunX K "_law_signed" "_law_signed" VR t.a_QJ t.d_QJ
 b_QJ:Binds K t.d_QJ ["table", "columns"] []
 g_QJ:mg "_law_signed" = some (.ref t.a_QJ)
 k_QJ:keepIn K (.ref t.a_QJ)=true
 f_QD:FunX K "_law_product" "_law_product" VU t.a_QD t.d_QD
 b_QD:Binds K t.d_QD ["table"] []
 g_QD:mg "_law_product" = some (.ref t.a_QD)
 k_QD:keepIn K (.ref t.a_QD)=true
 f_QQ:FunX K "_law_slow" "_law_slow" Vm t.a_QQ t.d_QQ
 b_QQ:Binds K t.d_QQ ["table", "n"] []
 g_QQ:mg "_law_slow" = some (.ref t.a_QQ)
 k_QQ:keepIn K (.ref t.a_QQ)=true
 f_QN:FunX K "_law_alone" "_law_alone" VV t.a_QN t.d_QN
 b_QN:Binds K t.d_QN ["numbers"] []
 g_QN:mg "_law_alone" = some (.ref t.a_QN)
 k_QN:keepIn K (.ref t.a_QN)=true
 f_QE:FunX K "_law_pressed" "_law_pressed" Vn t.a_QE t.d_QE
 b_QE:Binds K t.d_QE ["table", "n", "found"] []
 g_QE:mg "_law_pressed" = some (.ref t.a_QE)
 k_QE:keepIn K (.ref t.a_QE)=true
 f_QM:FunX K "_law_entry" "_law_entry" VY t.a_QM t.d_QM
 b_QM:Binds K t.d_QM ["number"] []
 g_QM:mg "_law_entry" = some (.ref t.a_QM)
 k_QM:keepIn K (.ref t.a_QM)=true
 f_QC:FunX K "_law_gathered" "_law_gathered" VZ t.a_QC t.d_QC
 b_QC:Binds K t.d_QC ["script", "many"] []
 g_QC:mg "_law_gathered" = some (.ref t.a_QC)
 k_QC:keepIn K (.ref t.a_QC)=true
 f_QP:FunX K "_law_wish" "_law_wish" Vo t.a_QP t.d_QP
 b_QP:Binds K t.d_QP ["cell", "table"] []
 g_QP:mg "_law_wish" = some (.ref t.a_QP)
 k_QP:keepIn K (.ref t.a_QP)=true
 f_QG:FunX K "_law_shrunk" "_law_shrunk" V0 t.a_QG t.d_QG
 b_QG:Binds K t.d_QG ["table", "n", "weights"] []
 g_QG:mg "_law_shrunk" = some (.ref t.a_QG)
 k_QG:keepIn K (.ref t.a_QG)=true
 f_QI:FunX K "_law_rounds" "_law_rounds" V1 t.a_QI t.d_QI
 b_QI:Binds K t.d_QI ["table", "n", "m"] []
 g_QI:mg "_law_rounds" = some (.ref t.a_QI)
 k_QI:keepIn K (.ref t.a_QI)=true
 f_QS:FunX K "_law_due" "_law_due" V2 t.a_QS t.d_QS
 b_QS:Binds K t.d_QS ["table", "n", "most"] []
 g_QS:mg "_law_due" = some (.ref t.a_QS)
 k_QS:keepIn K (.ref t.a_QS)=true
 f_QO:FunX K "_law_alike" "_law_alike" V3 t.a_QO t.d_QO
 b_QO:Binds K t.d_QO ["found", "due", "many"] []
 g_QO:mg "_law_alike" = some (.ref t.a_QO)
 k_QO:keepIn K (.ref t.a_QO)=true
 f_Q2:FunX K "law" "law" Y8 t.a_Q2 t.d_Q2
 b_Q2:Binds K t.d_Q2 ["script"] []
 g_Q2:mg "law" = some (.ref t.a_Q2)
 k_Q2:keepIn K (.ref t.a_Q2)=true
 n_abs:mg "abs" = none
 n_bool:mg "bool" = none
 n_enumerate:mg "enumerate" = none
 n_int:mg "int" = none
 n_isinstance:mg "isinstance" = none
 n_len:mg "len" = none
 n_list:mg "list" = none
 n_max:mg "max" = none
 n_min:mg "min" = none
 n_range:mg "range" = none
 n_str:mg "str" = none
 n_sum:mg "sum" = none
 n_tuple:mg "tuple" = none
 n_zip:mg "zip" = none
 isi_bool:IsiOk K ⟨t.c,K⟩ (.type "bool") J9
 isi_int:IsiOk K ⟨t.c,K⟩ (.type "int") ZbS
 isi_list:IsiOk K ⟨t.c,K⟩ (.type "list") Qc
 isi_str:IsiOk K ⟨t.c,K⟩ (.type "str") ZbT
 isi_tuple:IsiOk K ⟨t.c,K⟩ (.type "tuple") Zaq
end K30
namespace K30
open PySem PySem.W L2 HT
def kP:Params->PySem.W.Frag:=λP=>
 (nat_lit 2,dO .none [] 0) ::
 (nat_lit 3,dO (.type "dict") [de P "__name__" 165 (.str "law_grooveway_k30_whole_verdict" 293),de P "__doc__" 166 .none,de P "__package__" 167 .none,de P "__loader__" 168 (.builtin "__main__.__loader__#opaque"),de P "__spec__" 169 .none,de P "__annotations__" 170 (.ref 6),de P "__builtins__" 171 (.ref 4),de P "__file__" 173 (.str "/claim/cut.py" 172),de P "__cached__" 174 .none,de P "common_divisor" 197 (.ref 21),de P "reduced" 206 (.ref 28),de P "row_to_take" 212 (.ref 33),de P "exchanged" 222 (.ref 40),de P "cleared" 228 (.ref 45),de P "solved" 234 (.ref 50),de P "press_sides" 242 (.ref 55),de P "press" 248 (.ref 60),de P "borne" 254 (.ref 65),de P "shrunk" 260 (.ref 70),de P "rounds" 271 (.ref 77),de P "beginnings" 279 (.ref 84),de P "verdict" 292 (.ref 92),de P "_law_cell_at" 302 (.ref 99),de P "_law_is_whole" 309 (.ref 106),de P "_law_row" 318 (.ref 113),de P "_law_signed" 330 (.ref 120),de P "_law_product" 337 (.ref 127),de P "_law_slow" 343 (.ref 132),de P "_law_alone" 353 (.ref 139),de P "_law_pressed" 359 (.ref 144),de P "_law_entry" 367 (.ref 151),de P "_law_gathered" 378 (.ref 158),de P "_law_wish" 384 (.ref 163),de P "_law_shrunk" 397 (.ref 170),de P "_law_rounds" 408 (.ref 177),de P "_law_due" 419 (.ref 184),de P "_law_alike" 429 (.ref 191),de P "law" 435 (.ref 196)] 38) ::
 (nat_lit 20,c3 "common_divisor" "common_divisor" 189 2 2 3 15 16 (.ref 17) (.ref 18) 19 195 196) ::
 (nat_lit 21,f3 "common_divisor" "common_divisor" Vz "grooveway.solve" 187 20) ::
 (nat_lit 27,c3 "reduced" "reduced" 198 8 2 3 22 23 (.ref 24) (.ref 25) 26 204 205) ::
 (nat_lit 28,f3 "reduced" "reduced" VB "grooveway.solve" 187 27) ::
 (nat_lit 32,c3 "row_to_take" "row_to_take" 207 13 2 3 29 30 .none .none 31 210 211) ::
 (nat_lit 33,f3 "row_to_take" "row_to_take" Vh "grooveway.solve" 187 32) ::
 (nat_lit 39,c3 "exchanged" "exchanged" 213 16 3 3 34 35 (.ref 36) (.ref 37) 38 220 221) ::
 (nat_lit 40,f3 "exchanged" "exchanged" VC "grooveway.solve" 187 39) ::
 (nat_lit 44,c3 "cleared" "cleared" 223 21 3 3 41 42 .none .none 43 226 227) ::
 (nat_lit 45,f3 "cleared" "cleared" Vi "grooveway.solve" 187 44) ::
 (nat_lit 49,c3 "solved" "solved" 229 31 2 3 46 47 .none .none 48 232 233) ::
 (nat_lit 50,f3 "solved" "solved" X2 "grooveway.solve" 187 49) ::
 (nat_lit 54,c3 "press_sides" "press_sides" 237 43 2 3 51 52 .none .none 53 240 241) ::
 (nat_lit 55,f3 "press_sides" "press_sides" Vj "grooveway.weights" 235 54) ::
 (nat_lit 59,c3 "press" "press" 243 50 2 3 56 57 .none .none 58 246 247) ::
 (nat_lit 60,f3 "press" "press" X3 "grooveway.weights" 235 59) ::
 (nat_lit 64,c3 "borne" "borne" 249 58 2 3 61 62 .none .none 63 252 253) ::
 (nat_lit 65,f3 "borne" "borne" Vk "grooveway.weights" 235 64) ::
 (nat_lit 69,c3 "shrunk" "shrunk" 255 60 3 3 66 67 .none .none 68 258 259) ::
 (nat_lit 70,f3 "shrunk" "shrunk" Vl "grooveway.weights" 235 69) ::
 (nat_lit 76,c3 "rounds" "rounds" 261 62 3 3 71 72 (.ref 73) (.ref 74) 75 269 270) ::
 (nat_lit 77,f3 "rounds" "rounds" VD "grooveway.weights" 235 76) ::
 (nat_lit 83,c3 "beginnings" "beginnings" 272 69 1 3 78 79 (.ref 80) (.ref 81) 82 277 278) ::
 (nat_lit 84,f3 "beginnings" "beginnings" VH "grooveway.weights" 235 83) ::
 (nat_lit 85,⟨(.type "tuple"),none,.seq #[(.int 16 280)] 0,#[]⟩) ::
 (nat_lit 91,c3 "verdict" "verdict" 281 74 3 3 86 87 (.ref 88) (.ref 89) 90 290 291) ::
 (nat_lit 92,fO "verdict" "verdict" VL (.ref 85) .none .none (.str "grooveway.weights" 235) none (.ref 91) .none) ::
 (nat_lit 98,c3 "_law_cell_at" "_law_cell_at" 295 85 2 3 93 94 (.ref 95) (.ref 96) 97 300 301) ::
 (nat_lit 99,f3 "_law_cell_at" "_law_cell_at" VN "law_grooveway_k30_whole_verdict" 293 98) ::
 (nat_lit 105,c3 "_law_is_whole" "_law_is_whole" 303 89 1 3 100 101 (.ref 102) (.ref 103) 104 307 308) ::
 (nat_lit 106,f3 "_law_is_whole" "_law_is_whole" VP "law_grooveway_k30_whole_verdict" 293 105) ::
 (nat_lit 112,c3 "_law_row" "_law_row" 310 91 2 3 107 108 (.ref 109) (.ref 110) 111 316 317) ::
 (nat_lit 113,f3 "_law_row" "_law_row" VQ "law_grooveway_k30_whole_verdict" 293 112) ::
 (nat_lit 119,c3 "_law_signed" "_law_signed" 319 98 2 3 114 115 (.ref 116) (.ref 117) 118 328 329) ::
 (nat_lit 120,f3 "_law_signed" "_law_signed" VR "law_grooveway_k30_whole_verdict" 293 119) ::
 (nat_lit 126,c3 "_law_product" "_law_product" 331 109 1 3 121 122 (.ref 123) (.ref 124) 125 335 336) ::
 (nat_lit 127,f3 "_law_product" "_law_product" VU "law_grooveway_k30_whole_verdict" 293 126) ::
 (nat_lit 131,c3 "_law_slow" "_law_slow" 338 111 2 3 128 129 .none .none 130 341 342) ::
 (nat_lit 132,f3 "_law_slow" "_law_slow" Vm "law_grooveway_k30_whole_verdict" 293 131) ::
 (nat_lit 138,c3 "_law_alone" "_law_alone" 344 119 1 3 133 134 (.ref 135) (.ref 136) 137 351 352) ::
 (nat_lit 139,f3 "_law_alone" "_law_alone" VV "law_grooveway_k30_whole_verdict" 293 138) ::
 (nat_lit 143,c3 "_law_pressed" "_law_pressed" 354 127 3 3 140 141 .none .none 142 357 358) ::
 (nat_lit 144,f3 "_law_pressed" "_law_pressed" Vn "law_grooveway_k30_whole_verdict" 293 143) ::
 (nat_lit 150,c3 "_law_entry" "_law_entry" 360 135 1 3 145 146 (.ref 147) (.ref 148) 149 365 366) ::
 (nat_lit 151,f3 "_law_entry" "_law_entry" VY "law_grooveway_k30_whole_verdict" 293 150) ::
 (nat_lit 157,c3 "_law_gathered" "_law_gathered" 368 140 2 3 152 153 (.ref 154) (.ref 155) 156 376 377) ::
 (nat_lit 158,f3 "_law_gathered" "_law_gathered" VZ "law_grooveway_k30_whole_verdict" 293 157) ::
 (nat_lit 162,c3 "_law_wish" "_law_wish" 379 146 2 3 159 160 .none .none 161 382 383) ::
 (nat_lit 163,f3 "_law_wish" "_law_wish" Vo "law_grooveway_k30_whole_verdict" 293 162) ::
 (nat_lit 169,c3 "_law_shrunk" "_law_shrunk" 385 151 3 3 164 165 (.ref 166) (.ref 167) 168 395 396) ::
 (nat_lit 170,f3 "_law_shrunk" "_law_shrunk" V0 "law_grooveway_k30_whole_verdict" 293 169) ::
 (nat_lit 176,c3 "_law_rounds" "_law_rounds" 398 159 3 3 171 172 (.ref 173) (.ref 174) 175 406 407) ::
 (nat_lit 177,f3 "_law_rounds" "_law_rounds" V1 "law_grooveway_k30_whole_verdict" 293 176) ::
 (nat_lit 183,c3 "_law_due" "_law_due" 409 166 3 3 178 179 (.ref 180) (.ref 181) 182 417 418) ::
 (nat_lit 184,f3 "_law_due" "_law_due" V2 "law_grooveway_k30_whole_verdict" 293 183) ::
 (nat_lit 190,c3 "_law_alike" "_law_alike" 420 175 3 3 185 186 (.ref 187) (.ref 188) 189 427 428) ::
 (nat_lit 191,f3 "_law_alike" "_law_alike" V3 "law_grooveway_k30_whole_verdict" 293 190) ::
 (nat_lit 195,c3 "law" "law" 430 186 1 3 192 193 .none .none 194 433 434) ::
 (nat_lit 196,f3 "law" "law" Y8 "law_grooveway_k30_whole_verdict" 293 195)::[]
set_option maxHeartbeats 0 in
theorem Zi8:met PySem.Challenge.pw_grooveway_k30_whole_verdict=true:=by k_qdec
set_option maxHeartbeats 0 in
theorem Zi9:met kP=true:=by k_qdec
set_option maxHeartbeats 0 in
theorem left:LeftO PySem.Challenge.pw_grooveway_k30_whole_verdict (view PySem.Challenge.pw_grooveway_k30_whole_verdict [1,2,3,4,5,6,8,9,10,11,12,13,16,17,18,19,20,21,22,23,24,25,26,27,28,29,30,31]) ["verdict"] (λs=>xlAt (view PySem.Challenge.pw_grooveway_k30_whole_verdict [1,2,3,4,5,6,8,9,10,11,12,13,16,17,18,19,20,21,22,23,24,25,26,27,28,29,30,31]) [] s&&recOk PySem.Challenge.rw_grooveway_k30_whole_verdict.row.toRowW.records s) (λs=>([2,3,20,21,27,28,32,33,39,40,44,45,49,50,54,55,59,60,64,65,69,70,76,77,83,84,85,91,92,98,99,105,106,112,113,119,120,126,127,131,132,138,139,143,144,150,151,157,158,162,163,169,170,176,177,183,184,190,191,195,196]:List Addr).map s.heap.get?) (λw=>(kP w.params).map λp=>some p.2) 1900:=
 HT.left_of rfl rfl (λ_=>rfl) λw=>by
  have _:=Zi8;have _:=Zi9;rewrite [PySem.W.Fast.te2309314762431020447,PySem.W.Fast.te5586254698641615004,PySem.W.Fast.te5923862056798008813,PySem.W.Fast.te4187177175401517315,PySem.W.Fast.te6613529449190102663,PySem.W.Fast.te10156331382660048174,PySem.W.Fast.te11892475500146522536,PySem.W.Fast.te14364793385576792824]
  kernel_rfl
theorem kP_as:∀P,([2,3,20,21,27,28,32,33,39,40,44,45,49,50,54,55,59,60,64,65,69,70,76,77,83,84,85,91,92,98,99,105,106,112,113,119,120,126,127,131,132,138,139,143,144,150,151,157,158,162,163,169,170,176,177,183,184,190,191,195,196]:List Addr)=(kP P).map (·.1):=λ_=>by kernel_rfl
end K30
namespace K30
open PySem PySem.Spec PyProof.Rows L2 DL
theorem nd0:List.Nodup (["a", "b", "rest"]:List Str):=by decide +kernel
theorem nd1:List.Nodup (["a", "b", "common"]:List Str):=by decide +kernel
theorem nd2:List.Nodup (["rows", "place", "fit"]:List Str):=by decide +kernel
theorem nd3:List.Nodup (["number", "rows"]:List Str):=by decide +kernel
theorem nd4:List.Nodup (["rows", "one", "other", "told"]:List Str):=by decide +kernel
theorem nd5:List.Nodup (["rows", "place", "divided_by", "taken", "fewer", "number", "row", "pairs"]:List Str):=by decide +kernel
theorem nd6:List.Nodup (["own", "other", "taken", "row", "divided_by"]:List Str):=by decide +kernel
theorem nd7:List.Nodup (["table", "right", "rows", "last", "place", "number", "front"]:List Str):=by decide +kernel
theorem nd8:List.Nodup (["numbers", "end"]:List Str):=by decide +kernel
theorem nd9:List.Nodup (["row", "last"]:List Str):=by decide +kernel
theorem Zii:List.Nodup (["table", "n", "sides", "column", "side"]:List Str):=by decide +kernel
theorem Zku:List.Nodup (["numbers", "column"]:List Str):=by decide +kernel
theorem Zh1:List.Nodup (["table", "n", "found", "shared", "part"]:List Str):=by decide +kernel
theorem Zkv:List.Nodup (["part"]:List Str):=by decide +kernel
theorem Zkw:List.Nodup (["part", "shared"]:List Str):=by decide +kernel
theorem Zkx:List.Nodup (["numbers", "weights"]:List Str):=by decide +kernel
theorem Zke:List.Nodup (["number", "weight"]:List Str):=by decide +kernel
theorem Zkf:List.Nodup (["total", "weight", "n"]:List Str):=by decide +kernel
theorem Zij:List.Nodup (["table", "n", "weights", "told", "after"]:List Str):=by decide +kernel
theorem Zky:List.Nodup (["most", "told"]:List Str):=by decide +kernel
theorem Zh2:List.Nodup (["table", "n", "most", "pressed", "told", "weight"]:List Str):=by decide +kernel
theorem Zkz:List.Nodup (["found", "many", "number"]:List Str):=by decide +kernel
theorem Qg:List.Nodup (["table", "columns", "row", "whole", "k", "part"]:List Str):=by decide +kernel
theorem Zik:List.Nodup (["table", "n", "many", "corner", "k"]:List Str):=by decide +kernel
theorem ZkA:List.Nodup (["j", "n", "k", "table"]:List Str):=by decide +kernel
theorem Je:List.Nodup (["numbers", "by", "number", "rest"]:List Str):=by decide +kernel
theorem Zil:List.Nodup (["table", "n", "found", "many", "left", "j"]:List Str):=by decide +kernel
theorem ZkB:List.Nodup (["k", "found", "table", "j"]:List Str):=by decide +kernel
theorem ZkC:List.Nodup (["number", "way"]:List Str):=by decide +kernel
theorem Zim:List.Nodup (["script", "many", "numbers", "k", "at"]:List Str):=by decide +kernel
theorem ZkD:List.Nodup (["cell", "table", "most"]:List Str):=by decide +kernel
theorem Zkg:List.Nodup (["row"]:List Str):=by decide +kernel
theorem Jf:List.Nodup (["table", "n", "weights", "due", "k", "whole", "j"]:List Str):=by decide +kernel
theorem Zin:List.Nodup (["table", "n", "m", "due", "later"]:List Str):=by decide +kernel
theorem Zh3:List.Nodup (["table", "n", "most", "m", "due"]:List Str):=by decide +kernel
theorem ZkE:List.Nodup (["found", "due", "many", "k"]:List Str):=by decide +kernel
theorem X4:List.Nodup (["script", "many", "numbers", "table", "k", "n", "most", "handed", "found", "due"]:List Str):=by decide +kernel
theorem ZkF:List.Nodup (["j", "numbers", "k", "many"]:List Str):=by decide +kernel
section
variable{P:Program}{w:World}{K:PySem.W.Frag}{mg:Str->Option Value}{base:Heap}{t:Adr}
theorem ZgW(T:Txt K mg t):FnOk P w K mg base CX0 1 t.a_QA t.d_QA ["a", "b"] (spD ⟨t.c,K⟩ 2 UG):=by
 refine Yg (φ:=f_QA) T.f_QA ZiF (by conv=>lhs;whnf) (by conv=>lhs;whnf) (λcdv A outer s H E hr => ?_) rfl rfl;refine⟨_,(Zp ((UP PassesOwn.never (Z1 (Xc (cA:=⟨t.c,K⟩) (hr.units)) (pv 1) Zn (ZT _)) (Zp (ZB (i:=2) nd0 (by rfl) (by first|exact Or.inl rfl|exact Or.inr rfl) (Zv Y9 (pv 0) (pv 1)))
 (Zp (ZB (i:=0) nd0 (by rfl) (by first|exact Or.inl rfl|exact Or.inr rfl) (pv 1))
 (Zt (ZB (i:=1) nd0 (by rfl) (by first|exact Or.inl rfl|exact Or.inr rfl) (pv 2)))))))
 (Zt (ZF (ZK Zd5 (by rfl) T.n_abs boot_abs (Zd (pv 0) Zk))))),[],?_⟩
 unfold f_QA;exact(Zu (QL (ow:=[]) (ZX (Zf YQ (Zc 1 (by rfl)) (Zl (d:=(.int 0)) (by rfl) (by rfl)))) (Zu (show VS _ _ [] _ _ _ _ from(ZG 2 (Zf Xe (Zc 0 (by rfl)) (Zc 1 (by rfl))) (by rfl) (by rfl) (by rfl) (by rfl)))
 (Zu (show VS _ _ [] _ _ _ _ from(ZG 0 (Zc 1 (by rfl)) (by rfl) (by rfl) (by rfl) (by rfl)))
 (show VS _ _ [] _ _ _ _ from(ZG 1 (Zc 2 (by rfl)) (by rfl) (by rfl) (by rfl) (by rfl))))))
 (ZM (ZS Zhq (Ze (Zc 0 (by rfl)) Zm))))
theorem Zja(T:Txt K mg t):FnOk P w K mg base CX0 2 t.a_QU t.d_QU ["a", "b"] (spD ⟨t.c,K⟩ 2 Q6):=by
 have G_QA:=(ZgW (P:=P) (w:=w) (base:=base) T).mono (k:=1) (by decide);refine Yg (φ:=f_QU) T.f_QU ZiG (by conv=>lhs;whnf) (by conv=>lhs;whnf) (λcdv A outer s H E hr => ?_) rfl rfl;refine⟨_,(Zp (ZB (i:=2) nd1 (by rfl) (by first|exact Or.inl rfl|exact Or.inr rfl) (ZJ (G_QA) hr (by rfl) T.g_QA T.k_QA T.b_QA .nil ZL (Zd (pv 0) (Zd (pv 1) Zk))))
 (Zp (Yb (Z1 ZgN (pv 1) Zn (ZT _)) (Zt (ZB (i:=2) nd1 (by rfl) (by first|exact Or.inl rfl|exact Or.inr rfl) (XE XF (pv 2)))) Yo)
 (Zt (ZF (US (Zd (Zv XU (pv 0) (pv 2)) (Zd (Zv XU (pv 1) (pv 2)) Zk))))))),[],?_⟩
 unfold f_QU;exact(Zu (show VS _ _ [] _ _ _ _ from(ZG 2 (ZP [] (by rfl) (Ze (Zc 0 (by rfl)) (Ze (Zc 1 (by rfl)) Zm))) (by rfl) (by rfl) (by rfl) (by rfl)))
 (Zu (Yy (ZX (Zf Va (Zc 1 (by rfl)) (Zl (d:=(.int 0)) (by rfl) (by rfl)))) (show VS _ _ [] _ _ _ _ from(ZG 2 (XS (Zc 2 (by rfl))) (by rfl) (by rfl) (by rfl) (by rfl))) YD)
 (ZM (ZcZ (Ze (Zf XV (Zc 0 (by rfl)) (Zc 2 (by rfl))) (Ze (Zf XV (Zc 1 (by rfl)) (Zc 2 (by rfl))) Zm))))))
theorem Zjb(T:Txt K mg t):FnOk P w K mg base CX0 1 t.a_QK t.d_QK ["rows", "place"] (spD ⟨t.c,K⟩ 2 Q7):=by
 refine Yg (φ:=f_QK) T.f_QK ZiH (by conv=>lhs;whnf) (by conv=>lhs;whnf) (λcdv A outer s H E hr => ?_) rfl rfl;refine⟨_,(Zp (JM (i:=2) nd2 (by rfl) (by rfl) (by rfl) (CompSc.mk' (tn:=["number"]) (cn:=["rows"]) (js:=[0]) (osc:=defScope Vh) (oN:=["rows", "place", "fit"]) (by rfl) (by rfl) (by rfl) (by decide +kernel)) (Zas (by rfl) T.n_range (Zd (pv 1) (Zd (ZK (Yk (K:=K)) (by rfl) T.n_len boot_len (Zd (pv 0) Zk)) Zk))) (λC s₂ H₂ fp=>ZR (i:=0) nd3) (λC s₂ H₂ fp=>(ZfZ (Z1 (Xc (cA:=⟨t.c,K⟩) (hr.units)) (Zw (Zx (K:=K)) (Zw (Zx (K:=K)) (pv 1) (pv 0) (λ_ _=>rfl)) Zn (λ_ _=>rfl)) Zn (ZT _)))) (λC s₂ H₂ fp=>(pv 0)))
 (Zt (ZF (Zeq (Z1 ZfC (ZK (Yk (K:=K)) (by rfl) T.n_len boot_len (Zd (pv 2) Zk)) Zn (ZT _)) (Zw (Zx (K:=K)) (pv 2) Zn (λ_ _=>rfl)) ZcV)))),[],?_⟩
 unfold f_QK;exact(Zu (show VS _ _ [] _ _ _ _ from(ZG 2 (VF.cl (YT (by rfl) (Zbz (Ze (Zc 1 (by rfl)) (Ze (ZS Yd (Ze (Zc 0 (by rfl)) Zm)) Zm)) Zif) (Ye 0 (by rfl) (by rfl)) (ZX (Zf YQ (Zf Zy (Zf Zy (Zc 1 (by rfl)) (Zc 0 (by rfl))) (Zl (d:=(.int 0)) (by rfl) (by rfl))) (Zl (d:=(.int 0)) (by rfl) (by rfl)))) (Zc 0 (by rfl)))) (by rfl) (by rfl) (by rfl) (by rfl)))
 (ZM (Zix (ZX (Zf Va (ZS Yd (Ze (Zc 2 (by rfl)) Zm)) (Zl (d:=(.int 0)) (by rfl) (by rfl)))) (Zf Zy (Zc 2 (by rfl)) (Zl (d:=(.int 0)) (by rfl) (by rfl))) (Zl (d:=.non) (by rfl) (by rfl)))))
theorem Zjc(T:Txt K mg t):FnOk P w K mg base CX0 1 t.a_QR t.d_QR ["rows", "one", "other"] (spD ⟨t.c,K⟩ 3 Q8):=by
 refine Yg (φ:=f_QR) T.f_QR ZiI (by conv=>lhs;whnf) (by conv=>lhs;whnf) (λcdv A outer s H E hr => ?_) rfl rfl;refine⟨_,(Zp (ZB (i:=3) nd4 (by rfl) (by first|exact Or.inl rfl|exact Or.inr rfl) (Qu (JQ (K:=K)) (by rfl) T.n_list boot_list (Zd (pv 0) Zk)))
 (Zp (Qr (Zw (Zx (K:=K)) (pv 0) (pv 2) (λ_ _=>rfl)) (Qq (pv 3) (pv 1) Qv))
 (Zp (Qr (Zw (Zx (K:=K)) (pv 0) (pv 1) (λ_ _=>rfl)) (Qq (pv 3) (pv 2) Qv))
 (Zt (ZF (pv 3)))))),[],?_⟩
 unfold f_QR;exact(Zu (show VS _ _ [3] _ _ _ _ from(Xr 3 (JR (Or.inl rfl) (Ze (Zc 0 (by rfl)) Zm)) (by rfl) (by rfl) (by rfl) (by rfl)))
 (Zu (JP 3 (by rfl) (Zf Zy (Zc 0 (by rfl)) (Zc 2 (by rfl))) (Zc 1 (by rfl)))
 (Zu (JP 3 (by rfl) (Zf Zy (Zc 0 (by rfl)) (Zc 1 (by rfl))) (Zc 2 (by rfl)))
 (VS.frz (ow1:=[]) 3 (ZM (Zc 3 (by rfl))) (by rfl) (by rfl) (by rfl) (by rfl)))))
theorem Zjd(T:Txt K mg t):FnOk P w K mg base CX0 1 t.a_QW t.d_QW ["rows", "place", "divided_by"] (spD ⟨t.c,K⟩ 3 ZhR):=by
 refine Yg (φ:=f_QW) T.f_QW ZiJ (by conv=>lhs;whnf) (by conv=>lhs;whnf) (λcdv A outer s H E hr => ?_) rfl rfl;refine⟨_,(Zp (ZB (i:=3) nd5 (by rfl) (by first|exact Or.inl rfl|exact Or.inr rfl) (Zw (Zx (K:=K)) (pv 0) (pv 1) (λ_ _=>rfl)))
 (Zp (ZB (i:=4) nd5 (by rfl) (by first|exact Or.inl rfl|exact Or.inr rfl) (Ys Zk))
 (Zp ((YH PassesOwn.never (by rfl) (ZeF (K:=K) (by rfl) T.n_enumerate (pv 0)) (Qx (K:=K) (n:=2) (X6 (ZR (i:=5) nd5) (X6 (ZR (i:=6) nd5) Qp))) (Zt (Yb (Z1 (Xp (cA:=⟨t.c,K⟩) (hr.units)) (pv 5) (pv 1) (ZT _)) (Zt (XD (XM (K:=K) PySem.F.plainAttrs_list PySem.F.slot_list_append PySem.F.type_list_append XG (pv 4) (Zd (Jv (JA (K:=K)) (pv 6) (Ju Zn) Jt) Zk)))) (Zp (ZB (i:=7) nd5 (by rfl) (by first|exact Or.inl rfl|exact Or.inr rfl) (ZcL (K:=K) (by rfl) (by rfl) T.n_list (by rfl) T.n_zip (pv 6) (pv 3)))
 (Zt (XD (XM (K:=K) PySem.F.plainAttrs_list PySem.F.slot_list_append PySem.F.type_list_append XG (pv 4) (Zd (XJ (by rfl) (CompSc.mk' (tn:=["own", "other"]) (cn:=["taken", "row", "divided_by"]) (js:=[3,6,2]) (osc:=defScope Vi) (oN:=["rows", "place", "divided_by", "taken", "fewer", "number", "row", "pairs"]) (by rfl) (by rfl) (by rfl) (by decide +kernel)) (Xo (K:=K) (Jv (JA (K:=K)) (pv 7) (Ju Zn) Jt)) (λC s₂ H₂ fp=>Qx (K:=K) (n:=2) (X6 (ZR (i:=0) nd6) (X6 (ZR (i:=1) nd6) Qp))) (λC s₂ H₂ fp=>Y1) (λC s₂ H₂ fp=>(Zv XU (Zv Uv (Zv (Yh (K:=K)) (Zw (Zx (K:=K)) (pv 2) Zn (λ_ _=>rfl)) (pv 0)) (Zv (Yh (K:=K)) (Zw (Zx (K:=K)) (pv 3) Zn (λ_ _=>rfl)) (pv 1))) (pv 4)))) Zk)))))))))
 (Zt (ZF (pv 4)))))),[],?_⟩
 unfold f_QW;exact(Zu (show VS _ _ [] _ _ _ _ from(ZG 3 (Zf Zy (Zc 0 (by rfl)) (Zc 1 (by rfl))) (by rfl) (by rfl) (by rfl) (by rfl)))
 (Zu (show VS _ _ [4] _ _ _ _ from(Xr 4 (Yx Zm) (by rfl) (by rfl) (by rfl) (by rfl)))
 (Zu (YS (ZeG (Zc 0 (by rfl))) (QK (Vc 5 (by rfl) (by rfl) (Vc 6 (by rfl) (by rfl) QJ))) (Yy (ZX (Zf Y2 (Zc 5 (by rfl)) (Zc 1 (by rfl)))) (Vv 4 (by rfl) (JJ (Or.inl rfl) (Zc 6 (by rfl)) (JI (Zl (d:=(.int 1)) (by rfl) (by rfl))) JH)) (Zu (show VS _ _ [4] _ _ _ _ from(ZG 7 (VF.cl (ZcM (Zc 6 (by rfl)) (Zc 3 (by rfl)))) (by rfl) (by rfl) (by rfl) (by rfl)))
 (Vv 4 (by rfl) (VF.cl (YT (by rfl) (Xs (JJ (Or.inl rfl) (Zc 7 (by rfl)) (JI (Zl (d:=(.int 1)) (by rfl) (by rfl))) JH)) (QK (Vc 0 (by rfl) (by rfl) (Vc 1 (by rfl) (by rfl) QJ))) Y3 (Zf XV (Zf Uy (Zf YA (Zf Zy (Zc 2 (by rfl)) (Zl (d:=(.int 0)) (by rfl) (by rfl))) (Zc 0 (by rfl))) (Zf YA (Zf Zy (Zc 3 (by rfl)) (Zl (d:=(.int 0)) (by rfl) (by rfl))) (Zc 1 (by rfl)))) (Zc 4 (by rfl)))))))))
 (VS.frz (ow1:=[]) 4 (ZM (Zc 4 (by rfl))) (by rfl) (by rfl) (by rfl) (by rfl)))))
theorem Zje(T:Txt K mg t):FnOk P w K mg base CX0 3 t.a_QX t.d_QX ["table", "right"] (spD ⟨t.c,K⟩ 2 Q9):=by
 have G_QW:=(Zjd (P:=P) (w:=w) (base:=base) T).mono (k:=2) (by decide);have G_QR:=(Zjc (P:=P) (w:=w) (base:=base) T).mono (k:=2) (by decide);have G_QU:=(Zja (P:=P) (w:=w) (base:=base) T).mono (k:=2) (by decide);have G_QK:=(Zjb (P:=P) (w:=w) (base:=base) T).mono (k:=2) (by decide);refine Yg (φ:=f_QX) T.f_QX ZiK (by conv=>lhs;whnf) (by conv=>lhs;whnf) (λcdv A outer s H E hr => ?_) rfl rfl
 refine⟨_,(Zp (JM (i:=2) nd7 (by rfl) (by rfl) (by rfl) (CompSc.mk' (tn:=["numbers", "end"]) (cn:=[]) (js:=[]) (osc:=defScope X2) (oN:=["table", "right", "rows", "last", "place", "number", "front"]) (by rfl) (by rfl) (by rfl) (by decide +kernel)) (ZbC (K:=K) (by rfl) T.n_zip (pv 0) (pv 1)) (λC s₂ H₂ fp=>Qx (K:=K) (n:=2) (X6 (ZR (i:=0) nd8) (X6 (ZR (i:=1) nd8) Qp))) (λC s₂ H₂ fp=>Y1) (λC s₂ H₂ fp=>(Zv (YK (K:=K)) (Qu (JQ (K:=K)) (by rfl) T.n_list boot_list (Zd (pv 0) Zk)) (Ys (Zd (pv 1) Zk)))))
 (Zp (ZB (i:=3) nd7 (by rfl) (by first|exact Or.inl rfl|exact Or.inr rfl) Zn)
 (Zp ((YH PassesOwn.never (by rfl) (Xk (by rfl) T.n_range (Zd (ZK (Yk (K:=K)) (by rfl) T.n_len boot_len (Zd (pv 0) Zk)) Zk)) (ZR (i:=4) nd7) (Zp (ZB (i:=5) nd7 (by rfl) (by first|exact Or.inl rfl|exact Or.inr rfl) (ZJ (G_QK) hr (by rfl) T.g_QK T.k_QK T.b_QK .nil ZL (Zd (pv 2) (Zd (pv 4) Zk))))
 (Zp (Yb (ZcW (Ze7 (pv 5))) (Zt (ZF ZcV)) Yo)
 (Zp (ZB (i:=6) nd7 (by rfl) (by first|exact Or.inl rfl|exact Or.inr rfl) (Zw (Zx (K:=K)) (Zw (Zx (K:=K)) (pv 2) (pv 5) (λ_ _=>rfl)) Zn (λ_ _=>rfl)))
 (Zp (ZB (i:=2) nd7 (by rfl) (by first|exact Or.inl rfl|exact Or.inr rfl) (ZJ (G_QW) hr (by rfl) T.g_QW T.k_QW T.b_QW .nil ZL (Zd (ZJ (G_QR) hr (by rfl) T.g_QR T.k_QR T.b_QR .nil ZL (Zd (pv 2) (Zd (pv 5) (Zd (pv 4) Zk)))) (Zd (pv 4) (Zd (pv 3) Zk)))))
 (Zt (ZB (i:=3) nd7 (by rfl) (by first|exact Or.inl rfl|exact Or.inr rfl) (pv 6)))))))))
 (Zt (ZF (XJ (by rfl) (CompSc.mk' (tn:=["row"]) (cn:=["last"]) (js:=[3]) (osc:=defScope X2) (oN:=["table", "right", "rows", "last", "place", "number", "front"]) (by rfl) (by rfl) (by rfl) (by decide +kernel)) (Xo (K:=K) (pv 2)) (λC s₂ H₂ fp=>ZR (i:=0) nd9) (λC s₂ H₂ fp=>Y1) (λC s₂ H₂ fp=>(ZJ (G_QU) hr (by rfl) T.g_QU T.k_QU T.b_QU .nil ZL (Zd (Zw (Zx (K:=K)) (pv 0) Zn (λ_ _=>rfl)) (Zd (pv 1) Zk)))))))))),[],?_⟩
 unfold f_QX;exact(Zu (show VS _ _ [] _ _ _ _ from(ZG 2 (VF.cl (YT (by rfl) (ZbD (Zc 0 (by rfl)) (Zc 1 (by rfl))) (QK (Vc 0 (by rfl) (by rfl) (Vc 1 (by rfl) (by rfl) QJ))) Y3 (Zf YU (VF.cl (JR (Or.inl rfl) (Ze (Zc 0 (by rfl)) Zm))) (VF.cl (Yx (Ze (Zc 1 (by rfl)) Zm)))))) (by rfl) (by rfl) (by rfl) (by rfl)))
 (Zu (show VS _ _ [] _ _ _ _ from(ZG 3 (Zl (d:=(.int 1)) (by rfl) (by rfl)) (by rfl) (by rfl) (by rfl) (by rfl)))
 (Zu (YS (Xu (Ze (ZS Yd (Ze (Zc 0 (by rfl)) Zm)) Zm) Xd) (Ye 4 (by rfl) (by rfl)) (Zu (show VS _ _ [] _ _ _ _ from(ZG 5 (ZP [] (by rfl) (Ze (Zc 2 (by rfl)) (Ze (Zc 4 (by rfl)) Zm))) (by rfl) (by rfl) (by rfl) (by rfl)))
 (Zu (Yy (YJ (Zfc (Zc 5 (by rfl)))) (ZM (Zl (d:=.non) (by rfl) (by rfl))) YD)
 (Zu (show VS _ _ [] _ _ _ _ from(ZG 6 (Zf Zy (Zf Zy (Zc 2 (by rfl)) (Zc 5 (by rfl))) (Zl (d:=(.int 0)) (by rfl) (by rfl))) (by rfl) (by rfl) (by rfl) (by rfl)))
 (Zu (show VS _ _ [] _ _ _ _ from(ZG 2 (ZP [] (by rfl) (Ze (ZP [] (by rfl) (Ze (Zc 2 (by rfl)) (Ze (Zc 5 (by rfl)) (Ze (Zc 4 (by rfl)) Zm)))) (Ze (Zc 4 (by rfl)) (Ze (Zc 3 (by rfl)) Zm)))) (by rfl) (by rfl) (by rfl) (by rfl)))
 (show VS _ _ [] _ _ _ _ from(ZG 3 (Zc 6 (by rfl)) (by rfl) (by rfl) (by rfl) (by rfl))))))))
 (ZM (VF.cl (YT (by rfl) (Xs (Zc 2 (by rfl))) (Ye 0 (by rfl) (by rfl)) Y3 (ZP [] (by rfl) (Ze (Zf Zy (Zc 0 (by rfl)) (Zl (d:=(.int 0)) (by rfl) (by rfl))) (Ze (Zc 1 (by rfl)) Zm)))))))))
theorem Zjf(T:Txt K mg t):FnOk P w K mg base CX0 1 t.a_QH t.d_QH ["table", "n"] (spD ⟨t.c,K⟩ 2 Qd):=by
 refine Yg (φ:=f_QH) T.f_QH ZiL (by conv=>lhs;whnf) (by conv=>lhs;whnf) (λcdv A outer s H E hr => ?_) rfl rfl;refine⟨_,(Zp (ZB (i:=2) Zii (by rfl) (by first|exact Or.inl rfl|exact Or.inr rfl) (Ys Zk))
 (Zp ((YH PassesOwn.never (by rfl) (Xk (by rfl) T.n_range (Zd (ZK (Yk (K:=K)) (by rfl) T.n_len boot_len (Zd (pv 0) Zk)) Zk)) (ZR (i:=3) Zii) (Zp (JM (i:=4) Zii (by rfl) (by rfl) (by rfl) (CompSc.mk' (tn:=["numbers"]) (cn:=["column"]) (js:=[3]) (osc:=defScope Vj) (oN:=["table", "n", "sides", "column", "side"]) (by rfl) (by rfl) (by rfl) (by decide +kernel)) (Xo (K:=K) (pv 0)) (λC s₂ H₂ fp=>ZR (i:=0) Zku) (λC s₂ H₂ fp=>Y1) (λC s₂ H₂ fp=>(XE XF (Zw (Zx (K:=K)) (pv 0) (pv 1) (λ_ _=>rfl)))))
 (Zp (Qr (Zv (YK (K:=K)) (Zw (Zx (K:=K)) (pv 4) (pv 3) (λ_ _=>rfl)) (pv 1)) (Qq (pv 4) (pv 3) Qv))
 (Zt (XD (XM (K:=K) PySem.F.plainAttrs_list PySem.F.slot_list_append PySem.F.type_list_append XG (pv 2) (Zd (pv 4) Zk))))))))
 (Zt (ZF (pv 2))))),[],?_⟩
 unfold f_QH;exact(Zu (show VS _ _ [2] _ _ _ _ from(Xr 2 (Yx Zm) (by rfl) (by rfl) (by rfl) (by rfl)))
 (Zu (YS (Xu (Ze (ZS Yd (Ze (Zc 0 (by rfl)) Zm)) Zm) Xd) (Ye 3 (by rfl) (by rfl)) (Zu (show VS _ _ [2,4] _ _ _ _ from(Xr 4 (YT (by rfl) (Xs (Zc 0 (by rfl))) (Ye 0 (by rfl) (by rfl)) Y3 (XS (Zf Zy (Zc 0 (by rfl)) (Zc 1 (by rfl))))) (by rfl) (by rfl) (by rfl) (by rfl)))
 (Zu (JP 4 (by rfl) (Zf YU (Zf Zy (Ux 4 (by rfl)) (Zc 3 (by rfl))) (Zc 1 (by rfl))) (Zc 3 (by rfl)))
 (VS.frz (ow1:=[2]) 4 (Vv 2 (by rfl) (Zc 4 (by rfl))) (by rfl) (by rfl) (by rfl) (by rfl)))))
 (VS.frz (ow1:=[]) 2 (ZM (Zc 2 (by rfl))) (by rfl) (by rfl) (by rfl) (by rfl))))
theorem Zjg(T:Txt K mg t):FnOk P w K mg base CX0 4 t.a_Q0 t.d_Q0 ["table", "n"] (JZ ⟨t.c,K⟩ 2 UH):=by
 have G_QA:=(ZgW (P:=P) (w:=w) (base:=base) T).mono (k:=3) (by decide);have G_QH:=(Zjf (P:=P) (w:=w) (base:=base) T).mono (k:=3) (by decide);have G_QX:=(Zje (P:=P) (w:=w) (base:=base) T).mono (k:=3) (by decide);refine ZiD (φ:=f_Q0) T.f_Q0 ZiM (by conv=>lhs;whnf) (by conv=>lhs;whnf) (λcdv A outer s H E hr => ?_) rfl rfl;refine⟨_,(Zp (ZB (i:=2) Zh1 (by rfl) (by first|exact Or.inl rfl|exact Or.inr rfl) (ZJ (G_QX) hr (by rfl) T.g_QX T.k_QX T.b_QX .nil ZL (Zd (ZJ (G_QH) hr (by rfl) T.g_QH T.k_QH T.b_QH .nil ZL (Zd (pv 0) (Zd (pv 1) Zk))) (Zd (Zv (Yh (K:=K)) (Ys (Zd Zn Zk)) (ZK (Yk (K:=K)) (by rfl) T.n_len boot_len (Zd (pv 0) Zk))) Zk))))
 (Zp (Yb (PW.pt (V4 (ZcW (Ze7 (pv 2))) (UO (Z1 Qs (ZK (Zc1 (K:=K)) (by rfl) T.n_min boot_min (Zd (XJ (by rfl) (CompSc.mk' (tn:=["part"]) (cn:=[]) (js:=[]) (osc:=defScope X3) (oN:=["table", "n", "found", "shared", "part"]) (by rfl) (by rfl) (by rfl) (by decide +kernel)) (Xo (K:=K) (pv 2)) (λC s₂ H₂ fp=>ZR (i:=0) Zkv) (λC s₂ H₂ fp=>Y1) (λC s₂ H₂ fp=>(Zw (Zx (K:=K)) (pv 0) Zn (λ_ _=>rfl)))) Zk)) Zn (ZT _))))) (Zt (ZF ZcV)) Yo)
 (Zp (ZB (i:=3) Zh1 (by rfl) (by first|exact Or.inl rfl|exact Or.inr rfl) Zn)
 (Zp ((YH PassesOwn.never (by rfl) (Xo (K:=K) (pv 2)) (ZR (i:=4) Zh1) (Zt (ZB (i:=3) Zh1 (by rfl) (by first|exact Or.inl rfl|exact Or.inr rfl) (Zv XU (Zv (Yh (K:=K)) (pv 3) (Zw (Zx (K:=K)) (pv 4) Zn (λ_ _=>rfl))) (ZJ (G_QA) hr (by rfl) T.g_QA T.k_QA T.b_QA .nil ZL (Zd (pv 3) (Zd (Zw (Zx (K:=K)) (pv 4) Zn (λ_ _=>rfl)) Zk))))))))
 (Zt (ZF (XJ (by rfl) (CompSc.mk' (tn:=["part"]) (cn:=["shared"]) (js:=[3]) (osc:=defScope X3) (oN:=["table", "n", "found", "shared", "part"]) (by rfl) (by rfl) (by rfl) (by decide +kernel)) (Xo (K:=K) (pv 2)) (λC s₂ H₂ fp=>ZR (i:=0) Zkw) (λC s₂ H₂ fp=>Y1) (λC s₂ H₂ fp=>(Zv (Yh (K:=K)) (Zw (Zx (K:=K)) (pv 0) Zn (λ_ _=>rfl)) (Zv XU (pv 1) (Zw (Zx (K:=K)) (pv 0) Zn (λ_ _=>rfl)))))))))))),?_⟩
 unfold f_Q0;exact(JY (show VS _ _ [] _ _ _ _ from(ZG 2 (ZP [] (by rfl) (Ze (ZP [] (by rfl) (Ze (Zc 0 (by rfl)) (Ze (Zc 1 (by rfl)) Zm))) (Ze (VF.cl (U0 (VF.cl (Yx (Ze (Zl (d:=(.int 1)) (by rfl) (by rfl)) Zm))) (ZS Yd (Ze (Zc 0 (by rfl)) Zm)))) Zm))) (by rfl) (by rfl) (by rfl) (by rfl)))
 (JY (Yy (XR (YJ (Zfc (Zc 2 (by rfl)))) (ZX (Zf Va (ZS ZbE (Ze (VF.cl (YT (by rfl) (Xs (Zc 2 (by rfl))) (Ye 0 (by rfl) (by rfl)) Y3 (Zf Zy (Zc 0 (by rfl)) (Zl (d:=(.int 0)) (by rfl) (by rfl))))) Zm)) (Zl (d:=(.int 0)) (by rfl) (by rfl))))) (ZM (Zl (d:=.non) (by rfl) (by rfl))) YD)
 (JY (show VS _ _ [] _ _ _ _ from(ZG 3 (Zl (d:=(.int 1)) (by rfl) (by rfl)) (by rfl) (by rfl) (by rfl) (by rfl)))
 (JY (YS (Xs (Zc 2 (by rfl))) (Ye 4 (by rfl) (by rfl)) (show VS _ _ [] _ _ _ _ from(ZG 3 (Zf XV (Zf YA (Zc 3 (by rfl)) (Zf Zy (Zc 4 (by rfl)) (Zl (d:=(.int 1)) (by rfl) (by rfl)))) (ZP [] (by rfl) (Ze (Zc 3 (by rfl)) (Ze (Zf Zy (Zc 4 (by rfl)) (Zl (d:=(.int 1)) (by rfl) (by rfl))) Zm)))) (by rfl) (by rfl) (by rfl) (by rfl))))
 (Zgc (Zcf (YT (by rfl) (Xs (Zc 2 (by rfl))) (Ye 0 (by rfl) (by rfl)) Y3 (Zf YA (Zf Zy (Zc 0 (by rfl)) (Zl (d:=(.int 0)) (by rfl) (by rfl))) (Zf XV (Zc 1 (by rfl)) (Zf Zy (Zc 0 (by rfl)) (Zl (d:=(.int 1)) (by rfl) (by rfl))))))))))))
theorem Zjh(T:Txt K mg t):FnOk P w K mg base CX0 1 t.a_Q1 t.d_Q1 ["table", "weights"] (spD ⟨t.c,K⟩ 2 ZhS):=by
 refine Yg (φ:=f_Q1) T.f_Q1 ZiN (by conv=>lhs;whnf) (by conv=>lhs;whnf) (λcdv A outer s H E hr => ?_) rfl rfl;refine⟨_,(Zt (ZF (XJ (by rfl) (CompSc.mk' (tn:=["numbers"]) (cn:=["weights"]) (js:=[1]) (osc:=defScope Vk) (oN:=["table", "weights"]) (by rfl) (by rfl) (by rfl) (by decide +kernel)) (Xo (K:=K) (pv 0)) (λC s₂ H₂ fp=>ZR (i:=0) Zkx) (λC s₂ H₂ fp=>Y1) (λC s₂ H₂ fp=>(ZK (Zc0 (K:=K)) (by rfl) T.n_sum boot_sum (Zd (XJ (by rfl) (CompSc.mk3 (tn:=["number", "weight"]) (by rfl) (by decide +kernel)) (ZbC (K:=K) (by rfl) T.n_zip (pv 0) (pv 1)) (λC s₂ H₂ fp=>Qx (K:=K) (n:=2) (X6 (ZR (i:=0) Zke) (X6 (ZR (i:=1) Zke) Qp))) (λC s₂ H₂ fp=>Y1) (λC s₂ H₂ fp=>(Zv (Yh (K:=K)) (pv 0) (pv 1)))) Zk)))))),[],?_⟩
 unfold f_Q1;exact(ZM (VF.cl (YT (by rfl) (Xs (Zc 0 (by rfl))) (Ye 0 (by rfl) (by rfl)) Y3 (ZS ZbA (Ze (VF.cl (YT (by rfl) (ZbD (Zc 0 (by rfl)) (Zc 1 (by rfl))) (QK (Vc 0 (by rfl) (by rfl) (Vc 1 (by rfl) (by rfl) QJ))) Y3 (Zf YA (Zc 0 (by rfl)) (Zc 1 (by rfl))))) Zm)))))
theorem Zji(T:Txt K mg t):FnOk P w K mg base CX0 2 t.a_QZ t.d_QZ ["table", "n", "weights"] (spL ⟨t.c,K⟩ 3 UI):=by
 have G_Q1:=(Zjh (P:=P) (w:=w) (base:=base) T).mono (k:=1) (by decide);refine ZiC (φ:=f_QZ) T.f_QZ ZiO (by conv=>lhs;whnf) (by conv=>lhs;whnf) (λcdv A outer s H E hr => ?_) rfl rfl;refine⟨_,(Zt (ZF (XJ (by rfl) (CompSc.mk' (tn:=["total", "weight"]) (cn:=["n"]) (js:=[1]) (osc:=defScope Vl) (oN:=["table", "n", "weights"]) (by rfl) (by rfl) (by rfl) (by decide +kernel)) (ZbC (K:=K) (by rfl) T.n_zip (ZJ (G_Q1) hr (by rfl) T.g_Q1 T.k_Q1 T.b_Q1 .nil ZL (Zd (pv 0) (Zd (pv 2) Zk))) (pv 2)) (λC s₂ H₂ fp=>Qx (K:=K) (n:=2) (X6 (ZR (i:=0) Zkf) (X6 (ZR (i:=1) Zkf) Qp))) (λC s₂ H₂ fp=>Y1) (λC s₂ H₂ fp=>(ZK (ZdO (by rfl)) (by rfl) T.n_min boot_min (Zd (pv 1) (Zd (Zv XU (pv 0) (pv 2)) Zk))))))),?_⟩
 unfold f_QZ;exact(Zcf (YT (by rfl) (ZbD (ZP [] (by rfl) (Ze (Zc 0 (by rfl)) (Ze (Zc 2 (by rfl)) Zm))) (Zc 2 (by rfl))) (QK (Vc 0 (by rfl) (by rfl) (Vc 1 (by rfl) (by rfl) QJ))) Y3 (ZS Zho (Ze (Zc 1 (by rfl)) (Ze (Zf XV (Zc 0 (by rfl)) (Zc 2 (by rfl))) Zm)))))
theorem Zjj(T:Txt K mg t):FnOk P w K mg base CX0 3 t.a_QY t.d_QY ["table", "n", "weights"] (spM ⟨t.c,K⟩ 3 Qe):=by
 have G_QZ:=(Zji (P:=P) (w:=w) (base:=base) T).mono (k:=2) (by decide);refine ZiB (φ:=f_QY) T.f_QY ZiP (by conv=>lhs;whnf) (by conv=>lhs;whnf) (λcdv A outer s H E hr => ?_) rfl rfl;refine⟨_,(Zp (ZB (i:=3) Zij (by rfl) (by first|exact Or.inl rfl|exact Or.inr rfl) (Ys (Zd (Qu (JQ (K:=K)) (by rfl) T.n_list boot_list (Zd (pv 2) Zk)) Zk)))
 (Zp (ZB (i:=4) Zij (by rfl) (by first|exact Or.inl rfl|exact Or.inr rfl) (ZJ (G_QZ) hr (by rfl) T.g_QZ T.k_QZ T.b_QZ .nil ZL (Zd (pv 0) (Zd (pv 1) (Zd (pv 2) Zk)))))
 (Zp (UP PassesOwn.never (Z1 (Xc (cA:=⟨t.c,K⟩) (hr.units)) (pv 4) (Zw (Zx (K:=K)) (pv 3) (XE XF Zn) (λ_ _=>rfl)) (ZT _)) (Zp (XD (XM (K:=K) PySem.F.plainAttrs_list PySem.F.slot_list_append PySem.F.type_list_append XG (pv 3) (Zd (pv 4) Zk))) (Zt (ZB (i:=4) Zij (by rfl) (by first|exact Or.inl rfl|exact Or.inr rfl) (ZJ (G_QZ) hr (by rfl) T.g_QZ T.k_QZ T.b_QZ .nil ZL (Zd (pv 0) (Zd (pv 1) (Zd (pv 4) Zk))))))))
 (Zt (ZF (pv 3)))))),?_⟩
 unfold f_QY;exact(Zf9 3 (by rfl) (by rfl) (Zgb (JR (Or.inl rfl) (Ze (Zc 2 (by rfl)) Zm)))
 (Zdq (show VM _ _ [4] _ _ _ _ _ from Zf7 (λ_=>(show VS _ _ [4] _ _ _ _ from(Xr 4 (Zcg [] (by rfl) (Ze (Zc 0 (by rfl)) (Ze (Zc 1 (by rfl)) (Ze (Zc 2 (by rfl)) Zm)))) (by rfl) (by rfl) (by rfl) (by rfl)))) (by rfl))
 (Zdq (ZeA (ZX (Zf YQ (Ux 4 (by rfl)) (Zf Zy (Zc 3 (by rfl)) (XS (Zl (d:=(.int 1)) (by rfl) (by rfl)))))) (ZeD (owN:=[]) 4 (by decide) (by rfl) (by rfl) (by rfl) (by rfl) (by rfl) (Zcg [] (by rfl) (Ze (Zc 0 (by rfl)) (Ze (Zc 1 (by rfl)) (Ze (Zc 4 (by rfl)) Zm))))))
 Zf8)))
theorem Zjk(T:Txt K mg t):FnOk P w K mg base CX0 1 t.a_QL t.d_QL ["most"] (spD ⟨t.c,K⟩ 1 Ja):=by
 refine Yg (φ:=f_QL) T.f_QL ZiQ (by conv=>lhs;whnf) (by conv=>lhs;whnf) (λcdv A outer s H E hr => ?_) rfl rfl;refine⟨_,(Zp (ZB (i:=1) Zky (by rfl) (by first|exact Or.inl rfl|exact Or.inr rfl) (Ys (Zd Zn Zk)))
 (Zp ((UP PassesOwn.never (Z1 Qs (Zv (Yh (K:=K)) (Zw (Zx (K:=K)) (pv 1) (XE XF Zn) (λ_ _=>rfl)) Zn) (pv 0) (ZT _)) (Zt (XD (XM (K:=K) PySem.F.plainAttrs_list PySem.F.slot_list_append PySem.F.type_list_append XG (pv 1) (Zd (Zv (Yh (K:=K)) (Zw (Zx (K:=K)) (pv 1) (XE XF Zn) (λ_ _=>rfl)) Zn) Zk))))))
 (Zt (ZF (pv 1))))),[],?_⟩
 unfold f_QL;exact(Zu (show VS _ _ [1] _ _ _ _ from(Xr 1 (Yx (Ze (Zl (d:=(.int 1)) (by rfl) (by rfl)) Zm)) (by rfl) (by rfl) (by rfl) (by rfl)))
 (Zu (QL (ow:=[1]) (ZX (Zf Va (Zf YA (Zf Zy (Ux 1 (by rfl)) (XS (Zl (d:=(.int 1)) (by rfl) (by rfl)))) (Zl (d:=(.int 2)) (by rfl) (by rfl))) (Zc 0 (by rfl)))) (Vv 1 (by rfl) (Zf YA (Zf Zy (Ux 1 (by rfl)) (XS (Zl (d:=(.int 1)) (by rfl) (by rfl)))) (Zl (d:=(.int 2)) (by rfl) (by rfl)))))
 (VS.frz (ow1:=[]) 1 (ZM (Zc 1 (by rfl))) (by rfl) (by rfl) (by rfl) (by rfl))))
theorem Zjl(T:Txt K mg t):FnOk P w K mg base CX0 5 t.a_QV t.d_QV ["table", "n", "most"] (spV ⟨t.c,K⟩ 3 Vg):=by
 have G_QL:=(Zjk (P:=P) (w:=w) (base:=base) T).mono (k:=4) (by decide);have G_Q0:=(Zjg (P:=P) (w:=w) (base:=base) T).mono (k:=4) (by decide);have G_QY:=(Zjj (P:=P) (w:=w) (base:=base) T).mono (k:=4) (by decide);refine ZiE (φ:=f_QV) T.f_QV ZiR (by conv=>lhs;whnf) (by conv=>lhs;whnf) (λcdv A outer s H E hr => ?_) rfl rfl;refine⟨_,(Zp (ZB (i:=3) Zh2 (by rfl) (by first|exact Or.inl rfl|exact Or.inr rfl) (ZJ (G_Q0) hr (by rfl) T.g_Q0 T.k_Q0 T.b_Q0 .nil ZL (Zd (pv 0) (Zd (pv 1) Zk))))
 (Zp (Yb (ZcW (ZfU (pv 3))) (Zt (ZF (US (Zd (Ua [112,114,101,115,115] (by decide +kernel)) (Zd (pv 3) Zk))))) Yo)
 (Zp (ZB (i:=4) Zh2 (by rfl) (by first|exact Or.inl rfl|exact Or.inr rfl) (Ys Zk))
 (Zp (YH PassesOwn.never (by rfl) (Xo (K:=K) (ZJ (G_QL) hr (by rfl) T.g_QL T.k_QL T.b_QL .nil ZL (Zd (pv 2) Zk))) (ZR (i:=5) Zh2) (Zp (ZB (i:=4) Zh2 (by rfl) (by first|exact Or.inl rfl|exact Or.inr rfl) (ZJ (G_QY) hr (by rfl) T.g_QY T.k_QY T.b_QY .nil ZL (Zd (pv 0) (Zd (pv 1) (Zd (Zv (Yh (K:=K)) (Ys (Zd (pv 5) Zk)) (ZK (Yk (K:=K)) (by rfl) T.n_len boot_len (Zd (pv 0) Zk))) Zk)))))
 (Zt (Yb (Z1 ZfC (ZK (Zfd (K:=K)) (by rfl) T.n_max boot_max (Zd (Zw (Zx (K:=K)) (pv 4) (XE XF Zn) (λ_ _=>rfl)) Zk)) Zn (ZT _)) (Zt (ZF (US (Zd (Ua [119,101,105,103,104,116,115] (by decide +kernel)) (Zd (Zw (Zx (K:=K)) (pv 4) (XE XF Zn) (λ_ _=>rfl)) Zk))))) Yo))))
 (Zt (ZF (US (Zd (Ua [99,108,111,115,101] (by decide +kernel)) (Zd (pv 4) Zk))))))))),?_⟩
 unfold f_QV;exact(ZbR 3 4 5 (by decide) (by decide) (by rfl) (by rfl) (by rfl) (Zec [] (by rfl) (Ze (Zc 0 (by rfl)) (Ze (Zc 1 (by rfl)) Zm))) (Zeb [] (by rfl) (Ze (Zc 0 (by rfl)) (Ze (Zc 1 (by rfl)) Zm))) (YJ (Zf0 (Zc 3 (by rfl)))) (Xs (ZP [] (by rfl) (Ze (Zc 2 (by rfl)) Zm))) (ZeC [] (by rfl) (Ze (Zc 0 (by rfl)) (Ze (Zc 1 (by rfl)) (Ze (VF.cl (U0 (VF.cl (Yx (Ze (Zc 5 (by rfl)) Zm))) (ZS Yd (Ze (Zc 0 (by rfl)) Zm)))) Zm)))) (ZX (Zf Va (ZS Zdn (Ze (Zf Zy (Zc 4 (by rfl)) (XS (Zl (d:=(.int 1)) (by rfl) (by rfl)))) Zm)) (Zl (d:=(.int 0)) (by rfl) (by rfl)))) (XS (Zl (d:=(.int 1)) (by rfl) (by rfl))))
theorem Zjm(T:Txt K mg t):FnOk P w K mg base CX0 1 t.a_QF t.d_QF ["script", "k"] (spD ⟨t.c,K⟩ 2 Vy):=by
 refine Yg (φ:=f_QF) T.f_QF ZiS (by conv=>lhs;whnf) (by conv=>lhs;whnf) (λcdv A outer s H E hr => ?_) rfl rfl;refine⟨_,(Zp (Yb (Z1 ZgN (pv 1) (ZK (Yk (K:=K)) (by rfl) T.n_len boot_len (Zd (pv 0) Zk)) (ZT _)) (Zt (ZF (Zw (Zx (K:=K)) (pv 0) (pv 1) (λ_ _=>rfl)))) Yo)
 (Zt (ZF Zn))),[],?_⟩
 unfold f_QF;exact(Zu (Yy (ZX (Zf Va (Zc 1 (by rfl)) (ZS Yd (Ze (Zc 0 (by rfl)) Zm)))) (ZM (Zf Zy (Zc 0 (by rfl)) (Zc 1 (by rfl)))) YD)
 (ZM (Zl (d:=(.int 0)) (by rfl) (by rfl))))
theorem Zjn(T:Txt K mg t):FnOk P w K mg base CX0 1 t.a_QB t.d_QB ["found"] (spD ⟨t.c,K⟩ 1 Jb):=by
 refine Yg (φ:=f_QB) T.f_QB ZiT (by conv=>lhs;whnf) (by conv=>lhs;whnf) (λcdv A outer s H E hr => ?_) rfl rfl;refine⟨_,(Zt (ZF (Qo (ZK (UW (K:=K)) (by rfl) T.n_isinstance boot_isinstance (Zd (pv 0) (Zd (UN (v:=.ty "int") (by rfl) T.n_int boot_int rfl) Zk))) (Jo (Zha (ZK (UW (K:=K)) (by rfl) T.n_isinstance boot_isinstance (Zd (pv 0) (Zd (UN (v:=.ty "bool") (by rfl) T.n_bool boot_bool rfl) Zk)))))))),[],?_⟩
 unfold f_QB;exact(ZM (UV (Uf (λ_ h=>h) T.isi_int (Zc 0 (by rfl))) (Zhn (Uf (λ_ h=>h) T.isi_bool (Zc 0 (by rfl))))))
theorem ZgX(T:Txt K mg t):FnOk P w K mg base CX0 2 t.a_QT t.d_QT ["found", "many"] (spD ⟨t.c,K⟩ 2 Up):=by
 have G_QB:=(Zjn (P:=P) (w:=w) (base:=base) T).mono (k:=1) (by decide);refine Yg (φ:=f_QT) T.f_QT ZiU (by conv=>lhs;whnf) (by conv=>lhs;whnf) (λcdv A outer s H E hr => ?_) rfl rfl;refine⟨_,(Zp (Yb (PW.pt (V4 (V5 (Vs (ZK (UW (K:=K)) (by rfl) T.n_isinstance boot_isinstance (Zd (pv 0) (Zd (UN (v:=.ty "list") (by rfl) T.n_list boot_list rfl) Zk))))) (UO (Z1 (Xc (cA:=⟨t.c,K⟩) (hr.units)) (ZK (Yk (K:=K)) (by rfl) T.n_len boot_len (Zd (pv 0) Zk)) (pv 1) (ZT _))))) (Zt (ZF Xj)) Yo)
 (Zp ((YH PassesOwn.never (by rfl) (Xo (K:=K) (pv 0)) (ZR (i:=2) Zkz) (Zt (Yb (V5 (Vs (ZJ (G_QB) hr (by rfl) T.g_QB T.k_QB T.b_QB .nil ZL (Zd (pv 2) Zk)))) (Zt (ZF Xj)) Yo))))
 (Zt (ZF Xj)))),[],?_⟩
 unfold f_QT;exact(Zu (Yy (XR (XQ (YJ (Uf (λ_ h=>h) T.isi_list (Zc 0 (by rfl))))) (ZX (Zf YQ (ZS Yd (Ze (Zc 0 (by rfl)) Zm)) (Zc 1 (by rfl))))) (ZM (Zl (d:=(.bl false)) (by rfl) (by rfl))) YD)
 (Zu (YS (Xs (Zc 0 (by rfl))) (Ye 2 (by rfl) (by rfl)) (Yy (XQ (YJ (ZP [] (by rfl) (Ze (Zc 2 (by rfl)) Zm)))) (ZM (Zl (d:=(.bl false)) (by rfl) (by rfl))) YD))
 (ZM (Zl (d:=(.bl true)) (by rfl) (by rfl)))))
theorem Zad(T:Txt K mg t):∀n:Nat,FnOk P w K mg base CX0 (0+n) t.a_QJ t.d_QJ ["table", "columns"] (spD ⟨t.c,K⟩ 2 (UJ n))
 |0=>⟨λvs H Q E ⟨_,_,_,_,_,_,z,_⟩=>(nomatch z),λA outer s H args us vs Q E _ _ _ _ ⟨_,_,_,_,_,_,z,_⟩=>(nomatch z)⟩
 |n+1=>by
  have G_QJ:=Zad T n;refine Yg (φ:=f_QJ (UJ n)) T.f_QJ ZiV (by conv=>lhs;whnf) (by conv=>lhs;whnf) (λcdv A outer s H E hr => ?_) rfl rfl
  refine⟨_,(Zp (Yb (Z1 (Xp (cA:=⟨t.c,K⟩) (hr.units)) (ZK (Yk (K:=K)) (by rfl) T.n_len boot_len (Zd (pv 1) Zk)) Zn (ZT _)) (Zt (ZF Zn)) Yo)
   (Zp (ZB (i:=2) Qg (by rfl) (by first|exact Or.inl rfl|exact Or.inr rfl) (Zw (Zx (K:=K)) (pv 0) (Zv Uv (ZK (Yk (K:=K)) (by rfl) T.n_len boot_len (Zd (pv 0) Zk)) (ZK (Yk (K:=K)) (by rfl) T.n_len boot_len (Zd (pv 1) Zk))) (λ_ _=>rfl)))
   (Zp (ZB (i:=3) Qg (by rfl) (by first|exact Or.inl rfl|exact Or.inr rfl) Zn)
   (Zp ((YH PassesOwn.never (by rfl) (Xk (by rfl) T.n_range (Zd (ZK (Yk (K:=K)) (by rfl) T.n_len boot_len (Zd (pv 1) Zk)) Zk)) (ZR (i:=4) Qg) (Zp (ZB (i:=5) Qg (by rfl) (by first|exact Or.inl rfl|exact Or.inr rfl) (Zw (Zx (K:=K)) (pv 2) (Zw (Zx (K:=K)) (pv 1) (pv 4) (λ_ _=>rfl)) (λ_ _=>rfl)))
   (Zp (Yb (Z1 (Xc (cA:=⟨t.c,K⟩) (hr.units)) (pv 5) Zn (ZT _)) (Zt (ZB (i:=5) Qg (by rfl) (by first|exact Or.inl rfl|exact Or.inr rfl) (Zv (Yh (K:=K)) (pv 5) (ZJ (G_QJ) hr (by rfl) T.g_QJ T.k_QJ T.b_QJ .nil ZL (Zd (pv 0) (Zd (Zv (YK (K:=K)) (Jv (JA (K:=K)) (pv 1) Jt (Ju (pv 4))) (Jv (JA (K:=K)) (pv 1) (Ju (Zv (YK (K:=K)) (pv 4) Zn)) Jt)) Zk)))))) Yo)
   (Zt (ZB (i:=3) Qg (by rfl) (by first|exact Or.inl rfl|exact Or.inr rfl) (Zv (YK (K:=K)) (pv 3) (Zv (Yh (K:=K)) (pv 5) (Zv Uv Zn (Zv (Yh (K:=K)) (Zv Y9 (pv 4) Zn) Zn))))))))))
   (Zt (ZF (pv 3))))))),[],?_⟩
  unfold f_QJ
  exact(Zu (Yy (ZX (Zf Y2 (ZS Yd (Ze (Zc 1 (by rfl)) Zm)) (Zl (d:=(.int 0)) (by rfl) (by rfl)))) (ZM (Zl (d:=(.int 1)) (by rfl) (by rfl))) YD)
   (Zu (show VS _ _ [] _ _ _ _ from(ZG 2 (Zf Zy (Zc 0 (by rfl)) (Zf Uy (ZS Yd (Ze (Zc 0 (by rfl)) Zm)) (ZS Yd (Ze (Zc 1 (by rfl)) Zm)))) (by rfl) (by rfl) (by rfl) (by rfl)))
   (Zu (show VS _ _ [] _ _ _ _ from(ZG 3 (Zl (d:=(.int 0)) (by rfl) (by rfl)) (by rfl) (by rfl) (by rfl) (by rfl)))
   (Zu (YS (Xu (Ze (ZS Yd (Ze (Zc 1 (by rfl)) Zm)) Zm) Xd) (Ye 4 (by rfl) (by rfl)) (Zu (show VS _ _ [] _ _ _ _ from(ZG 5 (Zf Zy (Zc 2 (by rfl)) (Zf Zy (Zc 1 (by rfl)) (Zc 4 (by rfl)))) (by rfl) (by rfl) (by rfl) (by rfl)))
   (Zu (Yy (ZX (Zf YQ (Zc 5 (by rfl)) (Zl (d:=(.int 0)) (by rfl) (by rfl)))) (show VS _ _ [] _ _ _ _ from(ZG 5 (Zf YA (Zc 5 (by rfl)) (ZP [] (by rfl) (Ze (Zc 0 (by rfl)) (Ze (Zf YU (JJ (Or.inl rfl) (Zc 1 (by rfl)) JH (JI (Zc 4 (by rfl)))) (JJ (Or.inl rfl) (Zc 1 (by rfl)) (JI (Zf YU (Zc 4 (by rfl)) (Zl (d:=(.int 1)) (by rfl) (by rfl)))) JH)) Zm)))) (by rfl) (by rfl) (by rfl) (by rfl))) YD)
   (show VS _ _ [] _ _ _ _ from(ZG 3 (Zf YU (Zc 3 (by rfl)) (Zf YA (Zc 5 (by rfl)) (Zf Uy (Zl (d:=(.int 1)) (by rfl) (by rfl)) (Zf YA (Zf Xe (Zc 4 (by rfl)) (Zl (d:=(.int 2)) (by rfl) (by rfl))) (Zl (d:=(.int 2)) (by rfl) (by rfl)))))) (by rfl) (by rfl) (by rfl) (by rfl))))))
   (ZM (Zc 3 (by rfl)))))))
theorem Zjo(T:Txt K mg t):FnOk P w K mg base CX0 8 t.a_QJ t.d_QJ ["table", "columns"] (spD ⟨t.c,K⟩ 2 m_QJ):=Zad T 8
theorem Zjp(T:Txt K mg t):FnOk P w K mg base CX0 9 t.a_QD t.d_QD ["table"] (spD ⟨t.c,K⟩ 1 Jc):=by
 have G_QJ:=(Zjo (P:=P) (w:=w) (base:=base) T).mono (k:=8) (by decide);refine Yg (φ:=f_QD) T.f_QD ZiW (by conv=>lhs;whnf) (by conv=>lhs;whnf) (λcdv A outer s H E hr => ?_) rfl rfl;refine⟨_,(Zt (ZF (ZJ (G_QJ) hr (by rfl) T.g_QJ T.k_QJ T.b_QJ .nil ZL (Zd (pv 0) (Zd (ZcN (by rfl) (by rfl) T.n_list (by rfl) T.n_range (Zd (ZK (Yk (K:=K)) (by rfl) T.n_len boot_len (Zd (pv 0) Zk)) Zk)) Zk))))),[],?_⟩
 unfold f_QD;exact(ZM (ZP [] (by rfl) (Ze (Zc 0 (by rfl)) (Ze (VF.cl (ZcO (Ze (ZS Yd (Ze (Zc 0 (by rfl)) Zm)) Zm))) Zm))))
theorem Zjq(T:Txt K mg t):FnOk P w K mg base CX0 10 t.a_QQ t.d_QQ ["table", "n"] (spD ⟨t.c,K⟩ 2 ZhT):=by
 have G_QD:=(Zjp (P:=P) (w:=w) (base:=base) T).mono (k:=9) (by decide);refine Yg (φ:=f_QQ) T.f_QQ ZiX (by conv=>lhs;whnf) (by conv=>lhs;whnf) (λcdv A outer s H E hr => ?_) rfl rfl;refine⟨_,(Zp ((YH PassesOwn.never (by rfl) (Zas (by rfl) T.n_range (Zd Zn (Zd (Zv (YK (K:=K)) (ZK (Yk (K:=K)) (by rfl) T.n_len boot_len (Zd (pv 0) Zk)) Zn) Zk))) (ZR (i:=2) Zik) (Zp (ZB (i:=3) Zik (by rfl) (by first|exact Or.inl rfl|exact Or.inr rfl) (Ys Zk))
 (Zp ((YH PassesOwn.never (by rfl) (Xk (by rfl) T.n_range (Zd (pv 2) Zk)) (ZR (i:=4) Zik) (Zt (XD (XM (K:=K) PySem.F.plainAttrs_list PySem.F.slot_list_append PySem.F.type_list_append XG (pv 3) (Zd (XJ (by rfl) (CompSc.mk' (tn:=["j"]) (cn:=["n", "k", "table"]) (js:=[1,4,0]) (osc:=defScope Vm) (oN:=["table", "n", "many", "corner", "k"]) (by rfl) (by rfl) (by rfl) (by decide +kernel)) (Xk (by rfl) T.n_range (Zd (pv 2) Zk)) (λC s₂ H₂ fp=>ZR (i:=0) ZkA) (λC s₂ H₂ fp=>Y1) (λC s₂ H₂ fp=>(Zv Uv (Zv (Yh (K:=K)) (pv 1) (Qu ZdX (by rfl) T.n_int boot_int (Zd (UQ (Xp (cA:=⟨t.c,K⟩) (hr.units)) (pv 0) (pv 2) (ZT _)) Zk))) (Zw (Zx (K:=K)) (Zw (Zx (K:=K)) (pv 3) (pv 2) (λ_ _=>rfl)) (pv 0) (λ_ _=>rfl))))) Zk))))))
 (Zt (Yb (Z1 Qs (ZJ (G_QD) hr (by rfl) T.g_QD T.k_QD T.b_QD .nil ZL (Zd (pv 3) Zk)) Zn (ZT _)) (Zt (ZF Xj)) Yo))))))
 (Zt (ZF Xj))),[],?_⟩
 unfold f_QQ;exact(Zu (YS (Zbz (Ze (Zl (d:=(.int 1)) (by rfl) (by rfl)) (Ze (Zf YU (ZS Yd (Ze (Zc 0 (by rfl)) Zm)) (Zl (d:=(.int 1)) (by rfl) (by rfl))) Zm)) Zif) (Ye 2 (by rfl) (by rfl)) (Zu (show VS _ _ [3] _ _ _ _ from(Xr 3 (Yx Zm) (by rfl) (by rfl) (by rfl) (by rfl)))
 (Zu (YS (Xu (Ze (Zc 2 (by rfl)) Zm) Xd) (Ye 4 (by rfl) (by rfl)) (Vv 3 (by rfl) (VF.cl (YT (by rfl) (Xu (Ze (Zc 2 (by rfl)) Zm) Xd) (Ye 0 (by rfl) (by rfl)) Y3 (Zf Uy (Zf YA (Zc 1 (by rfl)) (ZS Zhp (Ze (Zf Y2 (Zc 0 (by rfl)) (Zc 2 (by rfl))) Zm))) (Zf Zy (Zf Zy (Zc 3 (by rfl)) (Zc 2 (by rfl))) (Zc 0 (by rfl))))))))
 (VS.frz (ow1:=[]) 3 (Yy (ZX (Zf Va (ZP [] (by rfl) (Ze (Zc 3 (by rfl)) Zm)) (Zl (d:=(.int 0)) (by rfl) (by rfl)))) (ZM (Zl (d:=(.bl false)) (by rfl) (by rfl))) YD) (by rfl) (by rfl) (by rfl) (by rfl)))))
 (ZM (Zl (d:=(.bl true)) (by rfl) (by rfl))))
theorem Zjr(T:Txt K mg t):FnOk P w K mg base CX0 1 t.a_QN t.d_QN ["numbers"] (spD ⟨t.c,K⟩ 1 Jd):=by
 refine Yg (φ:=f_QN) T.f_QN ZiY (by conv=>lhs;whnf) (by conv=>lhs;whnf) (λcdv A outer s H E hr => ?_) rfl rfl;refine⟨_,(Zp (ZB (i:=1) Je (by rfl) (by first|exact Or.inl rfl|exact Or.inr rfl) Zn)
 (Zp ((YH PassesOwn.never (by rfl) (Xo (K:=K) (pv 0)) (ZR (i:=2) Je) (Zt ((UP PassesOwn.never (Z1 (Xc (cA:=⟨t.c,K⟩) (hr.units)) (pv 2) Zn (ZT _)) (Zp (ZB (i:=3) Je (by rfl) (by first|exact Or.inl rfl|exact Or.inr rfl) (Zv Y9 (pv 1) (pv 2)))
 (Zp (ZB (i:=1) Je (by rfl) (by first|exact Or.inl rfl|exact Or.inr rfl) (pv 2))
 (Zt (ZB (i:=2) Je (by rfl) (by first|exact Or.inl rfl|exact Or.inr rfl) (pv 3))))))))))
 (Zt (ZF (UQ (Xp (cA:=⟨t.c,K⟩) (hr.units)) (pv 1) Zn (ZT _)))))),[],?_⟩
 unfold f_QN;exact(Zu (show VS _ _ [] _ _ _ _ from(ZG 1 (Zl (d:=(.int 0)) (by rfl) (by rfl)) (by rfl) (by rfl) (by rfl) (by rfl)))
 (Zu (YS (Xs (Zc 0 (by rfl))) (Ye 2 (by rfl) (by rfl)) (QL (ow:=[]) (ZX (Zf YQ (Zc 2 (by rfl)) (Zl (d:=(.int 0)) (by rfl) (by rfl)))) (Zu (show VS _ _ [] _ _ _ _ from(ZG 3 (Zf Xe (Zc 1 (by rfl)) (Zc 2 (by rfl))) (by rfl) (by rfl) (by rfl) (by rfl)))
 (Zu (show VS _ _ [] _ _ _ _ from(ZG 1 (Zc 2 (by rfl)) (by rfl) (by rfl) (by rfl) (by rfl)))
 (show VS _ _ [] _ _ _ _ from(ZG 2 (Zc 3 (by rfl)) (by rfl) (by rfl) (by rfl) (by rfl)))))))
 (ZM (Zf Y2 (Zc 1 (by rfl)) (Zl (d:=(.int 1)) (by rfl) (by rfl))))))
theorem Zjs(T:Txt K mg t):FnOk P w K mg base CX0 3 t.a_QE t.d_QE ["table", "n", "found"] (spD ⟨t.c,K⟩ 3 ZhU):=by
 have G_QN:=(Zjr (P:=P) (w:=w) (base:=base) T).mono (k:=2) (by decide);have G_QT:=(ZgX (P:=P) (w:=w) (base:=base) T).mono (k:=2) (by decide);refine Yg (φ:=f_QE) T.f_QE ZiZ (by conv=>lhs;whnf) (by conv=>lhs;whnf) (λcdv A outer s H E hr => ?_) rfl rfl;refine⟨_,(Zp (ZB (i:=3) Zil (by rfl) (by first|exact Or.inl rfl|exact Or.inr rfl) (ZK (Yk (K:=K)) (by rfl) T.n_len boot_len (Zd (pv 0) Zk)))
 (Zp (Yb (PW.pt (V4 (V5 (Vs (ZJ (G_QT) hr (by rfl) T.g_QT T.k_QT T.b_QT .nil ZL (Zd (pv 2) (Zd (pv 3) Zk))))) (UO (Z1 Qs (ZK (Zc1 (K:=K)) (by rfl) T.n_min boot_min (Zd (pv 2) Zk)) Zn (ZT _))))) (Zt (ZF Xj)) Yo)
 (Zp (ZB (i:=4) Zil (by rfl) (by first|exact Or.inl rfl|exact Or.inr rfl) (Ys Zk))
 (Zp ((YH PassesOwn.never (by rfl) (Xk (by rfl) T.n_range (Zd (pv 3) Zk)) (ZR (i:=5) Zil) (Zt (XD (XM (K:=K) PySem.F.plainAttrs_list PySem.F.slot_list_append PySem.F.type_list_append XG (pv 4) (Zd (Zv Uv (Zv (Yh (K:=K)) (pv 1) (Zw (Zx (K:=K)) (pv 2) (pv 5) (λ_ _=>rfl))) (ZK (Zc0 (K:=K)) (by rfl) T.n_sum boot_sum (Zd (XJ (by rfl) (CompSc.mk' (tn:=["k"]) (cn:=["found", "table", "j"]) (js:=[2,0,5]) (osc:=defScope Vn) (oN:=["table", "n", "found", "many", "left", "j"]) (by rfl) (by rfl) (by rfl) (by decide +kernel)) (Xk (by rfl) T.n_range (Zd (pv 3) Zk)) (λC s₂ H₂ fp=>ZR (i:=0) ZkB) (λC s₂ H₂ fp=>Y1) (λC s₂ H₂ fp=>(Zv (Yh (K:=K)) (Zw (Zx (K:=K)) (pv 1) (pv 0) (λ_ _=>rfl)) (Zw (Zx (K:=K)) (Zw (Zx (K:=K)) (pv 2) (pv 0) (λ_ _=>rfl)) (pv 3) (λ_ _=>rfl))))) Zk))) Zk))))))
 (Zt (ZF (Qo (UQ ZfC (Zw (Zx (K:=K)) (pv 4) Zn (λ_ _=>rfl)) Zn (ZT _)) (Qo (UQ (Xp (cA:=⟨t.c,K⟩) (hr.units)) (pv 4) (Zv (Yh (K:=K)) (Ys (Zd (Zw (Zx (K:=K)) (pv 4) Zn (λ_ _=>rfl)) Zk)) (pv 3)) (ZT _)) (Jo (ZJ (G_QN) hr (by rfl) T.g_QN T.k_QN T.b_QN .nil ZL (Zd (Zv (YK (K:=K)) (pv 2) (Ys (Zd (Zw (Zx (K:=K)) (pv 4) Zn (λ_ _=>rfl)) Zk))) Zk))))))))))),[],?_⟩
 unfold f_QE;exact(Zu (show VS _ _ [] _ _ _ _ from(ZG 3 (ZS Yd (Ze (Zc 0 (by rfl)) Zm)) (by rfl) (by rfl) (by rfl) (by rfl)))
 (Zu (Yy (XR (XQ (YJ (ZP [] (by rfl) (Ze (Zc 2 (by rfl)) (Ze (Zc 3 (by rfl)) Zm))))) (ZX (Zf Va (ZS ZbE (Ze (Zc 2 (by rfl)) Zm)) (Zl (d:=(.int 0)) (by rfl) (by rfl))))) (ZM (Zl (d:=(.bl false)) (by rfl) (by rfl))) YD)
 (Zu (show VS _ _ [4] _ _ _ _ from(Xr 4 (Yx Zm) (by rfl) (by rfl) (by rfl) (by rfl)))
 (Zu (YS (Xu (Ze (Zc 3 (by rfl)) Zm) Xd) (Ye 5 (by rfl) (by rfl)) (Vv 4 (by rfl) (Zf Uy (Zf YA (Zc 1 (by rfl)) (Zf Zy (Zc 2 (by rfl)) (Zc 5 (by rfl)))) (ZS ZbA (Ze (VF.cl (YT (by rfl) (Xu (Ze (Zc 3 (by rfl)) Zm) Xd) (Ye 0 (by rfl) (by rfl)) Y3 (Zf YA (Zf Zy (Zc 1 (by rfl)) (Zc 0 (by rfl))) (Zf Zy (Zf Zy (Zc 2 (by rfl)) (Zc 0 (by rfl))) (Zc 3 (by rfl)))))) Zm)))))
 (VS.frz (ow1:=[]) 4 (ZM (UV (Zf Va (Zf Zy (Zc 4 (by rfl)) (Zl (d:=(.int 0)) (by rfl) (by rfl))) (Zl (d:=(.int 0)) (by rfl) (by rfl))) (UV (Zf Y2 (Zc 4 (by rfl)) (VF.cl (U0 (VF.cl (Yx (Ze (Zf Zy (Zc 4 (by rfl)) (Zl (d:=(.int 0)) (by rfl) (by rfl))) Zm))) (Zc 3 (by rfl))))) (ZP [] (by rfl) (Ze (Zf YU (Zc 2 (by rfl)) (VF.cl (Yx (Ze (Zf Zy (Zc 4 (by rfl)) (Zl (d:=(.int 0)) (by rfl) (by rfl))) Zm)))) Zm))))) (by rfl) (by rfl) (by rfl) (by rfl))))))
theorem Zjt(T:Txt K mg t):FnOk P w K mg base CX0 1 t.a_QM t.d_QM ["number"] (spD ⟨t.c,K⟩ 1 ZhV):=by
 refine Yg (φ:=f_QM) T.f_QM Zi0 (by conv=>lhs;whnf) (by conv=>lhs;whnf) (λcdv A outer s H E hr => ?_) rfl rfl;refine⟨_,(Zp (ZB (i:=1) ZkC (by rfl) (by first|exact Or.inl rfl|exact Or.inr rfl) (Zv Y9 (pv 0) Zn))
 (Zp (Yb (Z1 (Xp (cA:=⟨t.c,K⟩) (hr.units)) (pv 1) Zn (ZT _)) (Zt (ZF Zn)) Yo)
 (Zt (ZF (Zv Y9 (Zv XU (pv 0) Zn) (Zw (Zx (K:=K)) (Ys (Zd Zn (Zd Zn (Zd (Zv Ze8 Zn Zn) Zk)))) (Zv Uv (pv 1) Zn) (λ_ _=>rfl))))))),[],?_⟩
 unfold f_QM;exact(Zu (show VS _ _ [] _ _ _ _ from(ZG 1 (Zf Xe (Zc 0 (by rfl)) (Zl (d:=(.int 4)) (by rfl) (by rfl))) (by rfl) (by rfl) (by rfl) (by rfl)))
 (Zu (Yy (ZX (Zf Y2 (Zc 1 (by rfl)) (Zl (d:=(.int 0)) (by rfl) (by rfl)))) (ZM (Zl (d:=(.int 0)) (by rfl) (by rfl))) YD)
 (ZM (Zf Xe (Zf XV (Zc 0 (by rfl)) (Zl (d:=(.int 4)) (by rfl) (by rfl))) (Zf Zy (VF.cl (Yx (Ze (Zl (d:=(.int 3)) (by rfl) (by rfl)) (Ze (Zl (d:=(.int 12)) (by rfl) (by rfl)) (Ze (Zf Zdo (Zl (d:=(.int 10)) (by rfl) (by rfl)) (Zl (d:=(.int 12)) (by rfl) (by rfl))) Zm))))) (Zf Uy (Zc 1 (by rfl)) (Zl (d:=(.int 1)) (by rfl) (by rfl))))))))
theorem Zju(T:Txt K mg t):FnOk P w K mg base CX0 1 t.a_QC t.d_QC ["script", "many"] (spD ⟨t.c,K⟩ 2 ZhW):=by
 refine Yg (φ:=f_QC) T.f_QC Zi1 (by conv=>lhs;whnf) (by conv=>lhs;whnf) (λcdv A outer s H E hr => ?_) rfl rfl;refine⟨_,(Zp (ZB (i:=2) Zim (by rfl) (by first|exact Or.inl rfl|exact Or.inr rfl) (Zv (Yh (K:=K)) (Ys (Zd Zn Zk)) (Zv (Yh (K:=K)) (pv 1) (pv 1))))
 (Zp ((YH PassesOwn.never (by rfl) (Zas (by rfl) T.n_range (Zd Zn (Zd (ZK (Yk (K:=K)) (by rfl) T.n_len boot_len (Zd (pv 0) Zk)) Zk))) (ZR (i:=3) Zim) (Zp (ZB (i:=4) Zim (by rfl) (by first|exact Or.inl rfl|exact Or.inr rfl) (Zv Y9 (Zv Uv (pv 3) Zn) (Zv (Yh (K:=K)) (pv 1) (pv 1))))
 (Zt (Qr (Zv Y9 (Zv (YK (K:=K)) (Zv (Yh (K:=K)) (Zw (Zx (K:=K)) (pv 2) (pv 4) (λ_ _=>rfl)) Zn) (Zw (Zx (K:=K)) (pv 0) (pv 3) (λ_ _=>rfl))) (Zv Ze8 Zn Zn)) (Qq (pv 2) (pv 4) Qv))))))
 (Zt (ZF (pv 2))))),[],?_⟩
 unfold f_QC;exact(Zu (show VS _ _ [2] _ _ _ _ from(Xr 2 (U0 (VF.cl (Yx (Ze (Zl (d:=(.int 0)) (by rfl) (by rfl)) Zm))) (Zf YA (Zc 1 (by rfl)) (Zc 1 (by rfl)))) (by rfl) (by rfl) (by rfl) (by rfl)))
 (Zu (YS (Zbz (Ze (Zl (d:=(.int 3)) (by rfl) (by rfl)) (Ze (ZS Yd (Ze (Zc 0 (by rfl)) Zm)) Zm)) Zif) (Ye 3 (by rfl) (by rfl)) (Zu (show VS _ _ [2] _ _ _ _ from(ZG 4 (Zf Xe (Zf Uy (Zc 3 (by rfl)) (Zl (d:=(.int 3)) (by rfl) (by rfl))) (Zf YA (Zc 1 (by rfl)) (Zc 1 (by rfl)))) (by rfl) (by rfl) (by rfl) (by rfl)))
 (JP 2 (by rfl) (Zf Xe (Zf YU (Zf YA (Zf Zy (Ux 2 (by rfl)) (Zc 4 (by rfl))) (Zl (d:=(.int 1009)) (by rfl) (by rfl))) (Zf Zy (Zc 0 (by rfl)) (Zc 3 (by rfl)))) (Zf Zdo (Zl (d:=(.int 10)) (by rfl) (by rfl)) (Zl (d:=(.int 15)) (by rfl) (by rfl)))) (Zc 4 (by rfl)))))
 (VS.frz (ow1:=[]) 2 (ZM (Zc 2 (by rfl))) (by rfl) (by rfl) (by rfl) (by rfl))))
theorem Zjv(T:Txt K mg t):FnOk P w K mg base CX0 1 t.a_QP t.d_QP ["cell", "table"] (spD ⟨t.c,K⟩ 2 ZhX):=by
 refine Yg (φ:=f_QP) T.f_QP Zi2 (by conv=>lhs;whnf) (by conv=>lhs;whnf) (λcdv A outer s H E hr => ?_) rfl rfl;refine⟨_,(Zp (ZB (i:=2) ZkD (by rfl) (by first|exact Or.inl rfl|exact Or.inr rfl) (ZK (Zfd (K:=K)) (by rfl) T.n_max boot_max (Zd (XJ (by rfl) (CompSc.mk' (tn:=["row"]) (cn:=[]) (js:=[]) (osc:=defScope Vo) (oN:=["cell", "table", "most"]) (by rfl) (by rfl) (by rfl) (by decide +kernel)) (Xo (K:=K) (pv 1)) (λC s₂ H₂ fp=>ZR (i:=0) Zkg) (λC s₂ H₂ fp=>Y1) (λC s₂ H₂ fp=>(ZK (Zc0 (K:=K)) (by rfl) T.n_sum boot_sum (Zd (pv 0) Zk)))) Zk)))
 (Zp (Yb (Z1 (Xp (cA:=⟨t.c,K⟩) (hr.units)) (Zv Y9 (pv 0) Zn) Zn (ZT _)) (Zt (ZF (Zv (YK (K:=K)) Zn (Zv Y9 (Zv XU (pv 0) Zn) Zn)))) Yo)
 (Zt (ZF (Zv (YK (K:=K)) Zn (Zv Y9 (Zv XU (pv 0) Zn) (Zv (YK (K:=K)) (pv 2) Zn))))))),[],?_⟩
 unfold f_QP;exact(Zu (show VS _ _ [] _ _ _ _ from(ZG 2 (ZS Zdn (Ze (VF.cl (YT (by rfl) (Xs (Zc 1 (by rfl))) (Ye 0 (by rfl) (by rfl)) Y3 (ZS ZbA (Ze (Zc 0 (by rfl)) Zm)))) Zm)) (by rfl) (by rfl) (by rfl) (by rfl)))
 (Zu (Yy (ZX (Zf Y2 (Zf Xe (Zc 0 (by rfl)) (Zl (d:=(.int 3)) (by rfl) (by rfl))) (Zl (d:=(.int 0)) (by rfl) (by rfl)))) (ZM (Zf YU (Zl (d:=(.int 1)) (by rfl) (by rfl)) (Zf Xe (Zf XV (Zc 0 (by rfl)) (Zl (d:=(.int 3)) (by rfl) (by rfl))) (Zl (d:=(.int 5)) (by rfl) (by rfl))))) YD)
 (ZM (Zf YU (Zl (d:=(.int 1)) (by rfl) (by rfl)) (Zf Xe (Zf XV (Zc 0 (by rfl)) (Zl (d:=(.int 3)) (by rfl) (by rfl))) (Zf YU (Zc 2 (by rfl)) (Zl (d:=(.int 2)) (by rfl) (by rfl))))))))
theorem Zjw(T:Txt K mg t):FnOk P w K mg base CX0 1 t.a_QG t.d_QG ["table", "n", "weights"] (spD ⟨t.c,K⟩ 3 Uq):=by
 refine Yg (φ:=f_QG) T.f_QG Zi3 (by conv=>lhs;whnf) (by conv=>lhs;whnf) (λcdv A outer s H E hr => ?_) rfl rfl;refine⟨_,(Zp (ZB (i:=3) Jf (by rfl) (by first|exact Or.inl rfl|exact Or.inr rfl) (Ys Zk))
 (Zp ((YH PassesOwn.never (by rfl) (Xk (by rfl) T.n_range (Zd (ZK (Yk (K:=K)) (by rfl) T.n_len boot_len (Zd (pv 0) Zk)) Zk)) (ZR (i:=4) Jf) (Zp (ZB (i:=5) Jf (by rfl) (by first|exact Or.inl rfl|exact Or.inr rfl) Zn)
 (Zp ((YH PassesOwn.never (by rfl) (Xk (by rfl) T.n_range (Zd (ZK (Yk (K:=K)) (by rfl) T.n_len boot_len (Zd (pv 0) Zk)) Zk)) (ZR (i:=6) Jf) (Zt (ZB (i:=5) Jf (by rfl) (by first|exact Or.inl rfl|exact Or.inr rfl) (Zv (YK (K:=K)) (pv 5) (Zv (Yh (K:=K)) (Zw (Zx (K:=K)) (Zw (Zx (K:=K)) (pv 0) (pv 4) (λ_ _=>rfl)) (pv 6) (λ_ _=>rfl)) (Zw (Zx (K:=K)) (pv 2) (pv 6) (λ_ _=>rfl))))))))
 (Zt (XD (XM (K:=K) PySem.F.plainAttrs_list PySem.F.slot_list_append PySem.F.type_list_append XG (pv 3) (Zd (ZK (Zc1 (K:=K)) (by rfl) T.n_min boot_min (Zd (Ys (Zd (Zw (Zx (K:=K)) (pv 2) (pv 4) (λ_ _=>rfl)) (Zd (Zv XU (pv 5) (pv 1)) Zk))) Zk)) Zk))))))))
 (Zt (ZF (pv 3))))),[],?_⟩
 unfold f_QG;exact(Zu (show VS _ _ [3] _ _ _ _ from(Xr 3 (Yx Zm) (by rfl) (by rfl) (by rfl) (by rfl)))
 (Zu (YS (Xu (Ze (ZS Yd (Ze (Zc 0 (by rfl)) Zm)) Zm) Xd) (Ye 4 (by rfl) (by rfl)) (Zu (show VS _ _ [3] _ _ _ _ from(ZG 5 (Zl (d:=(.int 0)) (by rfl) (by rfl)) (by rfl) (by rfl) (by rfl) (by rfl)))
 (Zu (YS (Xu (Ze (ZS Yd (Ze (Zc 0 (by rfl)) Zm)) Zm) Xd) (Ye 6 (by rfl) (by rfl)) (show VS _ _ [3] _ _ _ _ from(ZG 5 (Zf YU (Zc 5 (by rfl)) (Zf YA (Zf Zy (Zf Zy (Zc 0 (by rfl)) (Zc 4 (by rfl))) (Zc 6 (by rfl))) (Zf Zy (Zc 2 (by rfl)) (Zc 6 (by rfl))))) (by rfl) (by rfl) (by rfl) (by rfl))))
 (Vv 3 (by rfl) (ZS ZbE (Ze (VF.cl (Yx (Ze (Zf Zy (Zc 2 (by rfl)) (Zc 4 (by rfl))) (Ze (Zf XV (Zc 5 (by rfl)) (Zc 1 (by rfl))) Zm)))) Zm))))))
 (VS.frz (ow1:=[]) 3 (ZM (Zc 3 (by rfl))) (by rfl) (by rfl) (by rfl) (by rfl))))
theorem Zjx(T:Txt K mg t):FnOk P w K mg base CX0 2 t.a_QI t.d_QI ["table", "n", "m"] (spD ⟨t.c,K⟩ 3 ZhY):=by
 have G_QG:=(Zjw (P:=P) (w:=w) (base:=base) T).mono (k:=1) (by decide);refine Yg (φ:=f_QI) T.f_QI Zi4 (by conv=>lhs;whnf) (by conv=>lhs;whnf) (λcdv A outer s H E hr => ?_) rfl rfl;refine⟨_,(Zp (ZB (i:=3) Zin (by rfl) (by first|exact Or.inl rfl|exact Or.inr rfl) (Ys (Zd (Zv (Yh (K:=K)) (Ys (Zd (pv 2) Zk)) (ZK (Yk (K:=K)) (by rfl) T.n_len boot_len (Zd (pv 0) Zk))) Zk)))
 (Zp (ZB (i:=4) Zin (by rfl) (by first|exact Or.inl rfl|exact Or.inr rfl) (ZJ (G_QG) hr (by rfl) T.g_QG T.k_QG T.b_QG .nil ZL (Zd (pv 0) (Zd (pv 1) (Zd (Zw (Zx (K:=K)) (pv 3) (XE XF Zn) (λ_ _=>rfl)) Zk)))))
 (Zp ((UP PassesOwn.never (Z1 (Xc (cA:=⟨t.c,K⟩) (hr.units)) (pv 4) (Zw (Zx (K:=K)) (pv 3) (XE XF Zn) (λ_ _=>rfl)) (ZT _)) (Zp (XD (XM (K:=K) PySem.F.plainAttrs_list PySem.F.slot_list_append PySem.F.type_list_append XG (pv 3) (Zd (pv 4) Zk)))
 (Zt (ZB (i:=4) Zin (by rfl) (by first|exact Or.inl rfl|exact Or.inr rfl) (ZJ (G_QG) hr (by rfl) T.g_QG T.k_QG T.b_QG .nil ZL (Zd (pv 0) (Zd (pv 1) (Zd (pv 4) Zk)))))))))
 (Zt (ZF (pv 3)))))),[],?_⟩
 unfold f_QI;exact(Zu (show VS _ _ [3] _ _ _ _ from(Xr 3 (Yx (Ze (VF.cl (U0 (VF.cl (Yx (Ze (Zc 2 (by rfl)) Zm))) (ZS Yd (Ze (Zc 0 (by rfl)) Zm)))) Zm)) (by rfl) (by rfl) (by rfl) (by rfl)))
 (Zu (show VS _ _ [3] _ _ _ _ from(ZG 4 (ZP [] (by rfl) (Ze (q:=.cl) (Zc 0 (by rfl)) (Ze (q:=.cl) (Zc 1 (by rfl)) (Ze (q:=.cl) (Zf Zy (Ux 3 (by rfl)) (XS (Zl (d:=(.int 1)) (by rfl) (by rfl)))) Zm)))) (by rfl) (by rfl) (by rfl) (by rfl)))
 (Zu (QL (ow:=[3]) (ZX (Zf YQ (Zc 4 (by rfl)) (Zf Zy (Ux 3 (by rfl)) (XS (Zl (d:=(.int 1)) (by rfl) (by rfl)))))) (Zu (Vv 3 (by rfl) (Zc 4 (by rfl)))
 (show VS _ _ [3] _ _ _ _ from(ZG 4 (ZP [] (by rfl) (Ze (Zc 0 (by rfl)) (Ze (Zc 1 (by rfl)) (Ze (Zc 4 (by rfl)) Zm)))) (by rfl) (by rfl) (by rfl) (by rfl)))))
 (VS.frz (ow1:=[]) 3 (ZM (Zc 3 (by rfl))) (by rfl) (by rfl) (by rfl) (by rfl)))))
theorem Zjy(T:Txt K mg t):FnOk P w K mg base CX0 3 t.a_QS t.d_QS ["table", "n", "most"] (spD ⟨t.c,K⟩ 3 ZhZ):=by
 have G_QI:=(Zjx (P:=P) (w:=w) (base:=base) T).mono (k:=2) (by decide);refine Yg (φ:=f_QS) T.f_QS Zi5 (by conv=>lhs;whnf) (by conv=>lhs;whnf) (λcdv A outer s H E hr => ?_) rfl rfl;refine⟨_,(Zp (ZB (i:=3) Zh3 (by rfl) (by first|exact Or.inl rfl|exact Or.inr rfl) Zn)
 (Zp (ZB (i:=4) Zh3 (by rfl) (by first|exact Or.inl rfl|exact Or.inr rfl) (Ys Zk))
 (Zp ((UP PassesOwn.never (Z1 Qs (pv 3) (pv 2) (ZT _)) (Zp (ZB (i:=4) Zh3 (by rfl) (by first|exact Or.inl rfl|exact Or.inr rfl) (ZJ (G_QI) hr (by rfl) T.g_QI T.k_QI T.b_QI .nil ZL (Zd (pv 0) (Zd (pv 1) (Zd (pv 3) Zk)))))
 (Zp (Yb (Z1 (Xc (cA:=⟨t.c,K⟩) (hr.units)) (Zw (Zx (K:=K)) (pv 4) (XE XF Zn) (λ_ _=>rfl)) (Zv (Yh (K:=K)) (Ys (Zd Zn Zk)) (ZK (Yk (K:=K)) (by rfl) T.n_len boot_len (Zd (pv 0) Zk))) (ZT _)) (Zt (ZF (US (Zd (Ua [119,101,105,103,104,116,115] (by decide +kernel)) (Zd (Zw (Zx (K:=K)) (pv 4) (XE XF Zn) (λ_ _=>rfl)) Zk))))) Yo)
 (Zt (ZB (i:=3) Zh3 (by rfl) (by first|exact Or.inl rfl|exact Or.inr rfl) (Zv (Yh (K:=K)) (pv 3) Zn)))))))
 (Zt (ZF (US (Zd (Ua [99,108,111,115,101] (by decide +kernel)) (Zd (pv 4) Zk)))))))),[],?_⟩
 unfold f_QS;exact(Zu (show VS _ _ [] _ _ _ _ from(ZG 3 (Zl (d:=(.int 1)) (by rfl) (by rfl)) (by rfl) (by rfl) (by rfl) (by rfl)))
 (Zu (show VS _ _ [] _ _ _ _ from(ZG 4 (VF.cl (Yx Zm)) (by rfl) (by rfl) (by rfl) (by rfl)))
 (Zu (QL (ow:=[]) (ZX (Zf Va (Zc 3 (by rfl)) (Zc 2 (by rfl)))) (Zu (show VS _ _ [] _ _ _ _ from(ZG 4 (ZP [] (by rfl) (Ze (Zc 0 (by rfl)) (Ze (Zc 1 (by rfl)) (Ze (Zc 3 (by rfl)) Zm)))) (by rfl) (by rfl) (by rfl) (by rfl)))
 (Zu (Yy (ZX (Zf YQ (Zf Zy (Zc 4 (by rfl)) (XS (Zl (d:=(.int 1)) (by rfl) (by rfl)))) (VF.cl (U0 (VF.cl (Yx (Ze (Zl (d:=(.int 0)) (by rfl) (by rfl)) Zm))) (ZS Yd (Ze (Zc 0 (by rfl)) Zm)))))) (ZM (ZcZ (Ze (Zl (d:=(.str [119,101,105,103,104,116,115])) (by rfl) (by rfl)) (Ze (Zf Zy (Zc 4 (by rfl)) (XS (Zl (d:=(.int 1)) (by rfl) (by rfl)))) Zm)))) YD)
 (show VS _ _ [] _ _ _ _ from(ZG 3 (Zf YA (Zc 3 (by rfl)) (Zl (d:=(.int 2)) (by rfl) (by rfl))) (by rfl) (by rfl) (by rfl) (by rfl))))))
 (ZM (ZcZ (Ze (Zl (d:=(.str [99,108,111,115,101])) (by rfl) (by rfl)) (Ze (Zc 4 (by rfl)) Zm)))))))
theorem Zjz(T:Txt K mg t):FnOk P w K mg base CX0 3 t.a_QO t.d_QO ["found", "due", "many"] (spD ⟨t.c,K⟩ 3 Qf):=by
 have G_QT:=(ZgX (P:=P) (w:=w) (base:=base) T).mono (k:=2) (by decide);refine Yg (φ:=f_QO) T.f_QO Zi6 (by conv=>lhs;whnf) (by conv=>lhs;whnf) (λcdv A outer s H E hr => ?_) rfl rfl;refine⟨_,(Zp (Yb (Z1 (Xc (cA:=⟨t.c,K⟩) (hr.units)) (Zw (Zx (K:=K)) (pv 0) Zn (λ_ _=>rfl)) (Zw (Zx (K:=K)) (pv 1) Zn (λ_ _=>rfl)) (ZT _)) (Zt (ZF Xj)) Yo)
 (Zp (Yb (Z1 (Xp (cA:=⟨t.c,K⟩) (hr.units)) (Zw (Zx (K:=K)) (pv 1) Zn (λ_ _=>rfl)) (Ua [119,101,105,103,104,116,115] (by decide +kernel)) (ZT _)) (Zt (ZF (Qo (ZJ (G_QT) hr (by rfl) T.g_QT T.k_QT T.b_QT .nil ZL (Zd (Zw (Zx (K:=K)) (pv 0) Zn (λ_ _=>rfl)) (Zd (pv 2) Zk))) (Jo (UQ (Xp (cA:=⟨t.c,K⟩) (hr.units)) (Zw (Zx (K:=K)) (pv 0) Zn (λ_ _=>rfl)) (Zw (Zx (K:=K)) (pv 1) Zn (λ_ _=>rfl)) (ZT _)))))) Yo)
 (Zp (Yb (PW.pt (V4 (V5 (Vs (ZK (UW (K:=K)) (by rfl) T.n_isinstance boot_isinstance (Zd (Zw (Zx (K:=K)) (pv 0) Zn (λ_ _=>rfl)) (Zd (UN (v:=.ty "list") (by rfl) T.n_list boot_list rfl) Zk))))) (UO (Z1 (Xc (cA:=⟨t.c,K⟩) (hr.units)) (ZK (Yk (K:=K)) (by rfl) T.n_len boot_len (Zd (Zw (Zx (K:=K)) (pv 0) Zn (λ_ _=>rfl)) Zk)) (ZK (Yk (K:=K)) (by rfl) T.n_len boot_len (Zd (Zw (Zx (K:=K)) (pv 1) Zn (λ_ _=>rfl)) Zk)) (ZT _))))) (Zt (ZF Xj)) Yo)
 (Zp ((YH PassesOwn.never (by rfl) (Xk (by rfl) T.n_range (Zd (ZK (Yk (K:=K)) (by rfl) T.n_len boot_len (Zd (Zw (Zx (K:=K)) (pv 1) Zn (λ_ _=>rfl)) Zk)) Zk)) (ZR (i:=3) ZkE) (Zt (Yb (PW.pt (V4 (V5 (Vs (ZJ (G_QT) hr (by rfl) T.g_QT T.k_QT T.b_QT .nil ZL (Zd (Zw (Zx (K:=K)) (Zw (Zx (K:=K)) (pv 0) Zn (λ_ _=>rfl)) (pv 3) (λ_ _=>rfl)) (Zd (pv 2) Zk))))) (UO (Z1 (Xc (cA:=⟨t.c,K⟩) (hr.units)) (Zw (Zx (K:=K)) (Zw (Zx (K:=K)) (pv 0) Zn (λ_ _=>rfl)) (pv 3) (λ_ _=>rfl)) (Zw (Zx (K:=K)) (Zw (Zx (K:=K)) (pv 1) Zn (λ_ _=>rfl)) (pv 3) (λ_ _=>rfl)) (ZT _))))) (Zt (ZF Xj)) Yo))))
 (Zt (ZF Xj)))))),[],?_⟩
 unfold f_QO;exact(Zu (Yy (ZX (Zf YQ (Zf Zy (Zc 0 (by rfl)) (Zl (d:=(.int 0)) (by rfl) (by rfl))) (Zf Zy (Zc 1 (by rfl)) (Zl (d:=(.int 0)) (by rfl) (by rfl))))) (ZM (Zl (d:=(.bl false)) (by rfl) (by rfl))) YD)
 (Zu (Yy (ZX (Zf Y2 (Zf Zy (Zc 1 (by rfl)) (Zl (d:=(.int 0)) (by rfl) (by rfl))) (Zl (d:=(.str [119,101,105,103,104,116,115])) (by rfl) (by rfl)))) (ZM (UV (ZP [] (by rfl) (Ze (Zf Zy (Zc 0 (by rfl)) (Zl (d:=(.int 1)) (by rfl) (by rfl))) (Ze (Zc 2 (by rfl)) Zm))) (Zf Y2 (Zf Zy (Zc 0 (by rfl)) (Zl (d:=(.int 1)) (by rfl) (by rfl))) (Zf Zy (Zc 1 (by rfl)) (Zl (d:=(.int 1)) (by rfl) (by rfl)))))) YD)
 (Zu (Yy (XR (XQ (YJ (Uf (λ_ h=>h) T.isi_list (Zf Zy (Zc 0 (by rfl)) (Zl (d:=(.int 1)) (by rfl) (by rfl)))))) (ZX (Zf YQ (ZS Yd (Ze (Zf Zy (Zc 0 (by rfl)) (Zl (d:=(.int 1)) (by rfl) (by rfl))) Zm)) (ZS Yd (Ze (Zf Zy (Zc 1 (by rfl)) (Zl (d:=(.int 1)) (by rfl) (by rfl))) Zm))))) (ZM (Zl (d:=(.bl false)) (by rfl) (by rfl))) YD)
 (Zu (YS (Xu (Ze (ZS Yd (Ze (Zf Zy (Zc 1 (by rfl)) (Zl (d:=(.int 1)) (by rfl) (by rfl))) Zm)) Zm) Xd) (Ye 3 (by rfl) (by rfl)) (Yy (XR (XQ (YJ (ZP [] (by rfl) (Ze (Zf Zy (Zf Zy (Zc 0 (by rfl)) (Zl (d:=(.int 1)) (by rfl) (by rfl))) (Zc 3 (by rfl))) (Ze (Zc 2 (by rfl)) Zm))))) (ZX (Zf YQ (Zf Zy (Zf Zy (Zc 0 (by rfl)) (Zl (d:=(.int 1)) (by rfl) (by rfl))) (Zc 3 (by rfl))) (Zf Zy (Zf Zy (Zc 1 (by rfl)) (Zl (d:=(.int 1)) (by rfl) (by rfl))) (Zc 3 (by rfl)))))) (ZM (Zl (d:=(.bl false)) (by rfl) (by rfl))) YD))
 (ZM (Zl (d:=(.bl true)) (by rfl) (by rfl)))))))
theorem ZjA(T:Txt K mg t):FnOk P w K mg base CX0 11 t.a_Q2 t.d_Q2 ["script"] (spD ⟨t.c,K⟩ 1 Zh0):=by
 have G_QO:=(Zjz (P:=P) (w:=w) (base:=base) T).mono (k:=10) (by decide);have G_QF:=(Zjm (P:=P) (w:=w) (base:=base) T).mono (k:=10) (by decide);have G_QS:=(Zjy (P:=P) (w:=w) (base:=base) T).mono (k:=10) (by decide);have G_QM:=(Zjt (P:=P) (w:=w) (base:=base) T).mono (k:=10) (by decide);have G_QC:=(Zju (P:=P) (w:=w) (base:=base) T).mono (k:=10) (by decide)
 have G_QE:=(Zjs (P:=P) (w:=w) (base:=base) T).mono (k:=10) (by decide);have G_QQ:=(Zjq (P:=P) (w:=w) (base:=base) T).mono (k:=10) (by decide);have G_QP:=(Zjv (P:=P) (w:=w) (base:=base) T).mono (k:=10) (by decide);have G_QV:=(Zjl (P:=P) (w:=w) (base:=base) T).mono (k:=10) (by decide);refine Yg (φ:=f_Q2) T.f_Q2 Zi7 (by conv=>lhs;whnf) (by conv=>lhs;whnf) (λcdv A outer s H E hr => ?_) rfl rfl
 refine⟨_,(Zp (ZB (i:=1) X4 (by rfl) (by first|exact Or.inl rfl|exact Or.inr rfl) (Zv (YK (K:=K)) Zn (Zv Y9 (ZJ (G_QF) hr (by rfl) T.g_QF T.k_QF T.b_QF .nil ZL (Zd (pv 0) (Zd Zn Zk))) Zn)))
 (Zp (ZB (i:=2) X4 (by rfl) (by first|exact Or.inl rfl|exact Or.inr rfl) (ZJ (G_QC) hr (by rfl) T.g_QC T.k_QC T.b_QC .nil ZL (Zd (pv 0) (Zd (pv 1) Zk))))
 (Zp (ZB (i:=3) X4 (by rfl) (by first|exact Or.inl rfl|exact Or.inr rfl) (Ys Zk))
 (Zp ((YH PassesOwn.never (by rfl) (Xk (by rfl) T.n_range (Zd (pv 1) Zk)) (ZR (i:=4) X4) (Zt (XD (XM (K:=K) PySem.F.plainAttrs_list PySem.F.slot_list_append PySem.F.type_list_append XG (pv 3) (Zd (XJ (by rfl) (CompSc.mk' (tn:=["j"]) (cn:=["numbers", "k", "many"]) (js:=[2,4,1]) (osc:=defScope Y8) (oN:=["script", "many", "numbers", "table", "k", "n", "most", "handed", "found", "due"]) (by rfl) (by rfl) (by rfl) (by decide +kernel)) (Xk (by rfl) T.n_range (Zd (pv 1) Zk)) (λC s₂ H₂ fp=>ZR (i:=0) ZkF) (λC s₂ H₂ fp=>Y1) (λC s₂ H₂ fp=>(ZJ (G_QM) hr (by rfl) T.g_QM T.k_QM T.b_QM .nil ZL (Zd (Zw (Zx (K:=K)) (pv 1) (Zv (YK (K:=K)) (Zv (Yh (K:=K)) (pv 2) (pv 3)) (pv 0)) (λ_ _=>rfl)) Zk)))) Zk))))))
 (Zp (ZB (i:=5) X4 (by rfl) (by first|exact Or.inl rfl|exact Or.inr rfl) (ZJ (G_QP) hr (by rfl) T.g_QP T.k_QP T.b_QP .nil ZL (Zd (ZJ (G_QF) hr (by rfl) T.g_QF T.k_QF T.b_QF .nil ZL (Zd (pv 0) (Zd Zn Zk))) (Zd (pv 3) Zk))))
 (Zp (ZB (i:=6) X4 (by rfl) (by first|exact Or.inl rfl|exact Or.inr rfl) (Zv (YK (K:=K)) Zn (Zv Y9 (Zv XU (ZJ (G_QF) hr (by rfl) T.g_QF T.k_QF T.b_QF .nil ZL (Zd (pv 0) (Zd Zn Zk))) Zn) Zn)))
 (Zp (JM (i:=7) X4 (by rfl) (by rfl) (by rfl) (CompSc.mk' (tn:=["row"]) (cn:=[]) (js:=[]) (osc:=defScope Y8) (oN:=["script", "many", "numbers", "table", "k", "n", "most", "handed", "found", "due"]) (by rfl) (by rfl) (by rfl) (by decide +kernel)) (Xo (K:=K) (pv 3)) (λC s₂ H₂ fp=>ZR (i:=0) Zkg) (λC s₂ H₂ fp=>Y1) (λC s₂ H₂ fp=>(Qu (JQ (K:=K)) (by rfl) T.n_list boot_list (Zd (pv 0) Zk))))
 (Zp (Yb (Z1 (Xp (cA:=⟨t.c,K⟩) (hr.units)) (Zv Y9 (ZJ (G_QF) hr (by rfl) T.g_QF T.k_QF T.b_QF .nil ZL (Zd (pv 0) (Zd Zn Zk))) Zn) Zn (ZT _)) (Zp (ZB (i:=6) X4 (by rfl) (by first|exact Or.inl rfl|exact Or.inr rfl) Zn) (Zt (ZB (i:=8) X4 (by rfl) (by first|exact Or.inl rfl|exact Or.inr rfl) (ZJ (G_QV) hr (by rfl) T.g_QV T.k_QV T.b1_verdict (.cons T.dr0_verdict .nil) ZL (Zd (pv 7) (Zd (pv 5) Zk)))))) (Zt (ZB (i:=8) X4 (by rfl) (by first|exact Or.inl rfl|exact Or.inr rfl) (ZJ (G_QV) hr (by rfl) T.g_QV T.k_QV T.b_QV .nil ZL (Zd (pv 7) (Zd (pv 5) (Zd (pv 6) Zk)))))))
 (Zp (Yb (PW.pt (V4 (Z1 (Xc (cA:=⟨t.c,K⟩) (hr.units)) (pv 7) (pv 3) (ZT _)) (V4 (V5 (Vs (ZK (UW (K:=K)) (by rfl) T.n_isinstance boot_isinstance (Zd (pv 8) (Zd (UN (v:=.ty "tuple") (by rfl) T.n_tuple boot_tuple rfl) Zk))))) (V4 (Z1 (Xc (cA:=⟨t.c,K⟩) (hr.units)) (ZK (Yk (K:=K)) (by rfl) T.n_len boot_len (Zd (pv 8) Zk)) Zn (ZT _)) (UO (V5 (Vs (ZK (UW (K:=K)) (by rfl) T.n_isinstance boot_isinstance (Zd (Zw (Zx (K:=K)) (pv 8) Zn (λ_ _=>rfl)) (Zd (UN (v:=.ty "str") (by rfl) T.n_str boot_str rfl) Zk)))))))))) (Zt (ZF Xj)) Yo)
 (Zp (Yb (Vs (ZJ (G_QQ) hr (by rfl) T.g_QQ T.k_QQ T.b_QQ .nil ZL (Zd (pv 3) (Zd (pv 5) Zk)))) (Zt (ZF (Qo (UQ (Xp (cA:=⟨t.c,K⟩) (hr.units)) (Zw (Zx (K:=K)) (pv 8) Zn (λ_ _=>rfl)) (Ua [112,114,101,115,115] (by decide +kernel)) (ZT _)) (Jo (ZJ (G_QE) hr (by rfl) T.g_QE T.k_QE T.b_QE .nil ZL (Zd (pv 3) (Zd (pv 5) (Zd (Zw (Zx (K:=K)) (pv 8) Zn (λ_ _=>rfl)) Zk)))))))) Yo)
 (Zp (ZB (i:=9) X4 (by rfl) (by first|exact Or.inl rfl|exact Or.inr rfl) (ZJ (G_QS) hr (by rfl) T.g_QS T.k_QS T.b_QS .nil ZL (Zd (pv 3) (Zd (pv 5) (Zd (pv 6) Zk)))))
 (Zp (Yb (V5 (Vs (ZJ (G_QO) hr (by rfl) T.g_QO T.k_QO T.b_QO .nil ZL (Zd (pv 8) (Zd (pv 9) (Zd (pv 1) Zk)))))) (Zt (ZF Xj)) Yo)
 (Zp (XD (XM (K:=K) PySem.F.plainAttrs_list PySem.F.slot_list_append PySem.F.type_list_append XG (Zw (Zx (K:=K)) (pv 8) Zn (λ_ _=>rfl)) (Zd Zn Zk)))
 (Zp (Yb (Z1 (Xp (cA:=⟨t.c,K⟩) (hr.units)) (Zw (Zx (K:=K)) (pv 9) Zn (λ_ _=>rfl)) (Ua [99,108,111,115,101] (by decide +kernel)) (ZT _)) (Zt (Qr (Zv (YK (K:=K)) (Zw (Zx (K:=K)) (Zw (Zx (K:=K)) (Zw (Zx (K:=K)) (pv 8) Zn (λ_ _=>rfl)) Zn (λ_ _=>rfl)) Zn (λ_ _=>rfl)) Zn) (Qq (Zw (Zx (K:=K)) (Zw (Zx (K:=K)) (pv 8) Zn (λ_ _=>rfl)) Zn (λ_ _=>rfl)) Zn Qv))) Yo)
 (Zt (ZF (ZJ (G_QO) hr (by rfl) T.g_QO T.k_QO T.b_QO .nil ZL (Zd (ZJ (G_QV) hr (by rfl) T.g_QV T.k_QV T.b_QV .nil ZL (Zd (pv 7) (Zd (pv 5) (Zd (pv 6) Zk)))) (Zd (pv 9) (Zd (pv 1) Zk)))))))))))))))))))),[],?_⟩
 unfold f_Q2;exact(Zu (show VS _ _ [] _ _ _ _ from(ZG 1 (Zf YU (Zl (d:=(.int 1)) (by rfl) (by rfl)) (Zf Xe (ZP [] (by rfl) (Ze (Zc 0 (by rfl)) (Ze (Zl (d:=(.int 0)) (by rfl) (by rfl)) Zm))) (Zl (d:=(.int 4)) (by rfl) (by rfl)))) (by rfl) (by rfl) (by rfl) (by rfl)))
 (Zu (show VS _ _ [] _ _ _ _ from(ZG 2 (ZP [] (by rfl) (Ze (Zc 0 (by rfl)) (Ze (Zc 1 (by rfl)) Zm))) (by rfl) (by rfl) (by rfl) (by rfl)))
 (Zu (show VS _ _ [3] _ _ _ _ from(Xr 3 (Yx Zm) (by rfl) (by rfl) (by rfl) (by rfl)))
 (Zu (YS (Xu (Ze (Zc 1 (by rfl)) Zm) Xd) (Ye 4 (by rfl) (by rfl)) (Vv 3 (by rfl) (VF.cl (YT (by rfl) (Xu (Ze (Zc 1 (by rfl)) Zm) Xd) (Ye 0 (by rfl) (by rfl)) Y3 (ZP [] (by rfl) (Ze (Zf Zy (Zc 1 (by rfl)) (Zf YU (Zf YA (Zc 2 (by rfl)) (Zc 3 (by rfl))) (Zc 0 (by rfl)))) Zm))))))
 (VS.frz (ow1:=[]) 3 (Zu (show VS _ _ [] _ _ _ _ from(ZG 5 (ZP [] (by rfl) (Ze (ZP [] (by rfl) (Ze (Zc 0 (by rfl)) (Ze (Zl (d:=(.int 1)) (by rfl) (by rfl)) Zm))) (Ze (Zc 3 (by rfl)) Zm))) (by rfl) (by rfl) (by rfl) (by rfl)))
 (Zu (show VS _ _ [] _ _ _ _ from(ZG 6 (Zf YU (Zl (d:=(.int 1)) (by rfl) (by rfl)) (Zf Xe (Zf XV (ZP [] (by rfl) (Ze (Zc 0 (by rfl)) (Ze (Zl (d:=(.int 2)) (by rfl) (by rfl)) Zm))) (Zl (d:=(.int 3)) (by rfl) (by rfl))) (Zl (d:=(.int 40)) (by rfl) (by rfl)))) (by rfl) (by rfl) (by rfl) (by rfl)))
 (Zu (show VS _ _ [] _ _ _ _ from(ZG 7 (VF.cl (YT (by rfl) (Xs (Zc 3 (by rfl))) (Ye 0 (by rfl) (by rfl)) Y3 (VF.cl (JR (Or.inl rfl) (Ze (Zc 0 (by rfl)) Zm))))) (by rfl) (by rfl) (by rfl) (by rfl)))
 (ZeI (ZX (Zf Y2 (Zf Xe (ZP [] (by rfl) (Ze (Zc 0 (by rfl)) (Ze (Zl (d:=(.int 2)) (by rfl) (by rfl)) Zm))) (Zl (d:=(.int 3)) (by rfl) (by rfl))) (Zl (d:=(.int 1)) (by rfl) (by rfl)))) (show VS _ _ [] _ _ _ _ from(ZG 6 (Zl (d:=(.int 16)) (by rfl) (by rfl)) (by rfl) (by rfl) (by rfl) (by rfl))) (Zfh 8 (by rfl) (J0 [.int 16] (by rfl) (Ze (Zc 7 (by rfl)) (Ze (Zc 5 (by rfl)) Zm))) (by unfold Ur;exact(U5 (by rfl) (XR (ZX (Zf YQ (Zc 7 (by rfl)) (Zc 3 (by rfl)))) (XR (XQ (YJ (Uf (λ_ h=>h) T.isi_tuple (Zc 8 (by rfl))))) (XR (ZX (Zf YQ (ZS Yd (Ze (Zc 8 (by rfl)) Zm)) (Zl (d:=(.int 2)) (by rfl) (by rfl)))) (XQ (YJ (Uf (λ_ h=>h) T.isi_str (Zf Zy (Zc 8 (by rfl)) (Zl (d:=(.int 0)) (by rfl) (by rfl))))))))) (Zl (d:=(.bl false)) (by rfl) (by rfl))
 (U5 (by rfl) (YJ (ZP [] (by rfl) (Ze (Zc 3 (by rfl)) (Ze (Zc 5 (by rfl)) Zm)))) (UV (Zf Y2 (Zf Zy (Zc 8 (by rfl)) (Zl (d:=(.int 0)) (by rfl) (by rfl))) (Zl (d:=(.str [112,114,101,115,115])) (by rfl) (by rfl))) (ZP [] (by rfl) (Ze (Zc 3 (by rfl)) (Ze (Zc 5 (by rfl)) (Ze (Zf Zy (Zc 8 (by rfl)) (Zl (d:=(.int 1)) (by rfl) (by rfl))) Zm)))))
 (Zds 9 (by decide) (by rfl) (ZP [] (by rfl) (Ze (Zc 3 (by rfl)) (Ze (Zc 5 (by rfl)) (Ze (Zc 6 (by rfl)) Zm))))
 (U5 (by rfl) (XQ (YJ (ZP [] (by rfl) (Ze (Zc 8 (by rfl)) (Ze (Zc 9 (by rfl)) (Ze (Zc 1 (by rfl)) Zm)))))) (Zl (d:=(.bl false)) (by rfl) (by rfl))
 (Zck (by rfl) (ZX (Zf Y2 (Zf Zy (Zc 9 (by rfl)) (Zl (d:=(.int 0)) (by rfl) (by rfl))) (Zl (d:=(.str [99,108,111,115,101])) (by rfl) (by rfl)))) (ZP [] (by rfl) (Ze (VEV.cl (J0 [] (by rfl) (Ze (Zc 7 (by rfl)) (Ze (Zc 5 (by rfl)) (Ze (Zc 6 (by rfl)) Zm))))) (Ze (Zc 9 (by rfl)) (Ze (Zc 1 (by rfl)) Zm))))))))))) (Zfh 8 (by rfl) (J0 [] (by rfl) (Ze (Zc 7 (by rfl)) (Ze (Zc 5 (by rfl)) (Ze (Zc 6 (by rfl)) Zm)))) (by unfold Ur;exact(U5 (by rfl) (XR (ZX (Zf YQ (Zc 7 (by rfl)) (Zc 3 (by rfl)))) (XR (XQ (YJ (Uf (λ_ h=>h) T.isi_tuple (Zc 8 (by rfl))))) (XR (ZX (Zf YQ (ZS Yd (Ze (Zc 8 (by rfl)) Zm)) (Zl (d:=(.int 2)) (by rfl) (by rfl)))) (XQ (YJ (Uf (λ_ h=>h) T.isi_str (Zf Zy (Zc 8 (by rfl)) (Zl (d:=(.int 0)) (by rfl) (by rfl))))))))) (Zl (d:=(.bl false)) (by rfl) (by rfl))
 (U5 (by rfl) (YJ (ZP [] (by rfl) (Ze (Zc 3 (by rfl)) (Ze (Zc 5 (by rfl)) Zm)))) (UV (Zf Y2 (Zf Zy (Zc 8 (by rfl)) (Zl (d:=(.int 0)) (by rfl) (by rfl))) (Zl (d:=(.str [112,114,101,115,115])) (by rfl) (by rfl))) (ZP [] (by rfl) (Ze (Zc 3 (by rfl)) (Ze (Zc 5 (by rfl)) (Ze (Zf Zy (Zc 8 (by rfl)) (Zl (d:=(.int 1)) (by rfl) (by rfl))) Zm)))))
 (Zds 9 (by decide) (by rfl) (ZP [] (by rfl) (Ze (Zc 3 (by rfl)) (Ze (Zc 5 (by rfl)) (Ze (Zc 6 (by rfl)) Zm))))
 (U5 (by rfl) (XQ (YJ (ZP [] (by rfl) (Ze (Zc 8 (by rfl)) (Ze (Zc 9 (by rfl)) (Ze (Zc 1 (by rfl)) Zm)))))) (Zl (d:=(.bl false)) (by rfl) (by rfl))
 (Zck (by rfl) (ZX (Zf Y2 (Zf Zy (Zc 9 (by rfl)) (Zl (d:=(.int 0)) (by rfl) (by rfl))) (Zl (d:=(.str [99,108,111,115,101])) (by rfl) (by rfl)))) (ZP [] (by rfl) (Ze (VEV.cl (J0 [] (by rfl) (Ze (Zc 7 (by rfl)) (Ze (Zc 5 (by rfl)) (Ze (Zc 6 (by rfl)) Zm))))) (Ze (Zc 9 (by rfl)) (Ze (Zc 1 (by rfl)) Zm))))))))))))))) (by rfl) (by rfl) (by rfl) (by rfl))))))
end
end K30
namespace K30
def at2(A:List (List Int))(i j:Nat):Int:=(A.getD i []).getD j 0
def lap(A:List (List Int)):Nat->List Nat->Int
 |0,_=>1
 |f+1,cols=>((List.range (f+1)).map λk=>at2 A (A.length-(f+1)) (cols.getD k 0)*lap A f (cols.take k++cols.drop (k+1))*(1-(k:Int) % 2*2)).sum
abbrev Mt:=Nat->Nat->Int
def e2(b:Mt)(r s p q:Nat):Int:=b r p*b s q-b r q*b s p
def e3(b:Mt)(r s t p q u:Nat):Int:=b r p*e2 b s t q u-b r q*e2 b s t p u+b r u*e2 b s t p q
def e4(b:Mt)(r s t v p q u w:Nat):Int:=b r p*e3 b s t v q u w-b r q*e3 b s t v p u w+b r u*e3 b s t v p q w-b r w*e3 b s t v p q u
def dm:Nat->Mt->Int
 |0,_=>1
 |1,b=>b 0 0
 |2,b=>e2 b 0 1 0 1
 |3,b=>e3 b 0 1 2 0 1 2
 |4,b=>e4 b 0 1 2 3 0 1 2 3
 |_,_=>0
def Mn:Nat->Mt->Nat->Nat->Int
 |0,b,i,c=>b i c
 |1,b,0,c=>b 0 c
 |1,b,i,c=>e2 b 0 i 0 c
 |2,b,0,c=>e2 b 0 1 c 1
 |2,b,1,c=>e2 b 0 1 0 c
 |2,b,i,c=>e3 b 0 1 i 0 1 c
 |3,b,0,c=>e3 b 0 1 2 c 1 2
 |3,b,1,c=>e3 b 0 1 2 0 c 2
 |3,b,2,c=>e3 b 0 1 2 0 1 c
 |3,b,i,c=>e4 b 0 1 2 i 0 1 2 c
 |4,b,0,c=>e4 b 0 1 2 3 c 1 2 3
 |4,b,1,c=>e4 b 0 1 2 3 0 c 2 3
 |4,b,2,c=>e4 b 0 1 2 3 0 1 c 3
 |4,b,3,c=>e4 b 0 1 2 3 0 1 2 c
 |_,_,_,_=>0
def swR(b:Mt)(p q:Nat):Mt:=λi=>if i=p then b q else if i=q then b p else b i
theorem l4{i:Nat}(h:i<4):i=0\/i=1\/i=2\/i=3:=by omega
theorem frM(p:Nat)(hp:p<4)(b:Mt):Mn p b p p=dm (p+1) b:=by
 rcases l4 hp with rfl|rfl|rfl|rfl<;>rfl
theorem ZfM(p:Nat)(hp:p<4)(b:Mt)(c:Nat):Mn (p+1) b p c=Mn p b p c:=by
 rcases l4 hp with rfl|rfl|rfl|rfl<;>rfl
theorem Jg(p:Nat)(hp:p<4)(b:Mt)(i:Nat)(hi:i<4)(hn:i≠p)(c:Nat):dm (p+1) b*Mn p b i c-Mn p b i p*Mn p b p c=dm p b*Mn (p+1) b i c:=by
 rcases l4 hp with rfl|rfl|rfl|rfl<;>rcases l4 hi with rfl|rfl|rfl|rfl<;>first|exact absurd rfl hn|(simp only [Mn,dm,e2,e3,e4];grind)
theorem Zfj(m:Nat)(b:Mt)(h1:1<=m)(h4:m<=4)(k:Nat)(hk:k<m):((List.range m).map λj=>b k j*Mn m b j m).sum=b k m*dm m b:=by
 have:m=1\/m=2\/m=3\/m=4:=by omega
 rcases this with rfl|rfl|rfl|rfl<;>rcases l4 (show k<4 by omega)with rfl|rfl|rfl|rfl<;>first|(exfalso;omega)|(simp [Mn,dm,e2,e3,e4,List.range,List.range.loop];grind)
theorem zdet(p m:Nat)(b:Mt)(hp:p<m)(h4:m<=4)(h0:dm p b≠0)(h:∀i,p<=i->i<m->Mn p b i p=0):dm m b=0:=by
 have:m=1\/m=2\/m=3\/m=4:=by omega
 have key:dm p b*dm m b=0:=by
  rcases this with rfl|rfl|rfl|rfl<;>rcases l4 (show p<4 by omega)with rfl|rfl|rfl|rfl<;>first
   |(exfalso;omega)
   |(have z0:=h 0 (by omega) (by omega);have z1:=h 1 (by omega) (by omega);have z2:=h 2 (by omega) (by omega);have z3:=h 3 (by omega) (by omega);simp only [Mn,dm,e2,e3,e4]at *;grind)
   |(have z1:=h 1 (by omega) (by omega);have z2:=h 2 (by omega) (by omega);have z3:=h 3 (by omega) (by omega);simp only [Mn,dm,e2,e3,e4]at *;grind)
   |(have z2:=h 2 (by omega) (by omega);have z3:=h 3 (by omega) (by omega);simp only [Mn,dm,e2,e3,e4]at *;grind)
   |(have z3:=h 3 (by omega) (by omega);simp only [Mn,dm,e2,e3,e4]at *;grind)
   |(have z0:=h 0 (by omega) (by omega);have z1:=h 1 (by omega) (by omega);have z2:=h 2 (by omega) (by omega);simp only [Mn,dm,e2,e3,e4]at *;grind)
   |(have z1:=h 1 (by omega) (by omega);have z2:=h 2 (by omega) (by omega);simp only [Mn,dm,e2,e3,e4]at *;grind)
   |(have z2:=h 2 (by omega) (by omega);simp only [Mn,dm,e2,e3,e4]at *;grind)
   |(have z0:=h 0 (by omega) (by omega);have z1:=h 1 (by omega) (by omega);simp only [Mn,dm,e2,e3,e4]at *;grind)
   |(have z1:=h 1 (by omega) (by omega);simp only [Mn,dm,e2,e3,e4]at *;grind)
   |(have z0:=h 0 (by omega) (by omega);simp only [Mn,dm,e2,e3,e4]at *;grind)
 exact(Int.mul_eq_zero.mp key).resolve_left h0
theorem Zht(m:Nat)(b:Mt)(h4:m<=4)(p q:Nat)(hp:p<m)(hq:q<m)(hpq:p<=q):(dm m (swR b p q)=dm m b/\∀j,j<m->Mn m (swR b p q) j m=Mn m b j m)\/(dm m (swR b p q) = - dm m b/\∀j,j<m->Mn m (swR b p q) j m = - Mn m b j m):=by
 by_cases he:p=q
 · subst he
   have:swR b p p=b:=by
    funext i
    unfold swR
    split
    · rename_i z;rw [z]
    · rfl
   rw [this];exact .inl ⟨rfl,λ_ _=>rfl⟩
 · right
   have:m=1\/m=2\/m=3\/m=4:=by omega
   rcases this with rfl|rfl|rfl|rfl<;>rcases l4 (show p<4 by omega)with rfl|rfl|rfl|rfl<;>rcases l4 (show q<4 by omega)with rfl|rfl|rfl|rfl<;>first
    |(exfalso;omega)
    | (refine ⟨by simp [dm, e2, e3, e4, swR]; grind, fun j hj => ?_⟩
       rcases l4 (show j<4 by omega)with rfl|rfl|rfl|rfl<;>first|(exfalso;omega)|(simp [Mn,e2,e3,e4,swR];grind))
structure Sg(m p:Nat)(b:Mt):Prop where
 off:∀i c,i<m->p<=c->c<m->i≠c->Mn p b i c<=0
 rhs:∀i,i<m->0<Mn p b i m
 dpos:0<dm p b
theorem npn{x y:Int}(hx:0<=x)(hy:y<=0):x*y<=0:=Int.mul_nonpos_of_nonneg_of_nonpos hx hy
theorem Sg.next{m p:Nat}{b:Mt}(h:Sg m p b)(hm:m<=4)(hp:p<m)(hd:0<dm (p+1) b):Sg m (p+1) b:=by
 refine⟨λi c hi hc hcm hne => ?_,λi hi => ?_,hd⟩
 · by_cases hip:i=p
   · subst hip
     rw [ZfM i (by omega)];exact h.off i c hi (by omega) hcm hne
   · have e:=Jg p (by omega) b i (by omega) hip c
     have a1:=h.off i c hi (by omega) hcm hne;have a2:=h.off i p hi (Nat.le_refl _) hp hip;have a3:=h.off p c hp (by omega) hcm (by omega);have p1:=npn (Int.le_of_lt hd) a1;have p2:=Int.mul_nonneg_of_nonpos_of_nonpos a2 a3;refine Int.not_lt.mp λz => ?_
     have:=Int.mul_pos h.dpos z;omega
 · by_cases hip:i=p
   · subst hip
     rw [ZfM i (by omega)];exact h.rhs i hi
   · have e:=Jg p (by omega) b i (by omega) hip m
     have a1:=h.rhs i hi;have a2:=h.off i p hi (Nat.le_refl _) hp hip;have a3:=h.rhs p hp;have p1:=Int.mul_pos hd a1;have p2:Mn p b i p*Mn p b p m<=0:=by rw [Int.mul_comm];exact npn (Int.le_of_lt a3) a2
     refine Int.not_le.mp λz => ?_
     have:=npn (Int.le_of_lt h.dpos) z;omega
theorem Sg.upto{m:Nat}{b:Mt}(h:Sg m 0 b)(hm:m<=4)(hd:∀q,q<=m->0<dm q b):∀p,p<=m->Sg m p b
 |0,_=>h
 |p+1,hp=>(Sg.upto h hm hd p (by omega)).next hm (by omega) (hd _ hp)
def Lin(m p:Nat)(b:Mt)(X:Nat->Int)(d:Int):Prop:=∀i,p<=i->i<m->((List.range' p (m-p)).map λc=>Mn p b i c*X c).sum=d*Mn p b i m
theorem Zdw{α:Type}{x y z:Int}{f g h:α->Int}:∀l:List α,(∀a∈l,x*f a-y*g a=z*h a)->x*(l.map f).sum-y*(l.map g).sum=z*(l.map h).sum
 | [],_=>by simp
 |a::l,hl=>by
  have h1:=Zdw (x:=x) (y:=y) (z:=z) (f:=f) (g:=g) (h:=h) l λc hc=>hl c (List.mem_cons_of_mem _ hc)
  have h2:=hl a List.mem_cons_self;simp only [List.map_cons,List.sum_cons,Int.mul_add];omega
theorem Zfk{α:Type}{f:α->Int}:∀l:List α,(∀a∈l,f a<=0)->(l.map f).sum<=0
 | [],_=>by simp
 |a::l,hl=>by
  have h1:=Zfk (f:=f) l λc hc=>hl c (List.mem_cons_of_mem _ hc)
  have h2:=hl a List.mem_cons_self;simp only [List.map_cons,List.sum_cons];omega
theorem Zdx{p m:Nat}(hp:p<m):List.range' p (m-p)=p::List.range' (p+1) (m-(p+1)):=by
 rw [show m-p=(m-(p+1))+1 by omega,List.range'_succ]
theorem Lin.next{m p:Nat}{b:Mt}{X:Nat->Int}{d:Int}(h:Lin m p b X d)(hm:m<=4)(hp:p<m)(hd:0<dm p b):Lin m (p+1) b X d:=λi hi him=>by
 have h1:=h i (by omega) him;have h2:=h p (Nat.le_refl _) hp;rw [Zdx hp,List.map_cons,List.sum_cons]at h1 h2
 have h3:=Zdw (x:=dm (p+1) b) (y:=Mn p b i p) (z:=dm p b) (f:=λc=>Mn p b i c*X c) (g:=λc=>Mn p b p c*X c) (h:=λc=>Mn (p+1) b i c*X c) (List.range' (p+1) (m-(p+1))) λc _=>by
  have e:=Jg p (by omega) b i (by omega) (by omega) c
  calc dm (p+1) b*(Mn p b i c*X c)-Mn p b i p*(Mn p b p c*X c)=(dm (p+1) b*Mn p b i c-Mn p b i p*Mn p b p c)*X c:=by grind
   _=dm p b*(Mn (p+1) b i c*X c):=by rw [e];grind
 have h4:=Jg p (by omega) b i (by omega) (by omega) m;have h5:=frM p (by omega) b;generalize ((List.range' (p+1) (m-(p+1))).map λc=>Mn p b i c*X c).sum=s1 at *;generalize ((List.range' (p+1) (m-(p+1))).map λc=>Mn p b p c*X c).sum=s2 at *;generalize ((List.range' (p+1) (m-(p+1))).map λc=>Mn (p+1) b i c*X c).sum=s3 at *;refine Int.eq_of_mul_eq_mul_left (Int.ne_of_gt hd) ?_
 rw [<-h3];have e1:s1=d*Mn p b i m-Mn p b i p*X p:=by omega
 have e2:s2=d*Mn p b p m-Mn p b p p*X p:=by omega
 rw [e1,e2,h5];have:dm p b*(d*Mn (p+1) b i m)=d*(dm p b*Mn (p+1) b i m):=by grind
 rw [this,<-h4]
 grind
theorem Zfl{m:Nat}{b:Mt}{X:Nat->Int}{d:Int}(h:Sg m 0 b)(hl:Lin m 0 b X d)(hm:m<=4)(hd:0<d)(hX:∀c,c<m->0<X c):∀p,p<=m->Sg m p b/\Lin m p b X d
 |0,_=>⟨h,hl⟩
 |p+1,hp=>by
  obtain⟨h1,h2⟩:=Zfl h hl hm hd hX p (by omega);have h3:=h2 p (Nat.le_refl _) (by omega);rw [Zdx (show p<m by omega),List.map_cons,List.sum_cons]at h3
  have h4:=Zfk (f:=λc=>Mn p b p c*X c) (List.range' (p+1) (m-(p+1))) λc hc=>by
   obtain⟨j,hj,rfl⟩:=List.mem_range'.mp hc;rw [Int.mul_comm];exact npn (Int.le_of_lt (hX _ (by omega))) (h1.off p _ (by omega) (by omega) (by omega) (by omega))
  have h5:=Int.mul_pos hd (h1.rhs p (by omega));have h6:0<Mn p b p p*X p:=by omega
  have h7:0<dm (p+1) b:=by
   rw [<-frM p (by omega) b];exact Int.pos_of_mul_pos_left h6 (hX p (by omega))
  exact⟨h1.next hm (by omega) h7,h2.next hm (by omega) h1.dpos⟩
end K30
namespace K30
open DL L2
theorem Zgg(ns:List Int)(k:Nat):Vy [.lst (ns.map D.int),.int k]=some (.int (ns.getD k 0)):=by
 by_cases h:k<ns.length
 · have hz : atI (ns.map D.int) (k : Int) = some (.int (ns.getD k 0)) := by
    refine Zdh ?_;rw [List.getElem?_map,List.getElem?_eq_getElem h,List.getD_eq_getElem?_getD,List.getElem?_eq_getElem h];rfl
   simp [Vy,f_QF,h,hz,DL.run,DL.runI,Zg,sIf,Zq,QF,sNext,Zj,QI,QP,QR,QG,xB,bD,Yc,QC,xOr,Za,eC,eOp,YC,eOr,Ub,eIf,Xq,Vb,Uc,QD,eUn,Yl,eNil,Zb,Zz,Y4,eCB,lenD,minD,QE,Zo,QQ,QS,QO,eSl,xP,xNoP,addD,subD,Qz,QA,QB,Z5,ixD,isD,eBM,Yv,Ue,kind,plainKinds,Xf,XZ,QZ,U8,U9,Qa,X0,UE,Q0,Q1,Q2,List.lookup,V8,CMul,PySem.sizeLine_eq,List.replicate]
 · have hz:ns.getD k 0=0:=by rw [List.getD_eq_getElem?_getD,List.getElem?_eq_none (by omega)];rfl
   simp [Vy,f_QF,h,hz,DL.run,DL.runI,Zg,sIf,Zq,QF,sNext,Zj,QI,QP,QR,QG,xB,bD,Yc,QC,xOr,Za,eC,eOp,YC,eOr,Ub,eIf,Xq,Vb,Uc,QD,eUn,Yl,eNil,Zb,Zz,Y4,eCB,lenD,minD,QE,Zo,QQ,QS,QO,eSl,xP,xNoP,addD,subD,Qz,QA,QB,Z5,ixD,isD,eBM,Yv,Ue,kind,plainKinds,Xf,XZ,QZ,U8,U9,Qa,X0,UE,Q0,Q1,Q2,List.lookup,V8,CMul,PySem.sizeLine_eq,List.replicate]
abbrev nD(a:Nat):D := .int (a:Int)
abbrev AD(l:List Nat):D := .lst (l.map nD)
abbrev IL(w:List Int):D := .lst (w.map D.int)
abbrev TD(T:List (List Int)):D := .lst (T.map IL)
theorem Xz{ε:DL.Env->Option D}{δ:DL.Env}{xs:List D}(h:ε δ=some (.lst xs)):Z2 ε δ=some xs:=by
 unfold Z2;rw [h]
theorem XA{α:Type}{γ:D->DL.Env->Option DL.Env}{ε:DL.Env->Option D}{δ0:DL.Env}(g f:α->D):∀(xs:List α),(∀x∈xs,∃δ1,γ (g x) δ0=some δ1/\ε δ1=some (f x))->Z3 γ (λ_=>some true) ε δ0 (xs.map g)=some (xs.map f)
 | [],_=>rfl
 |x::xs,h=>by
  obtain⟨δ1,h1,h2⟩:=h x List.mem_cons_self;have ih:=XA g f xs λy hy=>h y (List.mem_cons_of_mem _ hy)
  rw [List.map_cons,List.map_cons];unfold Z3;rw [h1];dsimp only;rw [h2,ih]
theorem Zc3(n:Nat):ZO 0 1 n=(List.range n).map nD:=by
 unfold ZO;refine List.map_congr_left λk _ => ?_
 show D.int (0+(k:Int)*1)=D.int (k:Int);rw [show(0+(k:Int)*1)=k by omega]
theorem XB{i j:Int}(h0:0<j):modW (.int i) (.int j)=some (.int (i.fmod j)):=Zdt (by omega)
def Bd(e:Nat)(x:Int):Prop:=x.natAbs<=10 ^ e
theorem Bd.wd{e:Nat}{x:Int}(h:Bd e x)(he:e<=1000):Wd x:=ZfL (Nat.le_trans h (Nat.pow_le_pow_right (by decide) he))
theorem Bd.mono{e f:Nat}{x:Int}(h:Bd e x)(hf:e<=f):Bd f x:=Nat.le_trans h (Nat.pow_le_pow_right (by decide) hf)
theorem Bd.mul{e f:Nat}{x y:Int}(h1:Bd e x)(h2:Bd f y):Bd (e+f) (x*y):=by
 unfold Bd;rw [Int.natAbs_mul,Nat.pow_add];exact Nat.mul_le_mul h1 h2
theorem Bd.sub{e:Nat}{x y:Int}(h1:Bd e x)(h2:Bd e y):Bd (e+1) (x-y):=by
 unfold Bd at *;have:=Int.natAbs_sub_le x y;rw [Nat.pow_succ];omega
theorem Bd.div{e:Nat}{x y:Int}(h:Bd e x)(hy:0<y):Bd e (x.fdiv y):=by
 unfold Bd at *;rw [Int.fdiv_eq_ediv_of_nonneg x (Int.le_of_lt hy)];exact Nat.le_trans (Int.natAbs_ediv_le_natAbs x y) h
theorem UK{e f:Nat}{x y:Int}(h1:Bd e x)(h2:Bd f y)(he:e<=1000)(hf:f<=1000):mulX (.int x) (.int y)=some (.int (x*y)):=if_pos (.inl ⟨h1.wd he,h2.wd hf⟩)
theorem Us{e:Nat}{x y:Int}(h:Bd e y)(he:e<=1000)(hy:y≠0):fdivW (.int x) (.int y)=some (.int (x.fdiv y)):=Q4 hy (h.wd he)
theorem Qh(i j:Int):subD (.int i) (.int j)=some (.int (i-j)):=rfl
theorem Bd.zdet{e:Nat}:Bd e 0:=Nat.zero_le _
structure Sq(k e:Nat)(R:List (List Int)):Prop where
 ln:R.length=k
 rw:∀r∈R,r.length=k
 bd:∀r∈R,∀x∈r,Bd e x
theorem ZbU{l:List Int}{i:Nat}(h:i<l.length):l.getD i 0∈l:=by
 rw [List.getD_eq_getElem?_getD,List.getElem?_eq_getElem h];exact List.getElem_mem h
theorem Sq.row{k e:Nat}{R:List (List Int)}(h:Sq k e R){i:Nat}(hi:i<k):R[i]? = some (R.getD i [])/\R.getD i []∈R:=by
 have hl:i<R.length:=by rw [h.ln];exact hi
 rw [List.getD_eq_getElem?_getD,List.getElem?_eq_getElem hl];exact⟨rfl,List.getElem_mem hl⟩
theorem ZbV{k e:Nat}{R:List (List Int)}(h:Sq k e R){a:Nat}(ha:a<k):ixD (TD R) (nD a)=some (IL (R.getD a [])):=Q5 (by rw [List.getElem?_map,(h.row ha).1];rfl)
theorem ZbW{k e:Nat}{R:List (List Int)}(h:Sq k e R){a b:Nat}(ha:a<k)(hb:b<k):ixD (IL (R.getD a [])) (nD b)=some (.int (at2 R a b)):=Vf (by rw [h.rw _ (h.row ha).2];exact hb)
theorem Qi{k e:Nat}{R:List (List Int)}(h:Sq k e R){a b:Nat}(ha:a<k)(hb:b<k):Bd e (at2 R a b):=h.bd _ (h.row ha).2 _ (ZbU (by rw [h.rw _ (h.row ha).2];exact hb))
theorem ZkG{α:Type}{xs:List α}(h:1<=xs.length):L2.cutL xs (some 1) none=xs.drop 1:=by
 unfold L2.cutL
 have e1:Z4 xs.length 0 (some 1)=1:=by
  show min ((1:Int)).toNat xs.length=1;simp;omega
 have e2:Z4 xs.length xs.length none=xs.length:=rfl;rw [e1,e2,List.take_of_length_le (by rw [List.length_drop];exact Nat.le_refl _)]
theorem Zfm{ε:DL.Env->Option D}{δ:DL.Env}{xs:List D}(h:ε δ=some (.lst xs))(hl:1<=xs.length):eSl ε (xP (eC (.int 1))) xNoP δ=some (.lst (xs.drop 1)):=by
 unfold eSl;rw [h];show some (D.lst (L2.cutL xs (some 1) none))=_;rw [ZkG hl]
abbrev prD(p:Int×Int):D := .tup [.int p.1,.int p.2]
theorem Zbi:∀a b:List Int,Ym (a.map D.int) (b.map D.int)=(a.zip b).map prD
 | [],_=>by simp [Ym]
 |_::_,[]=>by simp [Ym]
 |x::a,y::b=>by rw [List.map_cons,List.map_cons,Ym,Zbi a b,List.zip_cons_cons,List.map_cons]
theorem ix0{r:List Int}(h:0<r.length):ixD (IL r) (.int 0)=some (.int (r.getD 0 0)):=Vf (a:=0) h
theorem Zfn{B:Nat}:∀l:List Int,(∀x∈l,x.natAbs<=B)->l.sum.natAbs<=l.length*B
 | [],_=>by simp
 |x::l,h=>by
  have h1:=Zfn l λy hy=>h y (List.mem_cons_of_mem _ hy)
  have h2:=h x List.mem_cons_self;have h3:=Int.natAbs_add_le x l.sum;rw [List.sum_cons,List.length_cons,Nat.add_mul,Nat.one_mul];omega
theorem Zhu(k:Nat):Bd 0 (1-(k:Int) % 2*2):=by
 show(1-(k:Int) % 2*2).natAbs<=10 ^ 0;rw [Nat.pow_zero];omega
theorem Zfo{A:List (List Int)}{Mn e:Nat}(h:Sq Mn e A)(hM:Mn<=4):∀(f:Nat)(cols:List Nat),cols.length=f->f<=Mn->(∀c∈cols,c<Mn)->Bd ((e+1)*f) (lap A f cols)
 |0,cols,_,_,_=>by
  show(1:Int).natAbs<=10 ^ ((e+1)*0);exact Nat.one_le_pow _ _ (by decide)
 |f+1,cols,hl,hf,hc=>by
  have key:∀x∈(List.range (f+1)).map (λk=>at2 A (A.length-(f+1)) (cols.getD k 0)*lap A f (cols.take k++cols.drop (k+1))*(1-(k:Int) % 2*2)),x.natAbs<=10 ^ (e+(e+1)*f):=λx hx=>by
   obtain⟨k,hk,rfl⟩:=List.mem_map.mp hx;have hk:=List.mem_range.mp hk
   have hck:cols.getD k 0<Mn:=by
    rw [List.getD_eq_getElem?_getD,List.getElem?_eq_getElem (by omega)];exact hc _ (List.getElem_mem _)
   have b1:=Qi h (a:=A.length-(f+1)) (by rw [h.ln];omega) hck
   have b2:=Zfo h hM f (cols.take k++cols.drop (k+1)) (by rw [List.length_append,List.length_take,List.length_drop];omega) (by omega) λc hcc=>by
    rcases List.mem_append.mp hcc with z|z
    · exact hc c (List.mem_of_mem_take z)
    · exact hc c (List.mem_of_mem_drop z)
   exact(b1.mul b2).mul (Zhu k)
  have:=Zfn _ key;rw [List.length_map,List.length_range]at this;show Int.natAbs (List.sum ((List.range (f+1)).map λk=>at2 A (A.length-(f+1)) (cols.getD k 0)*lap A f (cols.take k++cols.drop (k+1))*(1-(k:Int) % 2*2)))<=10 ^ ((e+1)*(f+1));refine Nat.le_trans this ?_;rw [show(e+1)*(f+1)=(e+(e+1)*f)+1 by rw [Nat.mul_add,Nat.mul_one];omega,Nat.pow_succ,Nat.mul_comm]
  exact Nat.mul_le_mul_left _ (by omega)
noncomputable def gR:DL.Env->Option D:=(eOp addX (eSl (Za 1) xNoP (xP (Za 4))) (eSl (Za 1) (xP (eOp addX (Za 4) (eC (.int 1)))) xNoP))
noncomputable def gS:DL.Env->Option D:=(eOp subD (eC (.int 1)) (eOp mulX (eOp modW (Za 4) (eC (.int 2))) (eC (.int 2))))
noncomputable def g5:DL.Env->Option Out:=(Zj 5 (eOp ixD (Za 2) (eOp ixD (Za 1) (Za 4))))
noncomputable def gM(m:List D->Option D):DL.Env->Option Out:=(sIf (xB (eOp neD (Za 5) (eC (.int 0)))) (Zj 5 (eOp mulX (Za 5) (Zo 2 m [] (Zb (Za 0) (Zb gR eNil))))) sNext)
noncomputable def g3:DL.Env->Option Out:=(Zj 3 (eOp addX (Za 3) (eOp mulX (Za 5) gS)))
noncomputable def gB(m:List D->Option D):DL.Env->Option Out:=(Zg g5 (Zg (gM m) g3))
noncomputable def cI:DL.Env->Option (List D):=(ZI (Zb (eCB lenD (Zb (Za 1) eNil)) eNil))
noncomputable def g0:DL.Env->Option Out:=(sIf (xB (eOp eqD (eCB lenD (Zb (Za 1) eNil)) (eC (.int 0)))) (Zq (eC (.int 1))) sNext)
noncomputable def g2:DL.Env->Option Out:=(Zj 2 (eOp ixD (Za 0) (eOp subD (eCB lenD (Zb (Za 0) eNil)) (eCB lenD (Zb (Za 1) eNil)))))
theorem Zed(m:List D->Option D):f_QJ m=Zg g0 (Zg g2 (Zg (Zj 3 (eC (.int 0))) (Zg (ZQ cI (Zs 4) (gB m)) (Zq (Za 3))))):=rfl
abbrev G6(A:List (List Int))(cols:List Nat)(v2 v3 v4 v5:Option D):DL.Env:=[some (TD A),some (AD cols),v2,v3,v4,v5]
theorem ZkH{α:Type}{xs:List α}{k:Nat}(h:k<=xs.length):L2.cutL xs none (some (k:Int))=xs.take k:=by
 unfold L2.cutL;have e1:Z4 xs.length 0 none=0:=rfl
 have e2:Z4 xs.length xs.length (some (k:Int))=k:=by
  show(if(k:Int)<0 then((k:Int)+xs.length).toNat else min (k:Int).toNat xs.length)=k;rw [if_neg (by omega)];omega
 rw [e1,e2,List.drop_zero,Nat.sub_zero]
theorem ZkI{α:Type}{xs:List α}{k:Nat}(h:k<=xs.length):L2.cutL xs (some (k:Int)) none=xs.drop k:=by
 unfold L2.cutL;have e1:Z4 xs.length xs.length none=xs.length:=rfl
 have e2:Z4 xs.length 0 (some (k:Int))=k:=by
  show(if(k:Int)<0 then((k:Int)+xs.length).toNat else min (k:Int).toNat xs.length)=k;rw [if_neg (by omega)];omega
 rw [e1,e2,List.take_of_length_le (by rw [List.length_drop];exact Nat.le_refl _)]
theorem ZjB(A:List (List Int)){cols:List Nat}{k:Nat}(hk:k<cols.length)(hl:cols.length<=4)(v2 v3 v5:Option D):gR (G6 A cols v2 v3 (some (nD k)) v5)=some (AD (cols.take k++cols.drop (k+1))):=by
 have e1:eSl (Za 1) xNoP (xP (Za 4)) (G6 A cols v2 v3 (some (nD k)) v5)=some (AD (cols.take k)):=by
  show some (D.lst (L2.cutL (cols.map nD) none (some (k:Int))))=_;rw [ZkH (by rw [List.length_map];omega),<-List.map_take]
 have e2:eSl (Za 1) (xP (eOp addX (Za 4) (eC (.int 1)))) xNoP (G6 A cols v2 v3 (some (nD k)) v5)=some (AD (cols.drop (k+1))):=by
  show some (D.lst (L2.cutL (cols.map nD) (some ((k:Int)+1)) none))=_;rw [show((k:Int)+1)=((k+1:Nat):Int) by omega,ZkI (by rw [List.length_map];omega),<-List.map_drop]
 refine(Zi e1 e2).trans ((ZbG (by rw [List.length_map,List.length_map,List.length_take,List.length_drop];omega)).trans ?_);rw [<-List.map_append]
theorem ZjC(A:List (List Int))(cols:List Nat)(k:Nat)(v2 v3 v5:Option D):gS (G6 A cols v2 v3 (some (nD k)) v5)=some (.int (1-(k:Int) % 2*2)):=by
 have e1:eOp modW (Za 4) (eC (.int 2)) (G6 A cols v2 v3 (some (nD k)) v5)=some (.int ((k:Int) % 2)):=(Zi (x:=nD k) (y:=.int 2) rfl rfl).trans ((XB (by decide)).trans (by rw [Int.fmod_eq_emod_of_nonneg _ (by decide)]));exact(Zi (x:=.int 1) rfl ((Zi (y:=.int 2) e1 rfl).trans (UF (by decide) (by decide)))).trans (Qh _ _)
def Xh(A:List (List Int))(f:Nat)(cols:List Nat)(k:Nat):Int:=at2 A (A.length-(f+1)) (cols.getD k 0)*lap A f (cols.take k++cols.drop (k+1))*(1-(k:Int) % 2*2)
theorem ZfN{S:List Nat}{i:Nat}(h:i<S.length):ixD (AD S) (nD i)=some (nD (S.getD i 0)):=Q5 (by rw [List.getElem?_map,List.getElem?_eq_getElem h,List.getD_eq_getElem?_getD,List.getElem?_eq_getElem h];rfl)
theorem Zbj{A:List (List Int)}{Mn e:Nat}(h:Sq Mn e A)(hM:Mn<=4)(he:(e+1)*4<=900):∀(f d:Nat)(cols:List Nat),cols.length=f->f<=Mn->f<d->(∀c∈cols,c<Mn)->UJ d [TD A,AD cols]=some (.int (lap A f cols))
 |f,0,cols,_,_,hd,_=>absurd hd (Nat.not_lt_zero _)
 |0,d+1,cols,hl,_,_,_=>by
  have hc:cols=[]:=List.length_eq_zero_iff.mp hl;subst hc;exact Yi (δ:=G6 A [] none none none none) rfl rfl
 |f+1,d+1,cols,hl,hf,hd,hc=>by
  have hlen:eCB lenD (Zb (Za 1) eNil) (G6 A cols none none none none)=some (.int (cols.length:Int)):=(ZY (Zh (x:=AD cols) rfl nil_of)).trans (len_lst.trans (by rw [List.length_map]));have s0:g0 (G6 A cols none none none none)=some (.nx (G6 A cols none none none none)):=(YB (ZH ((Zi (y:=.int 0) hlen rfl).trans ((Xf _ _).trans (by rw [decide_eq_false (by omega)]))))).trans rfl;have hrow:A.length-(f+1)<Mn:=by rw [h.ln];omega
  have s2:g2 (G6 A cols none none none none)=some (.nx (G6 A cols (some (IL (A.getD (A.length-(f+1)) []))) none none none)):=by
   refine ZE ((Zi (x:=TD A) (y:=nD (A.length-(f+1))) rfl ((Zi (x:=.int ((A.map IL).length:Int)) ((ZY (Zh (x:=TD A) rfl nil_of)).trans len_lst) hlen).trans ((Qh _ _).trans ?_))).trans (ZbV h hrow));refine congrArg (λz=>some (D.int z)) ?_;rw [List.length_map,hl];have:=h.ln;omega
  obtain⟨δ',hfor,w4,w5,e1⟩:=X1 (γ:=Zs 4) (φ:=gB (UJ d)) (λk δ=>∃w4 w5,δ=G6 A cols (some (IL (A.getD (A.length-(f+1)) []))) (some (.int (((List.range k).map (Xh A f cols)).sum))) w4 w5) (ZO 0 1 (f+1)) 0 (G6 A cols (some (IL (A.getD (A.length-(f+1)) []))) (some (.int 0)) none none) ⟨none,none,rfl⟩ (by
   rintro k dd δ hdd ⟨w4,w5,rfl⟩
   obtain⟨hk,rfl⟩:=Qb hdd;rw [Nat.zero_add];have hkl:k<cols.length:=by omega
   have hck:cols.getD k 0<Mn:=by
    rw [List.getD_eq_getElem?_getD,List.getElem?_eq_getElem hkl];exact hc _ (List.getElem_mem _)
   have hcl:(cols.take k++cols.drop (k+1)).length=f:=by rw [List.length_append,List.length_take,List.length_drop];omega
   have hcm:∀c∈cols.take k++cols.drop (k+1),c<Mn:=λc hcc=>by
    rcases List.mem_append.mp hcc with z|z
    · exact hc c (List.mem_of_mem_take z)
    · exact hc c (List.mem_of_mem_drop z)
   have b1:=Qi h hrow hck;have b2:=Zfo h hM f _ hcl (by omega) hcm;have hf4:(e+1)*f<=(e+1)*4:=Nat.mul_le_mul_left _ (by omega);have ih:=Zbj h hM he f d (cols.take k++cols.drop (k+1)) hcl (by omega) (by omega) hcm;have t5:g5 (G6 A cols (some (IL (A.getD (A.length-(f+1)) []))) (some (.int (((List.range k).map (Xh A f cols)).sum))) (some (nD k)) w5)=some (.nx (G6 A cols (some (IL (A.getD (A.length-(f+1)) []))) (some (.int (((List.range k).map (Xh A f cols)).sum))) (some (nD k)) (some (.int (at2 A (A.length-(f+1)) (cols.getD k 0)))))):=ZE ((Zi (x:=IL (A.getD (A.length-(f+1)) [])) (y:=nD (cols.getD k 0)) rfl ((Zi (x:=AD cols) (y:=nD k) rfl rfl).trans (ZfN hkl))).trans (ZbW h hrow hck))
   have tM:gM (UJ d) (G6 A cols (some (IL (A.getD (A.length-(f+1)) []))) (some (.int (((List.range k).map (Xh A f cols)).sum))) (some (nD k)) (some (.int (at2 A (A.length-(f+1)) (cols.getD k 0)))))=some (.nx (G6 A cols (some (IL (A.getD (A.length-(f+1)) []))) (some (.int (((List.range k).map (Xh A f cols)).sum))) (some (nD k)) (some (.int (at2 A (A.length-(f+1)) (cols.getD k 0)*lap A f (cols.take k++cols.drop (k+1))))))):=by
    generalize at2 A (A.length-(f+1)) (cols.getD k 0)=p at b1;have et:xB (eOp neD (Za 5) (eC (.int 0))) (G6 A cols (some (IL (A.getD (A.length-(f+1)) []))) (some (.int (((List.range k).map (Xh A f cols)).sum))) (some (nD k)) (some (.int p)))=some (!decide (p=0)):=ZH ((Zi (x:=.int p) (y:=.int 0) rfl rfl).trans (X0 _ _))
    by_cases hp:p=0
    · rw [decide_eq_true hp]at et
      refine(YB et).trans ?_;rw [hp,Int.zero_mul];rfl
    · rw [decide_eq_false hp]at et
      have hd2:Zb (Za 0) (Zb gR eNil) (G6 A cols (some (IL (A.getD (A.length-(f+1)) []))) (some (.int (((List.range k).map (Xh A f cols)).sum))) (some (nD k)) (some (.int p)))=some [TD A,AD (cols.take k++cols.drop (k+1))]:=Zh rfl (Zh (ZjB A hkl (by omega) _ _ _) nil_of);exact(Xy et).trans (ZE ((Zi (x:=.int p) rfl ((ZN hd2 rfl).trans ih)).trans (UK b1 b2 (by omega) (by omega))))
   have t3:g3 (G6 A cols (some (IL (A.getD (A.length-(f+1)) []))) (some (.int (((List.range k).map (Xh A f cols)).sum))) (some (nD k)) (some (.int (at2 A (A.length-(f+1)) (cols.getD k 0)*lap A f (cols.take k++cols.drop (k+1))))))=some (.nx (G6 A cols (some (IL (A.getD (A.length-(f+1)) []))) (some (.int (((List.range k).map (Xh A f cols)).sum+Xh A f cols k))) (some (nD k)) (some (.int (at2 A (A.length-(f+1)) (cols.getD k 0)*lap A f (cols.take k++cols.drop (k+1))))))):=by
    refine ZE ((Zi (x:=.int (((List.range k).map (Xh A f cols)).sum)) (y:=.int (Xh A f cols k)) rfl ((Zi (x:=.int (at2 A (A.length-(f+1)) (cols.getD k 0)*lap A f (cols.take k++cols.drop (k+1)))) rfl (ZjC A cols k _ _ _)).trans (UF (by omega) (by omega)))).trans (add_int _ _))
   refine⟨G6 A cols (some (IL (A.getD (A.length-(f+1)) []))) (some (.int (((List.range k).map (Xh A f cols)).sum))) (some (nD k)) w5,rfl,_,(Zr t5).trans ((Zr tM).trans t3),some (nD k),some (.int (at2 A (A.length-(f+1)) (cols.getD k 0)*lap A f (cols.take k++cols.drop (k+1)))),?_⟩;rw [List.range_succ,List.map_append,List.sum_append];simp)
  subst e1;rw [J4,Nat.zero_add]at hfor
  have hi:cI (G6 A cols (some (IL (A.getD (A.length-(f+1)) []))) (some (.int 0)) none none)=some (ZO 0 1 (f+1)):=by
   refine(Vw (j:=((f+1:Nat):Int)) (Zh ((ZY (Zh (x:=AD cols) rfl nil_of)).trans (len_lst.trans ?_)) nil_of) (by omega) (by omega)).trans (by rw [Int.toNat_natCast]);rw [List.length_map,hl]
  refine Yi (δ:=G6 A cols none none none none) rfl ?_;rw [Zed,Zr s0,Zr s2,Zr (δ':=G6 A cols (some (IL (A.getD (A.length-(f+1)) []))) (some (.int 0)) none none) (ZE rfl),Zr (YG hi hfor)];exact ZU rfl
theorem ZcP{A:List (List Int)}{Mn e:Nat}(h:Sq Mn e A)(hM:Mn<=4)(he:(e+1)*4<=900):Jc [TD A]=some (.int (lap A Mn (List.range Mn))):=by
 have e0:U4 (Zb (eCB lenD (Zb (Za 0) eNil)) eNil) [some (TD A)]=some (AD (List.range Mn)):=by
  have e1:Zb (eCB lenD (Zb (Za 0) eNil)) eNil [some (TD A)]=some [.int (Mn:Int)]:=Zh ((ZY (Zh (x:=TD A) rfl nil_of)).trans (len_lst.trans (by rw [List.length_map,h.ln]))) nil_of;unfold U4;rw [e1];dsimp only;rw [if_pos ⟨by omega,by omega⟩,Int.toNat_natCast]
 have hd:Zb (Za 0) (Zb (U4 (Zb (eCB lenD (Zb (Za 0) eNil)) eNil)) eNil) [some (TD A)]=some [TD A,AD (List.range Mn)]:=Zh rfl (Zh e0 nil_of);exact Yi (δ:=[some (TD A)]) rfl (ZU ((ZN hd rfl).trans (Zbj h hM he Mn 8 (List.range Mn) List.length_range (Nat.le_refl _) (by omega) λc hc=>List.mem_range.mp hc)))
end K30
namespace K30
open DL L2
theorem Zee(i:Int):Jb [.int i]=some (.bl true):=by
 simp [Jb,f_QB,ZbS,J9,DL.run,DL.runI,Zg,sIf,Zq,QF,sNext,Zj,QI,QP,QR,QG,xB,bD,Yc,QC,xOr,Za,eC,eOp,YC,eOr,Ub,eIf,Xq,Vb,Uc,QD,eUn,Yl,eNil,Zb,Zz,Y4,eCB,lenD,minD,QE,Zo,QQ,QS,QO,eSl,xP,xNoP,addD,subD,Qz,QA,QB,Z5,ixD,isD,eBM,Yv,Ue,kind,plainKinds,Xf,XZ,QZ,U8,U9,Qa,X0,UE,Q0,Q1,Q2,List.lookup,V8,CMul,PySem.sizeLine_eq,List.replicate]
noncomputable def qT:DL.Env->Option Bool:=xB (eOp neD (Za 1) (eC (.int 0)))
noncomputable def qB:DL.Env->Option Out:=(Zg (Zj 2 (eOp modW (Za 0) (Za 1))) (Zg (Zj 0 (Za 1)) (Zj 1 (Za 2))))
def mu:DL.Env->Nat
 | [_,some (.int y),_]=>y.natAbs
 |_=>0
theorem Zhv(a b:Int)(v:Option D):∃δ,Z9 qT qB [some (.int a),some (.int b),v]=some (.nx δ)/\∃x w,δ=[some (.int x),some (.int 0),w]/\x.natAbs=Int.gcd a b:=by
 refine Q3 (λδ=>∃x y v,δ=[some (.int x),some (.int y),v]/\Int.gcd x y=Int.gcd a b) (λδ=>∃x w,δ=[some (.int x),some (.int 0),w]/\x.natAbs=Int.gcd a b) mu ?_ _ ⟨a,b,v,rfl,rfl⟩;intro δ ⟨x,y,v,e,hg⟩;subst e
 by_cases hy:y=0
 · subst hy
   refine .inl ⟨?_,x,v,rfl,?_⟩
   · simp [qT,DL.run,DL.runI,Zg,sIf,Zq,QF,sNext,Zj,QI,QP,QR,QG,xB,bD,Yc,QC,xOr,Za,eC,eOp,YC,eOr,Ub,eIf,Xq,Vb,Uc,QD,eUn,Yl,eNil,Zb,Zz,Y4,eCB,lenD,minD,QE,Zo,QQ,QS,QO,eSl,xP,xNoP,addD,subD,Qz,QA,QB,Z5,ixD,isD,eBM,Yv,Ue,kind,plainKinds,Xf,XZ,QZ,U8,U9,Qa,X0,UE,Q0,Q1,Q2,List.lookup,V8,CMul,PySem.sizeLine_eq,List.replicate]
   · rw [<-hg,Int.gcd_zero_right]
 · refine .inr ⟨?_,[some (.int y),some (.int (x.fmod y)),some (.int (x.fmod y))],?_,⟨y,x.fmod y,_,rfl,?_⟩,?_⟩
   · simp [qT,hy,DL.run,DL.runI,Zg,sIf,Zq,QF,sNext,Zj,QI,QP,QR,QG,xB,bD,Yc,QC,xOr,Za,eC,eOp,YC,eOr,Ub,eIf,Xq,Vb,Uc,QD,eUn,Yl,eNil,Zb,Zz,Y4,eCB,lenD,minD,QE,Zo,QQ,QS,QO,eSl,xP,xNoP,addD,subD,Qz,QA,QB,Z5,ixD,isD,eBM,Yv,Ue,kind,plainKinds,Xf,XZ,QZ,U8,U9,Qa,X0,UE,Q0,Q1,Q2,List.lookup,V8,CMul,PySem.sizeLine_eq,List.replicate]
   · unfold qB
     rw [Zr (ZE (d:=.int (x.fmod y)) ((Zi rfl rfl).trans (Zdt hy)))];rfl
   · rw [ZeK,hg]
   · exact ZeJ hy
theorem ZjD:f_QA=Zg (Z9 qT qB) (Zq (eCB absD (Zb (Za 0) eNil))):=rfl
theorem ZeM(x:Int):(if x<0 then -x else x)=(x.natAbs:Int):=by split<;>omega
theorem Zdy(a b:Int):UG [.int a,.int b]=some (.int (Int.gcd a b:Nat)):=by
 obtain⟨δ,h1,x,w,rfl,h2⟩:=Zhv a b none;show run 3 f_QA _=_;rw [ZjD];unfold run;rw [show([D.int a,D.int b].map some++List.replicate (3 - [D.int a,D.int b].length) none)=[some (.int a),some (.int b),none]from rfl,Zr h1];rw [ZU (d:=.int (Int.gcd a b:Nat))]
 · show some (D.int (if x<0 then -x else x))=_
   rw [ZeM,h2]
theorem reduced{A B:Int}(hB:B≠0)(hw:B.natAbs<=10 ^ 1000):∃c x y:Int,c≠0/\A=c*x/\B=c*y/\0<y/\Int.gcd x y=1/\x.natAbs<=A.natAbs/\y.natAbs<=B.natAbs/\Q6 [.int A,.int B]=some (.tup [.int x,.int y]):=by
 have hg:0<Int.gcd A B:=Int.gcd_pos_of_ne_zero_right _ hB;have hqB:((Int.gcd A B:Nat):Int)∣B:=Int.gcd_dvd_right ..;have hgA:((Int.gcd A B:Nat):Int)∣A:=Int.gcd_dvd_left ..;have hgl:Int.gcd A B<=B.natAbs:=Nat.le_of_dvd (by omega) (Int.natAbs_dvd_natAbs.mpr hqB);have hdiv:=Zdy A B;generalize hG:Int.gcd A B=g at *
 have key:∀c:Int,(c=g\/c = -g)->(0<B ↔ 0<c)->∃x y:Int,A=c*x/\B=c*y/\0<y/\Int.gcd x y=1/\x.natAbs<=A.natAbs/\y.natAbs<=B.natAbs/\A.fdiv c=x/\B.fdiv c=y:=by
  intro c hc hs;have hc0:c≠0:=by omega
  have hca:c.natAbs=g:=by omega
  have d1:c∣A:=hc.elim (λe=>e▸hgA) λe=>e▸Int.neg_dvd.mpr hgA
  have d2:c∣B:=hc.elim (λe=>e▸hqB) λe=>e▸Int.neg_dvd.mpr hqB
  obtain⟨x,hx⟩:=d1;obtain⟨y,hy⟩:=d2;have hy0:y≠0:=by rintro rfl;rw [Int.mul_zero]at hy;exact hB hy
  have hge:g*Int.gcd x y=g:=by
   have:=Int.gcd_mul_left c x y;rw [<-hx,<-hy,hG,hca]at this;exact this.symm
  refine⟨x,y,hx,hy,?_,?_,?_,?_,?_,?_⟩
  · by_cases hB0:0<B
    · have hcp:=hs.mp hB0
      rw [hy]at hB0;exact Int.pos_of_mul_pos_right (by rw [Int.mul_comm]at hB0;first|exact hB0|(rw [Int.mul_comm];exact hB0)) hcp
    · have hcn : c < 0 := by
       have:¬0<c:=λz=>hB0 (hs.mpr z)
       omega
      rcases Int.lt_or_gt_of_ne hy0 with h|h
      · exact absurd (hy▸Int.mul_pos_of_neg_of_neg hcn h) hB0
      · exact h
  · exact Nat.eq_of_mul_eq_mul_left hg (by omega)
  · rw [hx,Int.natAbs_mul];exact Nat.le_mul_of_pos_left _ (by omega)
  · rw [hy,Int.natAbs_mul];exact Nat.le_mul_of_pos_left _ (by omega)
  · rw [hx];exact Int.mul_fdiv_cancel_left _ hc0
  · rw [hy];exact Int.mul_fdiv_cancel_left _ hc0
 have hcall:Zo 2 UG [] (Zb (Za 0) (Zb (Za 1) eNil)) [some (.int A),some (.int B),none]=some (.int g):=(ZN rfl rfl).trans hdiv;have wg:Wd (g:Int):=ZfL (by omega);have wg':Wd (-(g:Int)):=ZfL (by omega);have start:([D.int A,D.int B].map some++List.replicate (3 - [D.int A,D.int B].length) none)=[some (.int A),some (.int B),none]:=rfl
 by_cases hn:B<0
 · obtain⟨x,y,h1,h2,h3,h4,h5,h6,h7,h8⟩:=key (-g) (.inr rfl) (by omega)
   refine⟨-g,x,y,by omega,h1,h2,h3,h4,h5,h6,?_⟩;show run 3 f_QU _=_;unfold run f_QU;rw [start,Zr (ZE hcall),Zr (δ':=[some (.int A),some (.int B),some (.int (-g))])]
   · rw [ZU (d:=.tup [.int x,.int y])]
     refine J6 (ds:=[.int x,.int y]) (Zh ?_ (Zh ?_ rfl)) (by simp)
     · rw [Zi (x:=.int A) (y:=.int (-g)) rfl rfl,Q4 (by omega) wg',h7]
     · rw [Zi (x:=.int B) (y:=.int (-g)) rfl rfl,Q4 (by omega) wg',h8]
   · rw [Xy (ZH (b:=true) _)]
     · rfl
     · show some (D.bl (decide (B<0)))=_
       rw [decide_eq_true hn]
 · obtain⟨x,y,h1,h2,h3,h4,h5,h6,h7,h8⟩:=key g (.inl rfl) (by omega)
   refine⟨g,x,y,by omega,h1,h2,h3,h4,h5,h6,?_⟩;show run 3 f_QU _=_;unfold run f_QU;rw [start,Zr (ZE hcall),Zr (δ':=[some (.int A),some (.int B),some (.int g)])]
   · rw [ZU (d:=.tup [.int x,.int y])]
     refine J6 (ds:=[.int x,.int y]) (Zh ?_ (Zh ?_ rfl)) (by simp)
     · rw [Zi (x:=.int A) (y:=.int g) rfl rfl,Q4 (by omega) wg,h7]
     · rw [Zi (x:=.int B) (y:=.int g) rfl rfl,Q4 (by omega) wg,h8]
   · rw [YB (ZH (b:=false) _)]
     · rfl
     · show some (D.bl (decide (B<0)))=_
       rw [decide_eq_false hn]
end K30
namespace K30
open DL L2
theorem bd3{e:Nat}{x y z:Int}(h1:Bd e x)(h2:Bd e y)(h3:Bd e z):Bd (e+1) (x-y+z):=by
 unfold Bd at *;have:=Int.natAbs_sub_le x y;have:=Int.natAbs_add_le (x-y) z;rw [Nat.pow_succ];omega
theorem bd4{e:Nat}{x y z w:Int}(h1:Bd e x)(h2:Bd e y)(h3:Bd e z)(h4:Bd e w):Bd (e+1) (x-y+z-w):=by
 unfold Bd at *;have:=Int.natAbs_sub_le x y;have:=Int.natAbs_add_le (x-y) z;have:=Int.natAbs_sub_le (x-y+z) w;rw [Nat.pow_succ];omega
section
variable{b:Mt}(hb:∀i c,Bd 31 (b i c))
include hb
theorem Jh(r s p q:Nat):Bd 63 (e2 b r s p q):=Bd.sub ((hb _ _).mul (hb _ _)) ((hb _ _).mul (hb _ _))
theorem Qj(r s t p q u:Nat):Bd 95 (e3 b r s t p q u):=bd3 ((hb _ _).mul (Jh hb _ _ _ _)) ((hb _ _).mul (Jh hb _ _ _ _)) ((hb _ _).mul (Jh hb _ _ _ _))
theorem ZgY(r s t v p q u w:Nat):Bd 127 (e4 b r s t v p q u w):=bd4 ((hb _ _).mul (Qj hb _ _ _ _ _ _)) ((hb _ _).mul (Qj hb _ _ _ _ _ _)) ((hb _ _).mul (Qj hb _ _ _ _ _ _)) ((hb _ _).mul (Qj hb _ _ _ _ _ _))
theorem Ji(p i c:Nat):Bd 127 (Mn p b i c):=by
 unfold Mn
 split<;>first|exact(hb _ _).mono (by decide)|exact(Jh hb _ _ _ _).mono (by decide)|exact(Qj hb _ _ _ _ _ _).mono (by decide)|exact ZgY hb _ _ _ _ _ _ _ _|exact Bd.zdet
theorem ZfO(p:Nat):Bd 127 (dm p b):=by
 unfold dm
 split<;>first|exact(hb _ _).mono (by decide)|exact(Jh hb _ _ _ _).mono (by decide)|exact(Qj hb _ _ _ _ _ _).mono (by decide)|exact ZgY hb _ _ _ _ _ _ _ _|exact Bd.zdet|exact(show(1:Int).natAbs<=10 ^ 127 by decide)
end
def piS(p q i:Nat):Nat:=if i=p then q else if i=q then p else i
theorem Zkh(b:Mt)(p q i c:Nat)(hp:p<4)(hq:q<4)(hi:i<4)(hpq:p<=q):Mn p (swR b p q) i c=Mn p b (piS p q i) c:=by
 rcases l4 hp with rfl|rfl|rfl|rfl<;>rcases l4 hq with rfl|rfl|rfl|rfl<;>first|(exfalso;omega)|(rcases l4 hi with rfl|rfl|rfl|rfl<;>rfl)
theorem ZkJ(b:Mt)(p q:Nat)(hp:p<4)(hq:q<4)(hpq:p<=q):dm p (swR b p q)=dm p b:=by
 rcases l4 hp with rfl|rfl|rfl|rfl<;>rcases l4 hq with rfl|rfl|rfl|rfl<;>first|(exfalso;omega)|rfl
def Rw(m p:Nat)(b:Mt)(i:Nat):List Int:=(List.range (m+1-p)).map λc=>Mn p b i (c+p)
def RR(m p:Nat)(b:Mt)(k:Nat):List (List Int):=(List.range k).map (Rw m p b)
theorem Zc4(m p:Nat)(b:Mt)(i:Nat):(Rw m p b i).length=m+1-p:=by unfold Rw;rw [List.length_map,List.length_range]
theorem Zc5(m p:Nat)(b:Mt)(k:Nat):(RR m p b k).length=k:=by unfold RR;rw [List.length_map,List.length_range]
theorem ZkK{m p:Nat}(b:Mt)(i:Nat)(hp:p<=m):(Rw m p b i).getD 0 0=Mn p b i p:=by
 unfold Rw;rw [show m+1-p=(m-p)+1 by omega,List.range_succ_eq_map,List.map_cons];show Mn p b i (0+p)=_;rw [Nat.zero_add]
theorem Zcn{α:Type}(n:Nat)(f:Nat->α):((List.range (n+1)).map f).drop 1=(List.range n).map λc=>f (c+1):=by
 rw [List.range_succ_eq_map,List.map_cons,List.drop_succ_cons,List.drop_zero,List.map_map];rfl
theorem Jj{m p:Nat}{b:Mt}{k i:Nat}(hi:i<k):ixD (TD (RR m p b k)) (nD i)=some (IL (Rw m p b i)):=Q5 (by
 unfold RR;rw [List.getElem?_map,List.getElem?_map,List.getElem?_range hi];rfl)
theorem Jk{m p:Nat}{b:Mt}{i:Nat}(hp:p<=m):ixD (IL (Rw m p b i)) (.int 0)=some (.int (Mn p b i p)):=by
 rw [ix0 (by rw [Zc4];omega),ZkK b i hp]
theorem fdx{x y z:Int}(hy:y≠0)(h:x=y*z):x.fdiv y=z:=by
 rw [h,Int.mul_fdiv_cancel_left _ hy]
theorem Zbk{α:Type}{γ:D->DL.Env->Option DL.Env}{τ:DL.Env->Option Bool}{ε:DL.Env->Option D}{δ0:DL.Env}(g:α->D)(p:α->Bool):∀(xs:List α),(∀x∈xs,∃δ1,γ (g x) δ0=some δ1/\τ δ1=some (p x)/\ε δ1=some (g x))->Z3 γ τ ε δ0 (xs.map g)=some ((xs.filter p).map g)
 | [],_=>rfl
 |x::xs,h=>by
  obtain⟨δ1,h1,h2,h3⟩:=h x List.mem_cons_self;have ih:=Zbk g p xs λy hy=>h y (List.mem_cons_of_mem _ hy)
  rw [List.map_cons];unfold Z3;rw [h1];dsimp only;rw [h2];cases hp:p x with
  |false=>rw [List.filter_cons_of_neg (by simp [hp])];exact ih
  |true=>
   rw [List.filter_cons_of_pos hp,List.map_cons];dsimp only;rw [h3,ih]
noncomputable def tT:DL.Env->Option Bool:=(xB (eOp neD (eOp ixD (eOp ixD (Za 1) (Za 0)) (eC (.int 0))) (eC (.int 0))))
noncomputable def tF:DL.Env->Option D:=(ZV (ZI (Zb (Za 1) (Zb (eCB lenD (Zb (Za 0) eNil)) eNil))) (Zs 0) tT (Za 0) 1 [0])
noncomputable def tR:DL.Env->Option D:=(eIf (xB (eOp (Z5 λi j=>decide (j<i)) (eCB lenD (Zb (Za 2) eNil)) (eC (.int 0)))) (eOp ixD (Za 2) (eC (.int 0))) (eC .non))
theorem Zdz:f_QK=Zg (Zj 2 tF) (Zq tR):=rfl
theorem Zgh{m p:Nat}(b:Mt)(hm:m<=4)(hp:p<m):(Q7 [TD (RR m p b m),nD p]=some .non/\∀i,p<=i->i<m->Mn p b i p=0)\/∃q,p<=q/\q<m/\Mn p b q p≠0/\Q7 [TD (RR m p b m),nD p]=some (nD q):=by
 have hi:ZI (Zb (Za 1) (Zb (eCB lenD (Zb (Za 0) eNil)) eNil)) [some (TD (RR m p b m)),some (nD p),none]=some ((List.range' p (m-p)).map nD):=by
  have e1:ZI (Zb (Za 1) (Zb (eCB lenD (Zb (Za 0) eNil)) eNil)) [some (TD (RR m p b m)),some (nD p),none]=some (ZO p 1 (m-p)):=by
   refine(Zc2 (i:=(p:Int)) (j:=(m:Int)) (Zh rfl (Zh ((ZY (Zh (x:=TD (RR m p b m)) rfl nil_of)).trans (len_lst.trans ?_)) nil_of)) (by omega) (by omega) (by omega) (by omega)).trans (by rw [show((m:Int)-p).toNat=m-p by omega]);rw [List.length_map,Zc5]
  rw [e1];unfold ZO;rw [List.range'_eq_map_range,List.map_map];refine congrArg some (List.map_congr_left λk _ => ?_);show D.int ((p:Int)+(k:Int)*1)=D.int ((p+k:Nat):Int);exact congrArg D.int (by omega)
 have hc:Z3 (Zs 0) tT (Za 0) [none,some (TD (RR m p b m))] ((List.range' p (m-p)).map nD)=some (((List.range' p (m-p)).filter λi => !decide (Mn p b i p=0)).map nD):=Zbk nD (λi => !decide (Mn p b i p=0)) _ λi hi=>⟨[some (nD i),some (TD (RR m p b m))],rfl,by
  obtain⟨j,hj,rfl⟩:=List.mem_range'.mp hi;exact ZH ((Zi (y:=.int 0) ((Zi (y:=.int 0) ((Zi (x:=TD (RR m p b m)) (y:=nD (p+1*j)) rfl rfl).trans (Jj (by omega))) rfl).trans (Jk (by omega))) rfl).trans (X0 _ _)),rfl⟩
 have hl:((List.range' p (m-p)).filter λi => !decide (Mn p b i p=0)).length<=m-p:=by
  have:=List.length_filter_le (λi => !decide (Mn p b i p=0)) (List.range' p (m-p))
  rwa [List.length_range']at this
 have hmem:∀i,i∈((List.range' p (m-p)).filter λi => !decide (Mn p b i p=0)) ↔ (p<=i/\i<m)/\Mn p b i p≠0:=λi=>by
  rw [List.mem_filter,List.mem_range'_1];simp;omega
 generalize ((List.range' p (m-p)).filter λi => !decide (Mn p b i p=0))=fit at *;have t1:Zj 2 tF [some (TD (RR m p b m)),some (nD p),none]=some (.nx [some (TD (RR m p b m)),some (nD p),some (AD fit)]):=ZE (YX hi rfl hc (by rw [List.length_map];omega));cases fit with
 |nil=>
  refine .inl ⟨Yi (δ:=[some (TD (RR m p b m)),some (nD p),none]) rfl ?_,λi h1 h2 => ?_⟩
  · rw [Zdz,Zr t1]
    exact ZU rfl
  · refine Classical.byContradiction λhz => ?_
    exact absurd ((hmem i).mpr ⟨⟨h1,h2⟩,hz⟩) (List.not_mem_nil)
 |cons q fit=>
  obtain⟨⟨h1,h2⟩,h3⟩:=(hmem q).mp List.mem_cons_self;refine .inr ⟨q,h1,h2,h3,Yi (δ:=[some (TD (RR m p b m)),some (nD p),none]) rfl ?_⟩;rw [Zdz,Zr t1];refine ZU ?_;have et:xB (eOp (Z5 λi j=>decide (j<i)) (eCB lenD (Zb (Za 2) eNil)) (eC (.int 0))) [some (TD (RR m p b m)),some (nD p),some (AD (q::fit))]=some true:=ZH ((Zi (x:=.int (((q::fit).map nD).length:Int)) (y:=.int 0) ((ZY (Zh (x:=AD (q::fit)) rfl nil_of)).trans len_lst) rfl).trans (show some (D.bl (decide ((0:Int)<(((q::fit).map nD).length:Int))))=some (.bl true) by rw [decide_eq_true (by rw [List.length_map,List.length_cons];omega)]))
  unfold tR eIf;rw [et];exact(Zi (x:=AD (q::fit)) (y:=nD 0) rfl rfl).trans (ZfN (by rw [List.length_cons];omega))
theorem ZbH{xs:List D}:Y5 [.lst xs]=some (.lst xs):=rfl
theorem ZbI{i:Nat}{κ ε:DL.Env->Option D}{δ:DL.Env}{xs:List D}{k:Nat}{x:D}(hk:k<xs.length)(hv:Za i δ=some (.lst xs))(h1:κ δ=some (nD k))(h2:ε δ=some x):YV i κ ε δ=some (.nx (δ.set i (some (.lst (xs.set k x))))):=by
 unfold YV;rw [h2,hv,h1];dsimp only;rw [Zdv hk]
theorem Zef{α:Type}(m p q:Nat)(f:Nat->α)(hp:p<m)(hq:q<m):(((List.range m).map f).set q (f p)).set p (f q)=(List.range m).map λi=>f (piS p q i):=by
 apply List.ext_getElem?;intro i
 by_cases hi:i<m
 · have e2:((List.range m).map λi=>f (piS p q i))[i]? = some (f (piS p q i)):=by rw [List.getElem?_map,List.getElem?_range hi];rfl
   rw [e2];unfold piS
   by_cases h1:i=p
   · subst h1
     rw [if_pos rfl,List.getElem?_set_self (by rw [List.length_set,List.length_map,List.length_range];exact hi)]
   · rw [if_neg h1,List.getElem?_set_ne (λz=>h1 z.symm)]
     by_cases h2:i=q
     · subst h2
       rw [if_pos rfl,List.getElem?_set_self (by rw [List.length_map,List.length_range];exact hi)]
     · rw [if_neg h2,List.getElem?_set_ne (λz=>h2 z.symm),List.getElem?_map,List.getElem?_range hi]
       rfl
 · rw [List.getElem?_eq_none (by rw [List.length_set,List.length_set,List.length_map,List.length_range];omega),List.getElem?_eq_none (by rw [List.length_map,List.length_range];omega)]
theorem Zgi{m p q:Nat}(b:Mt)(hm:m<=4)(hp:p<m)(hq:q<m)(hpq:p<=q):Q8 [TD (RR m p b m),nD q,nD p]=some (TD (RR m p (swR b p q) m)):=by
 have hl:((RR m p b m).map IL).length=m:=by rw [List.length_map,Zc5]
 have t1:Zj 3 (eCB Y5 (Zb (Za 0) eNil)) [some (TD (RR m p b m)),some (nD q),some (nD p),none]=some (.nx [some (TD (RR m p b m)),some (nD q),some (nD p),some (TD (RR m p b m))]):=ZE ((ZY (Zh (x:=TD (RR m p b m)) rfl nil_of)).trans ZbH);have t2:YV 3 (Za 1) (eOp ixD (Za 0) (Za 2)) [some (TD (RR m p b m)),some (nD q),some (nD p),some (TD (RR m p b m))]=some (.nx [some (TD (RR m p b m)),some (nD q),some (nD p),some (.lst (((RR m p b m).map IL).set q (IL (Rw m p b p))))]):=ZbI (k:=q) (by rw [hl];exact hq) rfl rfl ((Zi (x:=TD (RR m p b m)) (y:=nD p) rfl rfl).trans (Jj hp))
 have t3:YV 3 (Za 2) (eOp ixD (Za 0) (Za 1)) [some (TD (RR m p b m)),some (nD q),some (nD p),some (.lst (((RR m p b m).map IL).set q (IL (Rw m p b p))))]=some (.nx [some (TD (RR m p b m)),some (nD q),some (nD p),some (.lst ((((RR m p b m).map IL).set q (IL (Rw m p b p))).set p (IL (Rw m p b q))))]):=ZbI (k:=p) (by rw [List.length_set,hl];exact hp) rfl rfl ((Zi (x:=TD (RR m p b m)) (y:=nD q) rfl rfl).trans (Jj hq))
 have e:(((RR m p b m).map IL).set q (IL (Rw m p b p))).set p (IL (Rw m p b q))=(RR m p (swR b p q) m).map IL:=by
  unfold RR;rw [List.map_map,List.map_map];rw [show IL (Rw m p b p)=(IL∘Rw m p b) p from rfl,show IL (Rw m p b q)=(IL∘Rw m p b) q from rfl,Zef m p q (IL∘Rw m p b) hp hq];refine List.map_congr_left λi hi => ?_
  have hi:=List.mem_range.mp hi;show IL (Rw m p b (piS p q i))=IL (Rw m p (swR b p q) i);unfold Rw;refine congrArg IL (List.map_congr_left λc _ => ?_);exact(Zkh b p q i (c+p) (by omega) (by omega) (by omega) hpq).symm
 refine Yi (δ:=[some (TD (RR m p b m)),some (nD q),some (nD p),none]) rfl ?_;show(Zg _ (Zg _ (Zg _ _))) _=_;rw [Zr t1,Zr t2,Zr t3,e];exact ZU rfl
end K30
namespace K30
open DL L2
theorem ZeN(m:Nat)(f:Nat->D):XT 0 ((List.range m).map f)=(List.range m).map λi => .tup [nD i,f i]:=by
 apply List.ext_getElem?;intro i;rw [Zav,List.getElem?_map,List.getElem?_map,Nat.zero_add]
 by_cases hi:i<m
 · rw [List.getElem?_range hi];rfl
 · rw [List.getElem?_eq_none (by rw [List.length_range];omega)];rfl
noncomputable def cE:DL.Env->Option D:=(eOp fdivW (eOp subD (eOp mulX (eOp ixD (Za 2) (eC (.int 0))) (Za 0)) (eOp mulX (eOp ixD (Za 3) (eC (.int 0))) (Za 1))) (Za 4))
noncomputable def cX:DL.Env->Option D:=(ZV (Z2 (eSl (Za 7) (xP (eC (.int 1))) xNoP)) (YR 2 (Z8 0 (Z8 1 gsNil))) (λ_=>some true) cE 2 [3,6,2])
noncomputable def cB:DL.Env->Option Out:=(sIf (xB (eOp eqD (Za 5) (Za 1))) (Z7 4 (eSl (Za 6) (xP (eC (.int 1))) xNoP)) (Zg (Zj 7 (QX (Za 6) (Za 3))) (Z7 4 cX)))
noncomputable def cG:D->DL.Env->Option DL.Env:=(YR 2 (Z8 5 (Z8 6 gsNil)))
theorem ZeO:f_QW=Zg (Zj 3 (eOp ixD (Za 0) (Za 1))) (Zg (Zj 4 (Zz eNil)) (Zg (ZQ (QU 0 (Za 0)) cG cB) (Zq (Za 4)))):=rfl
abbrev C8(R:List (List Int))(p:Nat)(d:Int)(v3 v4 v5 v6 v7:Option D):DL.Env:=[some (TD R),some (nD p),some (.int d),v3,v4,v5,v6,v7]
section
variable{m p:Nat}{b:Mt}
theorem ZjE(hb:∀i c,Bd 31 (b i c))(hm:m<=4)(hp:p<m)(hd:dm p b≠0){i:Nat}(hi:i<m)(hn:i≠p)(c:Nat):cE [some (.int (Mn p b i c)),some (.int (Mn p b p c)),some (IL (Rw m p b p)),some (IL (Rw m p b i)),some (.int (dm p b))]=some (.int (Mn (p+1) b i c)):=by
 have h1:eOp mulX (eOp ixD (Za 2) (eC (.int 0))) (Za 0) [some (.int (Mn p b i c)),some (.int (Mn p b p c)),some (IL (Rw m p b p)),some (IL (Rw m p b i)),some (.int (dm p b))]=some (.int (Mn p b p p*Mn p b i c)):=(Zi (y:=.int (Mn p b i c)) ((Zi (x:=IL (Rw m p b p)) (y:=.int 0) rfl rfl).trans (Jk (by omega))) rfl).trans (UK (Ji hb _ _ _) (Ji hb _ _ _) (by decide) (by decide));have h2:eOp mulX (eOp ixD (Za 3) (eC (.int 0))) (Za 1) [some (.int (Mn p b i c)),some (.int (Mn p b p c)),some (IL (Rw m p b p)),some (IL (Rw m p b i)),some (.int (dm p b))]=some (.int (Mn p b i p*Mn p b p c)):=(Zi (y:=.int (Mn p b p c)) ((Zi (x:=IL (Rw m p b i)) (y:=.int 0) rfl rfl).trans (Jk (by omega))) rfl).trans (UK (Ji hb _ _ _) (Ji hb _ _ _) (by decide) (by decide))
 refine(Zi (y:=.int (dm p b)) ((Zi h1 h2).trans (Qh _ _)) rfl).trans ((Us (ZfO hb p) (by decide) hd).trans ?_);have hs:=Jg p (by omega) b i (by omega) hn c;rw [<-frM p (by omega) b]at hs;rw [fdx hd hs]
theorem ZjF(hb:∀i c,Bd 31 (b i c))(hm:m<=4)(hp:p<m)(hd:dm p b≠0){i:Nat}(hi:i<m)(hn:i≠p)(R:List (List Int))(v4 v5:Option D):cX (C8 R p (dm p b) (some (IL (Rw m p b p))) v4 v5 (some (IL (Rw m p b i))) (some (.lst (((Rw m p b i).zip (Rw m p b p)).map prD))))=some (IL (Rw m (p+1) b i)):=by
 have hz:((Rw m p b i).zip (Rw m p b p)).map prD=(List.range (m-p+1)).map λc=>prD (Mn p b i (c+p),Mn p b p (c+p)):=by
  unfold Rw;rw [List.zip_map',List.map_map,show m+1-p=m-p+1 by omega];rfl
 have hc:Z3 (YR 2 (Z8 0 (Z8 1 gsNil))) (λ_=>some true) cE [none,none,some (IL (Rw m p b p)),some (IL (Rw m p b i)),some (.int (dm p b))] ((List.range (m-p)).map λc=>prD (Mn p b i (c+1+p),Mn p b p (c+1+p)))=some ((List.range (m-p)).map λc=>D.int (Mn (p+1) b i (c+1+p))):=XA (λc=>prD (Mn p b i (c+1+p),Mn p b p (c+1+p))) (λc=>D.int (Mn (p+1) b i (c+1+p))) _ λc _=>⟨[some (.int (Mn p b i (c+1+p))),some (.int (Mn p b p (c+1+p))),some (IL (Rw m p b p)),some (IL (Rw m p b i)),some (.int (dm p b))],rfl,ZjE hb hm hp hd hi hn _⟩
 refine(YX (xs:=(List.range (m-p)).map λc=>prD (Mn p b i (c+1+p),Mn p b p (c+1+p))) (Xz ((Zfm (xs:=(List.range (m-p+1)).map λc=>prD (Mn p b i (c+p),Mn p b p (c+p))) (by rw [<-hz];rfl) (by rw [List.length_map,List.length_range];omega)).trans (by rw [Zcn]))) rfl hc (by rw [List.length_map,List.length_range];omega)).trans ?_;unfold Rw;rw [IL,List.map_map,show m+1-(p+1)=m-p by omega]
 refine congrArg (λz=>some (D.lst z)) (List.map_congr_left λc _ => ?_);show D.int (Mn (p+1) b i (c+1+p))=D.int (Mn (p+1) b i (c+(p+1)));rw [show c+1+p=c+(p+1) by omega]
theorem Zhw(hm:m<=4)(hp:p<m):(Rw m p b p).drop 1=Rw m (p+1) b p:=by
 unfold Rw;rw [show m+1-p=m-p+1 by omega,Zcn,show m+1-(p+1)=m-p by omega];refine List.map_congr_left λc _ => ?_
 rw [ZfM p (by omega),show c+1+p=c+(p+1) by omega]
theorem ZeP(hb:∀i c,Bd 31 (b i c))(hm:m<=4)(hp:p<m)(hd:dm p b≠0):ZhR [TD (RR m p b m),nD p,.int (dm p b)]=some (TD (RR m (p+1) b m)):=by
 have hiot:QU 0 (Za 0) (C8 (RR m p b m) p (dm p b) (some (IL (Rw m p b p))) (some (TD [])) none none none)=some ((List.range m).map λi => .tup [nD i,IL (Rw m p b i)]):=by
  have e:(RR m p b m).map IL=(List.range m).map λi=>IL (Rw m p b i):=by unfold RR;rw [List.map_map];rfl
  show some (XT 0 ((RR m p b m).map IL))=_;rw [e,ZeN]
 obtain⟨δ',g,w5,w6,w7,e1⟩:=X1 (γ:=cG) (φ:=cB) (λk δ=>∃w5 w6 w7,δ=C8 (RR m p b m) p (dm p b) (some (IL (Rw m p b p))) (some (TD (RR m (p+1) b k))) w5 w6 w7) ((List.range m).map λi => .tup [nD i,IL (Rw m p b i)]) 0 (C8 (RR m p b m) p (dm p b) (some (IL (Rw m p b p))) (some (TD [])) none none none) ⟨none,none,none,rfl⟩ (by
  rintro k d δ hdd ⟨w5,w6,w7,rfl⟩
  rw [Nat.zero_add]
  have hk:k<m:=by
   have:=(List.getElem?_eq_some_iff.mp hdd).1
   rwa [List.length_map,List.length_range]at this
  rw [List.getElem?_map,List.getElem?_range hk]at hdd;cases hdd;have hl:((RR m (p+1) b k).map IL).length<1000:=by rw [List.length_map,Zc5];omega
  have em:(RR m (p+1) b k).map IL++[IL (Rw m (p+1) b k)]=(RR m (p+1) b (k+1)).map IL:=by
   unfold RR;rw [List.range_succ,List.map_append,List.map_append];rfl
  refine⟨C8 (RR m p b m) p (dm p b) (some (IL (Rw m p b p))) (some (TD (RR m (p+1) b k))) (some (nD k)) (some (IL (Rw m p b k))) w7,rfl,?_⟩;have et:∀w7,xB (eOp eqD (Za 5) (Za 1)) (C8 (RR m p b m) p (dm p b) (some (IL (Rw m p b p))) (some (TD (RR m (p+1) b k))) (some (nD k)) (some (IL (Rw m p b k))) w7)=some (decide ((k:Int)=(p:Int))):=λw7=>ZH ((Zi (x:=nD k) (y:=nD p) rfl rfl).trans (Xf _ _))
  by_cases hkp:k=p
  · subst hkp
    have e6:eSl (Za 6) (xP (eC (.int 1))) xNoP (C8 (RR m k b m) k (dm k b) (some (IL (Rw m k b k))) (some (TD (RR m (k+1) b k))) (some (nD k)) (some (IL (Rw m k b k))) w7)=some (IL (Rw m (k+1) b k)):=(Zfm (xs:=(Rw m k b k).map D.int) rfl (by rw [List.length_map,Zc4];omega)).trans (by rw [<-List.map_drop,Zhw hm hp]);refine⟨_,(Xy (by rw [et,decide_eq_true rfl])).trans (Vx (xs:=(RR m (k+1) b k).map IL) rfl e6 (by omega)),some (nD k),some (IL (Rw m k b k)),w7,?_⟩
    rw [em];rfl
  · have e7 : Zj 7 (QX (Za 6) (Za 3)) (C8 (RR m p b m) p (dm p b) (some (IL (Rw m p b p))) (some (TD (RR m (p + 1) b k))) (some (nD k)) (some (IL (Rw m p b k))) w7) = some (.nx (C8 (RR m p b m) p (dm p b) (some (IL (Rw m p b p))) (some (TD (RR m (p + 1) b k))) (some (nD k)) (some (IL (Rw m p b k))) (some (.lst (((Rw m p b k).zip (Rw m p b p)).map prD))))) := by
     refine ZE ?_;show(if((Rw m p b k).map D.int).length<=PySem.sizeLine then some (D.lst (Ym ((Rw m p b k).map D.int) ((Rw m p b p).map D.int)))else none)=_;rw [if_pos (by rw [PySem.sizeLine_eq,List.length_map,Zc4];omega),Zbi]
    refine⟨_,(YB (by rw [et,decide_eq_false (by omega)])).trans ((Zr e7).trans (Vx (xs:=(RR m (p+1) b k).map IL) rfl (ZjF hb hm hp hd hk hkp _ _ _) (by omega))),some (nD k),some (IL (Rw m p b k)),some (.lst (((Rw m p b k).zip (Rw m p b p)).map prD)),?_⟩;rw [em];rfl)
 subst e1;rw [List.length_map,List.length_range,Nat.zero_add]at g;refine Yi (δ:=C8 (RR m p b m) p (dm p b) none none none none none) rfl ?_;have t1:Zj 3 (eOp ixD (Za 0) (Za 1)) (C8 (RR m p b m) p (dm p b) none none none none none)=some (.nx (C8 (RR m p b m) p (dm p b) (some (IL (Rw m p b p))) none none none none)):=ZE ((Zi (x:=TD (RR m p b m)) (y:=nD p) rfl rfl).trans (Jj hp));have t2:Zj 4 (Zz eNil) (C8 (RR m p b m) p (dm p b) (some (IL (Rw m p b p))) none none none none)=some (.nx (C8 (RR m p b m) p (dm p b) (some (IL (Rw m p b p))) (some (TD [])) none none none)):=ZE rfl
 rw [ZeO,Zr t1,Zr t2,Zr (YG hiot g)];exact ZU rfl
end
end K30
namespace K30
open DL L2
theorem ZdA{γ:D->DL.Env->Option DL.Env}{φ:DL.Env->Option Out}(I:Nat->DL.Env->Prop)(Rp:D->Prop):∀(xs:List D)(k:Nat)(δ:DL.Env),I k δ ->
 (∀(j:Nat)(x:D)(δ:DL.Env),xs[j]? = some x->I (k+j) δ->∃δ1,γ x δ=some δ1/\((∃δ2,φ δ1=some (.nx δ2)/\I (k+j+1) δ2)\/∃d,φ δ1=some (.rt d)/\Rp d))->(∃δ',Yz γ φ xs δ=some (.nx δ')/\I (k+xs.length) δ')\/∃d,Yz γ φ xs δ=some (.rt d)/\Rp d
 | [],k,δ,h,_ => .inl ⟨δ,rfl,h⟩
 |x::xs,k,δ,h,st=>by
  obtain⟨δ1,h1,h2⟩:=st 0 x δ rfl h;unfold Yz;rw [h1];dsimp only;rcases h2 with⟨δ2,h3,h4⟩|⟨d,h3,h4⟩
  · rw [h3]
    have:=ZdA I Rp xs (k+1) δ2 h4 λj y δ hy hI=>by
     have:=st (j+1) y δ hy (by rw [show k+(j+1)=k+1+j by omega];exact hI);rw [show k+(j+1)=k+1+j by omega]at this;exact this
    rw [show k+1+xs.length=k+(x::xs).length by rw [List.length_cons];omega]at this;exact this
  · rw [h3]
    exact .inr ⟨d,rfl,h4⟩
def b0(T:List (List Int))(R:List Int)(m:Nat):Mt:=λi j=>if j=m then R.getD i 0 else at2 T i j
structure Tb(m:Nat)(T:List (List Int))(R:List Int):Prop where
 m1:1<=m
 m4:m<=4
 sq:Sq m 31 T
 rl:R.length=m
 rb:∀x∈R,Bd 31 x
theorem ZbX{α:Type}(z:α)(l:List α):(List.range l.length).map (λj=>l.getD j z)=l:=by
 refine List.ext_getElem (by rw [List.length_map,List.length_range]) λi h1 h2 => ?_
 rw [List.getElem_map,List.getElem_range,List.getD_eq_getElem?_getD,List.getElem?_eq_getElem h2];rfl
theorem ZdB{l:List Int}{e:Nat}(h:∀x∈l,Bd e x)(i:Nat):Bd e (l.getD i 0):=by
 by_cases hi:i<l.length
 · exact h _ (ZbU hi)
 · rw [List.getD_eq_getElem?_getD,List.getElem?_eq_none (by omega)]
   exact Bd.zdet
theorem Zbl{α:Type}(f g:α->D):∀l:List α,Ym (l.map f) (l.map g)=l.map λx => .tup [f x,g x]
 | []=>rfl
 |x::l=>by rw [List.map_cons,List.map_cons,Ym,Zbl f g l,List.map_cons]
section
variable{m:Nat}{T:List (List Int)}{R:List Int}
theorem ZjG(h:Tb m T R)(i c:Nat):Bd 31 (b0 T R m i c):=by
 unfold b0
 split
 · exact ZdB h.rb i
 · unfold at2
   by_cases hi:i<m
   · exact ZdB (h.sq.bd _ (h.sq.row hi).2) c
   · rw [show T.getD i []=[] by rw [List.getD_eq_getElem?_getD,List.getElem?_eq_none (by rw [h.sq.ln];omega)];rfl]
     exact Bd.zdet
theorem ZkL(h:Tb m T R){i:Nat}(hi:i<m):T.getD i []++[R.getD i 0]=Rw m 0 (b0 T R m) i:=by
 have hl:=h.sq.rw _ (h.sq.row hi).2;unfold Rw;rw [show m+1-0=m+1 by omega,List.range_succ,List.map_append]
 have e1:(List.range m).map (λc=>Mn 0 (b0 T R m) i (c+0))=T.getD i []:=by
  have:=ZbX 0 (T.getD i []);rw [hl]at this;rw [<-this];refine List.map_congr_left λc hc => ?_
  have hc:=List.mem_range.mp hc;show(if c=m then _ else _)=_;rw [if_neg (by omega)];rfl
 have e2:[m].map (λc=>Mn 0 (b0 T R m) i (c+0))=[R.getD i 0]:=by
  show [if m=m then R.getD i 0 else _]=_;rw [if_pos rfl]
 rw [e1,e2]
noncomputable def sE:DL.Env->Option D:=(eOp addX (eCB Y5 (Zb (Za 0) eNil)) (Zz (Zb (Za 1) eNil)))
noncomputable def sC:DL.Env->Option D:=(ZV (XX (Za 0) (Za 1)) (YR 2 (Z8 0 (Z8 1 gsNil))) (λ_=>some true) sE 2 [])
noncomputable def s5:DL.Env->Option Out:=(Zj 5 (Zo 2 Q7 [] (Zb (Za 2) (Zb (Za 4) eNil))))
noncomputable def s6:DL.Env->Option Out:=(sIf (xB (Xq (Za 5))) (Zq (eC .non)) sNext)
noncomputable def s7:DL.Env->Option Out:=(Zj 6 (eOp ixD (eOp ixD (Za 2) (Za 5)) (eC (.int 0))))
noncomputable def s8:DL.Env->Option Out:=(Zj 2 (Zo 3 ZhR [] (Zb (Zo 3 Q8 [] (Zb (Za 2) (Zb (Za 5) (Zb (Za 4) eNil)))) (Zb (Za 4) (Zb (Za 3) eNil)))))
noncomputable def sB:DL.Env->Option Out:=(Zg s5 (Zg s6 (Zg s7 (Zg s8 (Zj 3 (Za 6))))))
noncomputable def sR:DL.Env->Option D:=(Zo 2 Q6 [] (Zb (eOp ixD (Za 0) (eC (.int 0))) (Zb (Za 1) eNil)))
noncomputable def sZ:DL.Env->Option D:=(ZV (Z2 (Za 2)) (Zs 0) (λ_=>some true) sR 1 [3])
theorem Zbm:f_QX=Zg (Zj 2 sC) (Zg (Zj 3 (eC (.int 1))) (Zg (ZQ (ZI (Zb (eCB lenD (Zb (Za 0) eNil)) eNil)) (Zs 4) sB) (Zq sZ))):=rfl
abbrev S7(T:List (List Int))(R:List Int)(v2 v3 v4 v5 v6:Option D):DL.Env:=[some (TD T),some (IL R),v2,v3,v4,v5,v6]
theorem ZjH(h:Tb m T R):sC (S7 T R none none none none none)=some (TD (RR m 0 (b0 T R m) m)):=by
 have hm:=h.m4
 have eT:T.map IL=(List.range m).map λi=>IL (T.getD i []):=by
  have:=ZbX [] T;rw [h.sq.ln]at this
  conv=>lhs;rw [<-this]
  rw [List.map_map];rfl
 have eR:R.map D.int=(List.range m).map λi=>D.int (R.getD i 0):=by
  have:=ZbX 0 R;rw [h.rl]at this
  conv=>lhs;rw [<-this]
  rw [List.map_map];rfl
 have hi:XX (Za 0) (Za 1) (S7 T R none none none none none)=some ((List.range m).map λi => .tup [IL (T.getD i []),D.int (R.getD i 0)]):=by
  show some (Ym (T.map IL) (R.map D.int))=_;rw [eT,eR,Zbl]
 have hc:Z3 (YR 2 (Z8 0 (Z8 1 gsNil))) (λ_=>some true) sE [none,none] ((List.range m).map λi => .tup [IL (T.getD i []),D.int (R.getD i 0)])=some ((List.range m).map λi=>IL (Rw m 0 (b0 T R m) i)):=XA (λi => .tup [IL (T.getD i []),D.int (R.getD i 0)]) (λi=>IL (Rw m 0 (b0 T R m) i)) _ λi hi=>⟨[some (IL (T.getD i [])),some (.int (R.getD i 0))],rfl,by
  have hi:=List.mem_range.mp hi;have hl:=h.sq.rw _ (h.sq.row hi).2;have e1:Zz (Zb (Za 1) eNil) [some (IL (T.getD i [])),some (.int (R.getD i 0))]=some (.lst [.int (R.getD i 0)]):=Xg (Zh (x:=.int (R.getD i 0)) rfl nil_of) (by show 1<=1000;decide);refine(Zi ((ZY (Zh (x:=IL (T.getD i [])) rfl nil_of)).trans ZbH) e1).trans ((ZbG (by rw [List.length_map,hl];show m+1<=_;omega)).trans ?_)
  rw [<-ZkL h hi,IL,List.map_append];rfl⟩
 refine(YX hi rfl hc (by rw [List.length_map,List.length_range];omega)).trans ?_;unfold RR;rw [TD,List.map_map];rfl
structure Rel(m:Nat)(c b:Mt):Prop where
 rows:∀k,k<m->∃l,l<m/\c k=b l
 det:(dm m b=dm m c/\∀j,j<m->Mn m b j m=Mn m c j m)\/(dm m b = - dm m c/\∀j,j<m->Mn m b j m = - Mn m c j m)
 bd:∀i j,Bd 31 (b i j)
theorem Rel.swR{c b:Mt}(h:Rel m c b)(h4:m<=4){p q:Nat}(hp:p<m)(hq:q<m)(hpq:p<=q):Rel m c (swR b p q):=by
 refine⟨λk hk => ?_,?_,λi j => ?_⟩
 · obtain⟨l,hl,e⟩:=h.rows k hk
   by_cases h1:l=p
   · refine⟨q,hq,?_⟩
     unfold K30.swR
     by_cases h2:q=p
     · rw [if_pos h2,e,h1,h2]
     · rw [if_neg h2,if_pos rfl,e,h1]
   · by_cases h2:l=q
     · refine⟨p,hp,?_⟩
       unfold K30.swR;rw [if_pos rfl,e,h2]
     · refine⟨l,hl,?_⟩
       unfold K30.swR;rw [if_neg h1,if_neg h2,e]
 · rcases Zht m b h4 p q hp hq hpq with⟨e,f⟩|⟨e,f⟩<;>rcases h.det with⟨e',f'⟩|⟨e',f'⟩
   · exact .inl ⟨by rw [e,e'],λj hj=>by rw [f j hj,f' j hj]⟩
   · exact .inr ⟨by rw [e,e'],λj hj=>by rw [f j hj,f' j hj]⟩
   · exact .inr ⟨by rw [e,e'],λj hj=>by rw [f j hj,f' j hj]⟩
   · exact .inl ⟨by rw [e,e',Int.neg_neg],λj hj=>by rw [f j hj,f' j hj,Int.neg_neg]⟩
 · unfold K30.swR
   split
   · exact h.bd _ _
   · split
     · exact h.bd _ _
     · exact h.bd _ _
theorem Rel.nz{c b:Mt}(h:Rel m c b):dm m b=0 ↔ dm m c=0:=by
 rcases h.det with⟨e,_⟩|⟨e,_⟩<;>rw [e]
 omega
theorem ZkM(c:Mt){p:Nat}{b:Mt}(hr:Rel m c b)(h4:m<=4)(hp:p<m)(hd:dm p b≠0)(v5 v6:Option D):(∃b2 w5 w6,sB (S7 T R (some (TD (RR m p b m))) (some (.int (dm p b))) (some (nD p)) v5 v6)=some (.nx (S7 T R (some (TD (RR m (p+1) b2 m))) (some (.int (dm (p+1) b2))) (some (nD p)) w5 w6))/\Rel m c b2/\dm (p+1) b2≠0)\/(sB (S7 T R (some (TD (RR m p b m))) (some (.int (dm p b))) (some (nD p)) v5 v6)=some (.rt .non)/\dm m c=0):=by
 have ha:Zb (Za 2) (Zb (Za 4) eNil) (S7 T R (some (TD (RR m p b m))) (some (.int (dm p b))) (some (nD p)) v5 v6)=some [TD (RR m p b m),nD p]:=Zh rfl (Zh rfl nil_of);rcases Zgh (p:=p) b h4 hp with⟨h1,h2⟩|⟨q,h1,h2,h3,h5⟩
 · refine .inr ⟨?_,hr.nz.mp (zdet p m b hp h4 hd h2)⟩
   have t5:s5 (S7 T R (some (TD (RR m p b m))) (some (.int (dm p b))) (some (nD p)) v5 v6)=some (.nx (S7 T R (some (TD (RR m p b m))) (some (.int (dm p b))) (some (nD p)) (some .non) v6)):=ZE ((ZN ha rfl).trans h1);refine(Zr t5).trans (Uk ((Xy (ZH rfl)).trans (ZU rfl)))
 · left
   have hr2:=hr.swR h4 hp h2 h1
   have hf:Mn p b q p=dm (p+1) (swR b p q):=by
    rw [<-frM p (by omega),Zkh b p q p p (by omega) (by omega) (by omega) h1];unfold piS;rw [if_pos rfl]
   have hdd:dm p (swR b p q)=dm p b:=ZkJ b p q (by omega) (by omega) h1;have t5:s5 (S7 T R (some (TD (RR m p b m))) (some (.int (dm p b))) (some (nD p)) v5 v6)=some (.nx (S7 T R (some (TD (RR m p b m))) (some (.int (dm p b))) (some (nD p)) (some (nD q)) v6)):=ZE ((ZN ha rfl).trans h5);have t6:s6 (S7 T R (some (TD (RR m p b m))) (some (.int (dm p b))) (some (nD p)) (some (nD q)) v6)=some (.nx (S7 T R (some (TD (RR m p b m))) (some (.int (dm p b))) (some (nD p)) (some (nD q)) v6)):=(YB (ZH rfl)).trans rfl
   have t7:s7 (S7 T R (some (TD (RR m p b m))) (some (.int (dm p b))) (some (nD p)) (some (nD q)) v6)=some (.nx (S7 T R (some (TD (RR m p b m))) (some (.int (dm p b))) (some (nD p)) (some (nD q)) (some (.int (dm (p+1) (swR b p q)))))):=ZE ((Zi (y:=.int 0) ((Zi (x:=TD (RR m p b m)) (y:=nD q) rfl rfl).trans (Jj h2)) rfl).trans ((Jk (by omega)).trans (by rw [hf])));have ex:Zo 3 Q8 [] (Zb (Za 2) (Zb (Za 5) (Zb (Za 4) eNil))) (S7 T R (some (TD (RR m p b m))) (some (.int (dm p b))) (some (nD p)) (some (nD q)) (some (.int (dm (p+1) (swR b p q)))))=some (TD (RR m p (swR b p q) m)):=(ZN (Zh (x:=TD (RR m p b m)) rfl (Zh (x:=nD q) rfl (Zh (x:=nD p) rfl nil_of))) rfl).trans (Zgi b h4 hp h2 h1)
   have hc:=ZeP hr2.bd h4 hp (by rw [hdd];exact hd);rw [hdd]at hc;have t8:s8 (S7 T R (some (TD (RR m p b m))) (some (.int (dm p b))) (some (nD p)) (some (nD q)) (some (.int (dm (p+1) (swR b p q)))))=some (.nx (S7 T R (some (TD (RR m (p+1) (swR b p q) m))) (some (.int (dm p b))) (some (nD p)) (some (nD q)) (some (.int (dm (p+1) (swR b p q)))))):=ZE ((ZN (Zh ex (Zh (x:=nD p) rfl (Zh (x:=.int (dm p b)) rfl nil_of))) rfl).trans hc)
   exact⟨swR b p q,_,_,(Zr t5).trans ((Zr t6).trans ((Zr t7).trans ((Zr t8).trans (ZE rfl)))),hr2,by rw [<-hf];exact h3⟩
structure Sol(m:Nat)(c:Mt)(f:Nat->Int×Int):Prop where
 pos:∀i,0<(f i).2
 gcd:∀i,Int.gcd (f i).1 (f i).2=1
 b1:∀i,Bd 127 (f i).1
 b2:∀i,Bd 127 (f i).2
 fit:∀i,i<m->∃a:Int,a≠0/\Mn m c i m=a*(f i).1/\dm m c=a*(f i).2
theorem Zeg(h:Tb m T R):(dm m (b0 T R m)=0/\Q9 [TD T,IL R]=some .non)\/(dm m (b0 T R m)≠0/\∃f,Sol m (b0 T R m) f/\Q9 [TD T,IL R]=some (.lst ((List.range m).map λi=>prD (f i)))):=by
 have h4:=h.m4;have t1:Zj 2 sC (S7 T R none none none none none)=some (.nx (S7 T R (some (TD (RR m 0 (b0 T R m) m))) none none none none)):=ZE (ZjH h);have t2:Zj 3 (eC (.int 1)) (S7 T R (some (TD (RR m 0 (b0 T R m) m))) none none none none)=some (.nx (S7 T R (some (TD (RR m 0 (b0 T R m) m))) (some (.int 1)) none none none)):=ZE rfl
 have hi:ZI (Zb (eCB lenD (Zb (Za 0) eNil)) eNil) (S7 T R (some (TD (RR m 0 (b0 T R m) m))) (some (.int 1)) none none none)=some (ZO 0 1 m):=by
  refine(Vw (j:=(m:Int)) (Zh ((ZY (Zh (x:=TD T) rfl nil_of)).trans (len_lst.trans ?_)) nil_of) (by omega) (by omega)).trans (by rw [Int.toNat_natCast]);rw [List.length_map,h.sq.ln]
 have loop:=ZdA (γ:=Zs 4) (φ:=sB) (λk δ=>∃b v4 v5 v6,δ=S7 T R (some (TD (RR m k b m))) (some (.int (dm k b))) v4 v5 v6/\Rel m (b0 T R m) b/\dm k b≠0) (λd=>d = .non/\dm m (b0 T R m)=0) (ZO 0 1 m) 0 (S7 T R (some (TD (RR m 0 (b0 T R m) m))) (some (.int 1)) none none none) ⟨b0 T R m,none,none,none,rfl,⟨λk hk=>⟨k,hk,rfl⟩,.inl ⟨rfl,λ_ _=>rfl⟩,ZjG h⟩,by show(1:Int)≠0;decide⟩ (by
  rintro j x δ hx ⟨b,v4,v5,v6,rfl,hr,hd⟩
  obtain⟨hj,rfl⟩:=Qb hx;rw [Nat.zero_add]at *;refine⟨S7 T R (some (TD (RR m j b m))) (some (.int (dm j b))) (some (nD j)) v5 v6,rfl,?_⟩;rcases ZkM (T:=T) (R:=R) (b0 T R m) hr h4 hj hd v5 v6 with⟨b2,w5,w6,g,hr2,hd2⟩|⟨g,hz⟩
  · exact .inl ⟨_,g,b2,_,_,_,rfl,hr2,hd2⟩
  · exact .inr ⟨_,g,rfl,hz⟩)
 rw [J4,Nat.zero_add]at loop;rcases loop with⟨δ',g,b,v4,v5,v6,e1,hr,hd⟩|⟨d,g,e1,hz⟩
 · right
   subst e1;refine⟨λz=>hd (hr.nz.mpr z),?_⟩
   have hx:∀i,∃pr:Int×Int,(∃c:Int,c≠0/\Mn m b i m=c*pr.1/\dm m b=c*pr.2)/\0<pr.2/\Int.gcd pr.1 pr.2=1/\Bd 127 pr.1/\Bd 127 pr.2/\Q6 [.int (Mn m b i m),.int (dm m b)]=some (prD pr):=λi=>by
    obtain⟨c,x,y,h1,h2,h3,h4,h5,h6,h7,h8⟩:=reduced (A:=Mn m b i m) hd (Nat.le_trans (ZfO hr.bd m) (Nat.pow_le_pow_right (by decide) (by decide)));exact⟨(x,y),⟨c,h1,h2,h3⟩,h4,h5,Nat.le_trans h6 (Ji hr.bd m i m),Nat.le_trans h7 (ZfO hr.bd m),h8⟩
   refine⟨λi=>Classical.choose (hx i),⟨λi=>(Classical.choose_spec (hx i)).2.1,λi=>(Classical.choose_spec (hx i)).2.2.1,λi=>(Classical.choose_spec (hx i)).2.2.2.1,λi=>(Classical.choose_spec (hx i)).2.2.2.2.1,λi hi => ?_⟩,?_⟩
   · obtain⟨a,h1,h2,h3⟩:=(Classical.choose_spec (hx i)).1
     rcases hr.det with⟨e,f⟩|⟨e,f⟩
     · exact⟨a,h1,by rw [<-f i hi];exact h2,by rw [<-e];exact h3⟩
     · refine⟨-a,by omega,?_,?_⟩
       · have:=f i hi
         rw [Int.neg_mul,<-h2];omega
       · rw [Int.neg_mul,<-h3]
         omega
   · have hc : Z3 (Zs 0) (fun _ => some true) sR [none, some (.int (dm m b))] ((List.range m).map fun i => IL (Rw m m b i)) = some ((List.range m).map fun i => prD (Classical.choose (hx i))) := XA (fun i => IL (Rw m m b i)) (fun i => prD (Classical.choose (hx i))) _ fun i _ => ⟨[some (IL (Rw m m b i)), some (.int (dm m b))], rfl, by
      have e0:eOp ixD (Za 0) (eC (.int 0)) [some (IL (Rw m m b i)),some (.int (dm m b))]=some (.int (Mn m b i m)):=(Zi (x:=IL (Rw m m b i)) (y:=.int 0) rfl rfl).trans (Jk (Nat.le_refl _));exact(ZN (Zh e0 (Zh (x:=.int (dm m b)) rfl nil_of)) rfl).trans (Classical.choose_spec (hx i)).2.2.2.2.2⟩
     have ez:sZ (S7 T R (some (TD (RR m m b m))) (some (.int (dm m b))) v4 v5 v6)=some (.lst ((List.range m).map λi=>prD (Classical.choose (hx i)))):=by
      refine YX (xs:=(List.range m).map λi=>IL (Rw m m b i)) (Xz ?_) rfl hc (by rw [List.length_map,List.length_range];omega);show some (TD (RR m m b m))=_;unfold RR;rw [TD,List.map_map];rfl
     refine Yi (δ:=S7 T R none none none none none) rfl ?_;rw [Zbm,Zr t1,Zr t2,Zr (YG hi g)];exact ZU ez
 · left
   subst e1;refine⟨hz,Yi (δ:=S7 T R none none none none none) rfl ?_⟩;rw [Zbm,Zr t1,Zr t2];exact Uk (YG hi g)
end
end K30
namespace K30
open DL L2
def sid(T:List (List Int))(n:Int)(m:Nat)(c:Nat):List Int:=(List.range m).map λk=>(if k=c then n else 0)-at2 T k c
def Yw(T:List (List Int))(n:Int)(m:Nat)(q:Nat):List (List Int):=(List.range q).map (sid T n m)
noncomputable def pN:DL.Env->Option D:=(eUn Yl (eOp ixD (Za 0) (Za 1)))
noncomputable def pC:DL.Env->Option Out:=(Zj 4 (ZV (Z2 (Za 0)) (Zs 0) (λ_=>some true) pN 1 [3]))
noncomputable def pS:DL.Env->Option Out:=(YV 4 (Za 3) (eOp addX (eOp ixD (Za 4) (Za 3)) (Za 1)))
noncomputable def tI:DL.Env->Option (List D):=(ZI (Zb (eCB lenD (Zb (Za 0) eNil)) eNil))
theorem ZeQ:f_QH=Zg (Zj 2 (Zz eNil)) (Zg (ZQ tI (Zs 3) (Zg pC (Zg pS (Z7 2 (Za 4))))) (Zq (Za 2))):=rfl
abbrev PE5(T:List (List Int))(n:Int)(v2 v3 v4:Option D):DL.Env:=[some (TD T),some (.int n),v2,v3,v4]
theorem Zeh{i:Nat}{κ ε:DL.Env->Option D}{δ:DL.Env}{xs:List Int}{k:Nat}{x:Int}(hk:k<xs.length)(hv:Za i δ=some (IL xs))(h1:κ δ=some (nD k))(h2:ε δ=some (.int x)):YV i κ ε δ=some (.nx (δ.set i (some (IL (xs.set k x))))):=by
 unfold YV;rw [h2,hv,h1];dsimp only;rw [List.length_map,Zdv hk];dsimp only;rw [IL,List.map_set]
theorem Zgj{T:List (List Int)}{m e c:Nat}(h:Sq m e T)(n:Int)(hc:c<m):(T.map λr => -(r.getD c 0)).set c ((T.map λr => -(r.getD c 0)).getD c 0+n)=sid T n m c:=by
 have hl:(T.map λr => -(r.getD c 0)).length=m:=by rw [List.length_map,h.ln]
 have hg:∀k,k<m->(T.map λr => -(r.getD c 0))[k]? = some (-(at2 T k c)):=λk hk=>by
  rw [List.getElem?_map,(h.row hk).1];rfl
 apply List.ext_getElem?;intro k
 by_cases hk:k<m
 · have e2 : (sid T n m c)[k]? = some ((if k = c then n else 0) - at2 T k c) := by
    unfold sid;rw [List.getElem?_map,List.getElem?_range hk];rfl
   rw [e2]
   by_cases hkc:k=c
   · subst hkc
     rw [List.getElem?_set_self (by rw [hl];exact hk),List.getD_eq_getElem?_getD,hg k hk,if_pos rfl];show some (-(at2 T k k)+n)=_;exact congrArg some (by omega)
   · rw [List.getElem?_set_ne (λz=>hkc z.symm),hg k hk,if_neg hkc]
     exact congrArg some (by omega)
 · rw [List.getElem?_eq_none (by rw [List.length_set,hl];omega),List.getElem?_eq_none (by unfold sid;rw [List.length_map,List.length_range];omega)]
theorem ZeR{T:List (List Int)}{m e:Nat}(h:Sq m e T)(hm:m<=4)(n:Int):Qd [TD T,.int n]=some (TD (Yw T n m m)):=by
 obtain⟨δ',h1,w3,w4,e1⟩:=X1 (γ:=Zs 3) (φ:=Zg pC (Zg pS (Z7 2 (Za 4)))) (λc δ=>∃w3 w4,δ=PE5 T n (some (TD (Yw T n m c))) w3 w4) (ZO 0 1 m) 0 (PE5 T n (some (TD [])) none none) ⟨none,none,rfl⟩ (by
  rintro c d δ hd ⟨w3,w4,rfl⟩
  obtain⟨hc,rfl⟩:=Qb hd;rw [Nat.zero_add]
  have hcc:Z3 (Zs 0) (λ_=>some true) pN [none,some (nD c)] (T.map IL)=some (T.map λr=>D.int (-(r.getD c 0))):=XA IL (λr=>D.int (-(r.getD c 0))) T λr hr=>⟨[some (IL r),some (nD c)],rfl,by
   have e0:eOp ixD (Za 0) (Za 1) [some (IL r),some (nD c)]=some (.int (r.getD c 0)):=(Zi (x:=IL r) (y:=nD c) rfl rfl).trans (Vf (by rw [h.rw r hr];exact hc));unfold pN eUn;rw [e0];rfl⟩
  have t1:pC (PE5 T n (some (TD (Yw T n m c))) (some (nD c)) w4)=some (.nx (PE5 T n (some (TD (Yw T n m c))) (some (nD c)) (some (IL (T.map λr => -(r.getD c 0)))))):=by
   refine(ZE (YX (Xz rfl) rfl hcc (by rw [List.length_map,h.ln];omega))).trans ?_;rw [IL,List.map_map];rfl
  have hl:c<(T.map λr => -(r.getD c 0)).length:=by rw [List.length_map,h.ln];exact hc
  have t2:pS (PE5 T n (some (TD (Yw T n m c))) (some (nD c)) (some (IL (T.map λr => -(r.getD c 0)))))=some (.nx (PE5 T n (some (TD (Yw T n m c))) (some (nD c)) (some (IL (sid T n m c))))):=by
   refine(Zeh (k:=c) (x:=(T.map λr => -(r.getD c 0)).getD c 0+n) hl rfl rfl ((Zi (y:=.int n) ((Zi (x:=IL (T.map λr => -(r.getD c 0))) (y:=nD c) rfl rfl).trans (Vf hl)) rfl).trans (add_int _ _))).trans ?_;rw [Zgj h n hc];rfl
  refine⟨PE5 T n (some (TD (Yw T n m c))) (some (nD c)) w4,rfl,_,(Zr t1).trans ((Zr t2).trans (Vx (xs:=(Yw T n m c).map IL) (d:=IL (sid T n m c)) rfl rfl (by unfold Yw;rw [List.length_map,List.length_map,List.length_range];omega))),some (nD c),some (IL (sid T n m c)),?_⟩
  have em:(Yw T n m c).map IL++[IL (sid T n m c)]=(Yw T n m (c+1)).map IL:=by
   unfold Yw;rw [List.range_succ,List.map_append,List.map_append];rfl
  rw [em];rfl)
 subst e1;rw [J4,Nat.zero_add]at h1
 have hi:tI (PE5 T n (some (TD [])) none none)=some (ZO 0 1 m):=by
  refine(Vw (j:=(m:Int)) (Zh ((ZY (Zh (x:=TD T) rfl nil_of)).trans (len_lst.trans ?_)) nil_of) (by omega) (by omega)).trans (by rw [Int.toNat_natCast]);rw [List.length_map,h.ln]
 refine Yi (δ:=PE5 T n none none none) rfl ?_;rw [ZeQ,Zr (δ':=PE5 T n (some (TD [])) none none) (ZE rfl),Zr (YG hi h1)];exact ZU rfl
theorem Zgk{T:List (List Int)}{m e:Nat}(h:Sq m e T){n:Int}(hn:Bd e n):Sq m (e+1) (Yw T n m m):=by
 refine⟨by unfold Yw;rw [List.length_map,List.length_range],λr hr => ?_,λr hr x hx => ?_⟩
 · obtain⟨c,_,rfl⟩:=List.mem_map.mp hr
   unfold sid;rw [List.length_map,List.length_range]
 · obtain⟨c,hc,rfl⟩:=List.mem_map.mp hr
   obtain⟨k,hk,rfl⟩:=List.mem_map.mp hx;refine Bd.sub ?_ (Qi h (List.mem_range.mp hk) (List.mem_range.mp hc))
   split
   · exact hn
   · exact .zdet
def Jl(T:List (List Int))(n:Int)(q k:Nat):List Int:=(List.range q).map λj:Nat=>n*(if decide ((j:Int)=(k:Int))=true then 1 else 0)-at2 T k j
def cor(T:List (List Int))(n:Int)(q c:Nat):List (List Int):=(List.range c).map (Jl T n q)
def YL(T:List (List Int))(n:Int)(q:Nat):Int:=lap (cor T n q q) q (List.range q)
def Xi(T:List (List Int))(n:Int)(m:Nat):Bool:=(List.range' 1 m).all λq=>decide (0<YL T n q)
theorem Zbn{α:Type}{γ:D->DL.Env->Option DL.Env}{φ:DL.Env->Option Out}(g:α->D)(c:α->Bool)(R:α->D)(I:DL.Env->Prop):∀(xs:List α)(x0:α)(δ:DL.Env),xs.find? c=some x0->I δ ->
 (∀x∈xs,∀δ,I δ->∃δ1,γ (g x) δ=some δ1/\(c x=false->∃δ2,φ δ1=some (.nx δ2)/\I δ2)/\(c x=true->φ δ1=some (.rt (R x))))->Yz γ φ (xs.map g) δ=some (.rt (R x0))
 | [],x0,δ,h,_,_=>by cases h
 |x::xs,x0,δ,h,hI,step=>by
  obtain⟨δ1,h1,h2,h3⟩:=step x List.mem_cons_self δ hI;rw [List.map_cons];unfold Yz;rw [h1];dsimp only;rw [List.find?_cons]at h;cases hc:c x with
  |true=>
   rw [hc]at h;cases h;rw [h3 hc]
  |false=>
   rw [hc]at h;obtain⟨δ2,h4,h5⟩:=h2 hc;rw [h4];exact Zbn g c R I xs x0 δ2 h h5 λy hy=>step y (List.mem_cons_of_mem _ hy)
noncomputable def kE:DL.Env->Option D:=(eOp subD (eOp mulX (Za 1) (eCB intD (Zb (eOp eqD (Za 0) (Za 2)) eNil))) (eOp ixD (eOp ixD (Za 3) (Za 2)) (Za 0)))
noncomputable def kC:DL.Env->Option D:=(ZV (ZI (Zb (Za 2) eNil)) (Zs 0) (λ_=>some true) kE 1 [1,4,0])
noncomputable def kL:DL.Env->Option Out:=(ZQ (ZI (Zb (Za 2) eNil)) (Zs 4) (Z7 3 kC))
noncomputable def kT:DL.Env->Option Out:=(sIf (xB (eOp (Z5 λi j=>decide (i<=j)) (Zo 1 Jc [] (Zb (Za 3) eNil)) (eC (.int 0)))) (Zq (eC (.bl false))) sNext)
noncomputable def kB:DL.Env->Option Out:=(Zg (Zj 3 (Zz eNil)) (Zg kL kT))
noncomputable def kI:DL.Env->Option (List D):=(ZI (Zb (eC (.int 1)) (Zb (eOp addX (eCB lenD (Zb (Za 0) eNil)) (eC (.int 1))) eNil)))
theorem Zgl:f_QQ=Zg (ZQ kI (Zs 2) kB) (Zq (eC (.bl true))):=rfl
abbrev S5(T:List (List Int))(n:Int)(v2 v3 v4:Option D):DL.Env:=[some (TD T),some (.int n),v2,v3,v4]
section
variable{T:List (List Int)}{m e:Nat}{n:Int}
theorem ZjI(h:Sq m e T)(hm:m<=4){q k:Nat}(hq:q<=m)(hk:k<m)(v3:Option D):kC (S5 T n (some (nD q)) v3 (some (nD k)))=some (IL (Jl T n q k)):=by
 have hc:Z3 (Zs 0) (λ_=>some true) kE [none,some (.int n),some (nD k),some (TD T)] ((List.range q).map nD)=some ((List.range q).map λj:Nat=>D.int (n*(if decide ((j:Int)=(k:Int))=true then 1 else 0)-at2 T k j)):=XA nD (λj:Nat=>D.int (n*(if decide ((j:Int)=(k:Int))=true then 1 else 0)-at2 T k j)) (List.range q) λj hj=>⟨[some (nD j),some (.int n),some (nD k),some (TD T)],rfl,by
  have hj:=List.mem_range.mp hj;have e1:eCB intD (Zb (eOp eqD (Za 0) (Za 2)) eNil) [some (nD j),some (.int n),some (nD k),some (TD T)]=some (.int (if decide ((j:Int)=(k:Int))=true then 1 else 0)):=(ZY (Zh ((Zi (x:=nD j) (y:=nD k) rfl rfl).trans (Xf _ _)) nil_of)).trans rfl;have e2:eOp ixD (eOp ixD (Za 3) (Za 2)) (Za 0) [some (nD j),some (.int n),some (nD k),some (TD T)]=some (.int (at2 T k j)):=(Zi (x:=IL (T.getD k [])) (y:=nD j) ((Zi (x:=TD T) (y:=nD k) rfl rfl).trans (ZbV h hk)) rfl).trans (ZbW h hk (by omega))
  refine(Zi ((Zi (a:=Za 1) (x:=.int n) rfl e1).trans (UF ?_ ?_)) e2).trans (Qh _ _)
  · cases decide ((j:Int)=(k:Int))<;>decide
  · cases decide ((j:Int)=(k:Int))<;>decide⟩
 refine(YX (xs:=(List.range q).map nD) ?_ rfl hc (by rw [List.length_map,List.length_range];omega)).trans ?_
 · rw [<-Zc3]
   exact(Vw (j:=(q:Int)) (Zh rfl nil_of) (by omega) (by omega)).trans (by rw [Int.toNat_natCast])
 · unfold Jl
   rw [IL,List.map_map];rfl
theorem ZjJ(h:Sq m e T)(hm:m<=4){q:Nat}(hq:q<=m)(v4:Option D):∃w4,kL (S5 T n (some (nD q)) (some (TD [])) v4)=some (.nx (S5 T n (some (nD q)) (some (TD (cor T n q q))) w4)):=by
 obtain⟨δ',g,w4,e1⟩:=X1 (γ:=Zs 4) (φ:=Z7 3 kC) (λk δ=>∃w4,δ=S5 T n (some (nD q)) (some (TD (cor T n q k))) w4) (ZO 0 1 q) 0 (S5 T n (some (nD q)) (some (TD [])) v4) ⟨v4,rfl⟩ (by
  rintro k d δ hd ⟨w4,rfl⟩
  obtain⟨hk,rfl⟩:=Qb hd;rw [Nat.zero_add];refine⟨S5 T n (some (nD q)) (some (TD (cor T n q k))) (some (nD k)),rfl,_,Vx (xs:=(cor T n q k).map IL) rfl (ZjI h hm hq (by omega) _) (by unfold cor;rw [List.length_map,List.length_map,List.length_range];omega),some (nD k),?_⟩
  have em:(cor T n q k).map IL++[IL (Jl T n q k)]=(cor T n q (k+1)).map IL:=by
   unfold cor;rw [List.range_succ,List.map_append,List.map_append];rfl
  rw [em];rfl)
 subst e1;rw [J4,Nat.zero_add]at g;exact⟨w4,YG ((Vw (j:=(q:Int)) (Zh rfl nil_of) (by omega) (by omega)).trans (by rw [Int.toNat_natCast])) g⟩
theorem Zhx(h:Sq m e T)(hn:Bd e n){q:Nat}(hq:q<=m):Sq q (e+1) (cor T n q q):=by
 refine⟨by unfold cor;rw [List.length_map,List.length_range],λr hr => ?_,λr hr x hx => ?_⟩
 · obtain⟨c,_,rfl⟩:=List.mem_map.mp hr
   unfold Jl;rw [List.length_map,List.length_range]
 · obtain⟨c,hc,rfl⟩:=List.mem_map.mp hr
   obtain⟨k,hk,rfl⟩:=List.mem_map.mp hx;refine Bd.sub ?_ (Qi h (Nat.lt_of_lt_of_le (List.mem_range.mp hc) hq) (Nat.lt_of_lt_of_le (List.mem_range.mp hk) hq));cases decide ((k:Int)=(c:Int))with
   |true=>rw [if_pos rfl,Int.mul_one];exact hn
   |false=>rw [if_neg Bool.false_ne_true,Int.mul_zero];exact .zdet
theorem Zgm(h:Sq m e T)(hm:m<=4)(hn:Bd e n)(he:(e+2)*4<=900):ZhT [TD T,.int n]=some (.bl (Xi T n m)):=by
 have hi:kI (S5 T n none none none)=some ((List.range' 1 m).map nD):=by
  have e1:kI (S5 T n none none none)=some (ZO 1 1 m):=by
   refine(Zc2 (i:=1) (j:=((m+1:Nat):Int)) (Zh rfl (Zh ((Zi (y:=.int 1) ((ZY (Zh (x:=TD T) rfl nil_of)).trans len_lst) rfl).trans ((add_int _ _).trans ?_)) nil_of)) (by omega) (by omega) (by decide) (by decide)).trans (by rw [show(((m+1:Nat):Int)-1).toNat=m by omega]);rw [List.length_map,h.ln];rfl
  rw [e1];unfold ZO;rw [List.range'_eq_map_range,List.map_map];refine congrArg some (List.map_congr_left λk _ => ?_);show D.int (1+(k:Int)*1)=D.int ((1+k:Nat):Int);exact congrArg D.int (by omega)
 have turn:∀q∈List.range' 1 m,∀δ,(∃v2 v3 v4,δ=S5 T n v2 v3 v4)->∃δ1,Zs 2 (nD q) δ=some δ1/\(decide (YL T n q<=0)=false->∃δ2,kB δ1=some (.nx δ2)/\∃v2 v3 v4,δ2=S5 T n v2 v3 v4)/\(decide (YL T n q<=0)=true->kB δ1=some (.rt (.bl false))):=by
  rintro q hq δ ⟨v2,v3,v4,rfl⟩
  have hqm:q<=m:=by
   obtain⟨i,hi,rfl⟩:=List.mem_range'.mp hq;omega
  obtain⟨w4,g⟩:=ZjJ (n:=n) h hm hqm v4;have s1:Zj 3 (Zz eNil) (S5 T n (some (nD q)) v3 v4)=some (.nx (S5 T n (some (nD q)) (some (TD [])) v4)):=ZE rfl;have hp:=ZcP (Zhx h hn hqm) (by omega) he;have et:xB (eOp (Z5 λi j=>decide (i<=j)) (Zo 1 Jc [] (Zb (Za 3) eNil)) (eC (.int 0))) (S5 T n (some (nD q)) (some (TD (cor T n q q))) w4)=some (decide (YL T n q<=0)):=ZH ((Zi (y:=.int 0) ((ZN (Zh (x:=TD (cor T n q q)) rfl nil_of) rfl).trans hp) rfl).trans rfl)
  refine⟨S5 T n (some (nD q)) v3 v4,rfl,λhz => ?_,λhz => ?_⟩
  · rw [hz]at et
    exact⟨_,(Zr s1).trans ((Zr g).trans ((YB et).trans rfl)),_,_,_,rfl⟩
  · rw [hz]at et
    exact(Zr s1).trans ((Zr g).trans ((Xy et).trans (ZU rfl)))
 refine Yi (δ:=S5 T n none none none) rfl ?_;rw [Zgl];cases hf:(List.range' 1 m).find? λq=>decide (YL T n q<=0)with
 |some q0=>
  have h1:=Zbn (γ:=Zs 2) (φ:=kB) nD (λq=>decide (YL T n q<=0)) (λ_=>D.bl false) (λδ=>∃v2 v3 v4,δ=S5 T n v2 v3 v4) (List.range' 1 m) q0 (S5 T n none none none) hf ⟨_,_,_,rfl⟩ turn
  have hb:Xi T n m=false:=by
   unfold Xi;rw [List.all_eq_false];refine⟨q0,List.mem_of_find?_eq_some hf,?_⟩;have:=List.find?_some hf;have:=of_decide_eq_true this;rw [decide_eq_false (by omega)]
   decide
  rw [hb];exact Uk (YG hi h1)
 |none=>
  have hall:=List.find?_eq_none.mp hf
  obtain⟨δ',h1,v2,v3,v4,e1⟩:=J7 (γ:=Zs 2) (φ:=kB) (λδ=>∃v2 v3 v4,δ=S5 T n v2 v3 v4) ((List.range' 1 m).map nD) (S5 T n none none none) ⟨_,_,_,rfl⟩ (by
   intro x hx δ hδ;obtain⟨q,hq,rfl⟩:=List.mem_map.mp hx;obtain⟨δ1,g1,g2,_⟩:=turn q hq δ hδ;have hz:decide (YL T n q<=0)=false:=by simpa using hall q hq
   obtain⟨δ2,g3,g4⟩:=g2 hz;exact⟨δ1,g1,δ2,g3,g4⟩)
  have hb:Xi T n m=true:=by
   unfold Xi;rw [List.all_eq_true];intro q hq;have:=hall q hq;have hz:¬YL T n q<=0:=by simpa using this
   exact decide_eq_true (by omega)
  rw [hb,Zr (YG hi h1)];exact ZU rfl
end
end K30
namespace K30
open DL L2
theorem ZaT(ns:List Int):sumLD [.lst (ns.map D.int)]=some (.int ns.sum):=by
 unfold sumLD;dsimp only;rw [QT]
theorem ZbY:∀w:List Int,(∀x∈w,0<=x)->0<=w.sum
 | [],_=>by simp
 |a::w,h=>by
  have ih:=ZbY w λx hx=>h x (List.mem_cons_of_mem _ hx)
  have:=h a List.mem_cons_self;rw [List.sum_cons];omega
theorem Zc6:∀(w:List Int)(b:Int),(∀x∈w,x<=b)->w.sum<=b*w.length
 | [],b,_=>by simp
 |a::w,b,h=>by
  have ih:=Zc6 w b λx hx=>h x (List.mem_cons_of_mem _ hx)
  have:=h a List.mem_cons_self;rw [List.sum_cons,List.length_cons,Int.natCast_add,Int.mul_add];simp;omega
structure TbW(m:Nat)(T:List (List Int)):Prop where
 m1:1<=m
 m4:m<=4
 ln:T.length=m
 rl:∀r∈T,r.length=m
 en:∀r∈T,∀x∈r,0<=x/\x<1000000000000
section
variable{m:Nat}{T:List (List Int)}
theorem Zki{x:Int}(h0:0<=x)(h1:x<=10000000000000):Bd 13 x:=by
 unfold Bd;have:(10:Nat) ^ 13=10000000000000:=rfl;omega
theorem TbW.sq(h:TbW m T):Sq m 13 T:=⟨h.ln,h.rl,λr hr x hx=>by
 have:=h.en r hr x hx;exact Zki this.1 (by omega)⟩
theorem TbW.nn(h:TbW m T)(k j:Nat):0<=at2 T k j:=by
 unfold at2;rw [List.getD_eq_getElem?_getD]
 by_cases hj:j<(T.getD k []).length
 · rw [List.getElem?_eq_getElem hj]
   show 0<=(T.getD k [])[j]
   by_cases hk:k<T.length
   · refine(h.en (T.getD k []) ?_ _ (List.getElem_mem hj)).1
     rw [List.getD_eq_getElem?_getD,List.getElem?_eq_getElem hk];exact List.getElem_mem hk
   · rw [List.getD_eq_getElem?_getD,List.getElem?_eq_none (by omega)]at hj
     exact absurd hj (Nat.not_lt_zero _)
 · rw [List.getElem?_eq_none (by omega)]
   exact Int.le_refl _
def rs(T:List (List Int))(m k:Nat):Int:=((List.range m).map (at2 T k)).sum
theorem ZjK(h:TbW m T){k:Nat}(hk:k<m):rs T m k=(T.getD k []).sum:=by
 have e:=h.rl _ (h.sq.row hk).2;have:=ZbX 0 (T.getD k []);rw [e]at this;unfold rs;exact congrArg List.sum this
def YY(T:List (List Int)):Int:=Ve (T.map List.sum)
theorem ZjL(h:TbW m T):0<=YY T/\YY T<=4000000000000/\∀k,k<m->rs T m k<=YY T:=by
 have m1:=h.m1;have m4:=h.m4;obtain⟨h1,h2⟩:=Zaw (ns:=T.map List.sum) (by rw [List.length_map,h.ln];omega);unfold YY;obtain⟨r,hr,e⟩:=List.mem_map.mp h1;have n0:=ZbY r λx hx=>(h.en r hr x hx).1
 have n1:=Zc6 r 1000000000000 λx hx=>by have:=(h.en r hr x hx).2;omega
 rw [h.rl r hr]at n1;refine⟨by omega,by omega,λk hk => ?_⟩;rw [ZjK h hk];exact h2 _ (List.mem_map.mpr ⟨_,(h.sq.row hk).2,rfl⟩)
noncomputable def mxE:DL.Env->Option D:=(eCB maxLD (Zb (ZV (Z2 (Za 1)) (Zs 0) (λ_=>some true) (eCB sumLD (Zb (Za 0) eNil)) 1 []) eNil))
theorem ZjM(h:TbW m T){δ:DL.Env}(hv:Za 1 δ=some (TD T)):mxE δ=some (.int (YY T)):=by
 have m1:=h.m1;have m4:=h.m4;have hc:Z3 (Zs 0) (λ_=>some true) (eCB sumLD (Zb (Za 0) eNil)) [none] (T.map IL)=some (T.map λr=>D.int r.sum):=XA IL (λr=>D.int r.sum) T λr _=>⟨[some (IL r)],rfl,(ZY (Zh (x:=IL r) rfl nil_of)).trans (ZaT r)⟩
 have e:T.map (λr=>D.int r.sum)=(T.map List.sum).map D.int:=by rw [List.map_map];rfl
 rw [e]at hc
 have h1:maxLD [.lst ((T.map List.sum).map D.int)]=some (.int (YY T)):=by
  unfold maxLD;dsimp only;rw [QT];exact if_pos (by rw [List.length_map,h.ln];omega)
 unfold mxE;exact(ZY (Zh (YX (Xz hv) rfl hc (by rw [List.length_map,List.length_map,h.ln];omega)) nil_of)).trans h1
end
structure Sh(k:Nat)(d:D):Prop where
 can:PySem.PyData.canLay0 (toP d)=true
 dep:PySem.PyData.depth (toP d)<=k
theorem Zfp{k:Nat}:∀{xs:List D},(∀x∈xs,Sh k x)->PySem.PyData.canLayAll0 (Yu xs)=true/\PySem.PyData.depthAll (Yu xs)<=k
 | [],_=>⟨rfl,Nat.zero_le _⟩
 |x::xs,h=>by
  obtain⟨h1,h2⟩:=Zfp (xs:=xs) λy hy=>h y (List.mem_cons_of_mem _ hy)
  have hx:=h x List.mem_cons_self;rw [Yu,PySem.PyData.canLayAll0,PySem.PyData.depthAll,hx.can,h1];exact⟨rfl,Nat.max_le.mpr ⟨hx.dep,h2⟩⟩
theorem Zc7{k:Nat}{xs:List D}(h:∀x∈xs,Sh k x):Sh (k+1) (.lst xs):=by
 obtain⟨h1,h2⟩:=Zfp h;exact⟨by rw [toP,PySem.PyData.canLay0];exact h1,by rw [toP,PySem.PyData.depth];omega⟩
theorem Zfq(k:Nat)(i:Int):Sh k (.int i):=⟨rfl,Nat.zero_le _⟩
theorem ZgZ{k:Nat}{d:D}(h:Sh k d)(hk:k<=64):PySem.SeqAt.shaped (toP d)=true:=by
 unfold PySem.SeqAt.shaped;rw [h.can,decide_eq_true (Nat.le_trans h.dep hk)];rfl
theorem Zc8{α:Type}{k:Nat}{f:α->D}{l:List α}(h:∀x,Sh k (f x)):∀y∈l.map f,Sh k y:=λy hy=>by
 obtain⟨x,_,rfl⟩:=List.mem_map.mp hy;exact h x
theorem ZjN(T:List (List Int)):Sh 2 (TD T):=Zc7 (Zc8 λr=>Zc7 (Zc8 λa=>Zfq 0 _))
def lim(w:Int):Int:=if w=1 then 3 else if w=2 then 12 else 1000000000000
def ent(c:Int):Int:=if c.fmod 4=0 then 0 else(c.fdiv 4).fmod (lim (c.fmod 4))
theorem Zg0(w:Int):0<lim w/\lim w<=1000000000000:=by
 unfold lim
 split
 · omega
 · split<;>omega
theorem ZjO(c:Int):0<=ent c/\ent c<1000000000000:=by
 obtain⟨h0,h1⟩:=Zg0 (c.fmod 4);unfold ent
 split
 · omega
 · have:=Uo (a:=c.fdiv 4) h0
   omega
noncomputable def liE:DL.Env->Option D:=(Zz (Zb (eC (.int 3)) (Zb (eC (.int 12)) (Zb (eOp powW (eC (.int 10)) (eC (.int 12))) eNil))))
theorem ZjP(δ:DL.Env):liE δ=some (.lst [.int 3,.int 12,.int 1000000000000]):=by
 have hp:eOp powW (eC (.int 10)) (eC (.int 12)) δ=some (.int 1000000000000):=(Zi (x:=.int 10) (y:=.int 12) rfl rfl).trans ((Zdu ⟨by decide,by decide,by decide⟩).trans rfl);unfold liE;exact Xg (Zh (x:=.int 3) rfl (Zh (x:=.int 12) rfl (Zh hp nil_of))) (by show 3<=1000;decide)
theorem ZeS:f_QM=Zg (Zj 1 (eOp modW (Za 0) (eC (.int 4)))) (Zg (sIf (xB (eOp eqD (Za 1) (eC (.int 0)))) (Zq (eC (.int 0))) sNext) (Zq (eOp modW (eOp fdivW (Za 0) (eC (.int 4))) (eOp ixD liE (eOp subD (Za 1) (eC (.int 1))))))):=rfl
theorem Zhy{w:Int}(h0:0<w)(h1:w<4):ixD (.lst [.int 3,.int 12,.int 1000000000000]) (.int (w-1))=some (.int (lim w)):=by
 have:w=1\/w=2\/w=3:=by omega
 rcases this with rfl|rfl|rfl<;>rfl
theorem ZeT(c:Int):ZhV [.int c]=some (.int (ent c)):=by
 obtain⟨b0,b1⟩:=Uo (a:=c) (b:=4) (by decide);refine Yi (δ:=[some (.int c),none]) rfl ?_;have t1:Zj 1 (eOp modW (Za 0) (eC (.int 4))) [some (.int c),none]=some (.nx [some (.int c),some (.int (c.fmod 4))]):=ZE ((Zi (x:=.int c) (y:=.int 4) rfl rfl).trans (XB (by decide)));rw [ZeS,Zr t1];have e1:xB (eOp eqD (Za 1) (eC (.int 0))) [some (.int c),some (.int (c.fmod 4))]=some (decide (c.fmod 4=0)):=ZH ((Zi (x:=.int (c.fmod 4)) (y:=.int 0) rfl rfl).trans (Xf _ _))
 unfold ent;generalize c.fmod 4=v at *
 by_cases hv:v=0
 · rw [if_pos hv]
   exact(Uk ((Xy (by rw [e1,decide_eq_true hv])).trans (ZU rfl)))
 · rw [if_neg hv,Zr ((YB (by rw [e1,decide_eq_false hv])).trans rfl)]
   refine ZU ((Zi (x:=.int (c.fdiv 4)) (y:=.int (lim v)) ((Zi (x:=.int c) (y:=.int 4) rfl rfl).trans (Us (e:=1) (by show 4<=10;decide) (by decide) (by decide))) ((Zi (y:=.int (v-1)) (ZjP _) ((Zi (x:=.int v) (y:=.int 1) rfl rfl).trans rfl)).trans (Zhy (by omega) b1))).trans (XB (Zg0 v).1))
theorem ZeU{ε:DL.Env->Option D}{δ0:DL.Env}(g:Nat->D)(m:Nat)(h0:0<δ0.length)(h:∀j:Nat,j<m->ε (δ0.set 0 (some (.int (j:Int))))=some (g j)):Z3 (Zs 0) (λ_=>some true) ε δ0 (ZO 0 1 m)=some ((List.range m).map g):=by
 rw [Zc3];exact XA nD g (List.range m) λj hj=>⟨δ0.set 0 (some (nD j)),by unfold Zs;simp [h0],h j (List.mem_range.mp hj)⟩
def UL(ns:List Int)(m k:Nat):List Int:=(List.range m).map λj=>ent (ns.getD (k*m+j) 0)
def tab(ns:List Int)(m k:Nat):List (List Int):=(List.range k).map (UL ns m)
theorem Zhz(ns:List Int)(m:Nat)(h1:1<=m)(h5:m<=4):TbW m (tab ns m m):=by
 refine⟨h1,h5,by unfold tab;simp,λr hr => ?_,λr hr x hx => ?_⟩
 · obtain⟨k,_,rfl⟩:=List.mem_map.mp hr
   unfold UL;simp
 · obtain⟨k,_,rfl⟩:=List.mem_map.mp hr
   obtain⟨j,_,rfl⟩:=List.mem_map.mp hx;exact ZjO _
noncomputable def wI:DL.Env->Option Out:=(sIf (xB (eOp eqD (eOp modW (Za 0) (eC (.int 3))) (eC (.int 0)))) (Zq (eOp addX (eC (.int 1)) (eOp modW (eOp fdivW (Za 0) (eC (.int 3))) (eC (.int 5))))) sNext)
noncomputable def wR:DL.Env->Option D:=(eOp addX (eC (.int 1)) (eOp modW (eOp fdivW (Za 0) (eC (.int 3))) (eOp addX (Za 2) (eC (.int 2)))))
theorem ZdC:f_QP=Zg (Zj 2 mxE) (Zg wI (Zq wR)):=rfl
theorem Zgn{m:Nat}{T:List (List Int)}(h:TbW m T)(c:Int):∃n:Int,1<=n/\n<=5000000000000/\ZhX [.int c,TD T]=some (.int n):=by
 obtain⟨b0,b1,_⟩:=ZjL h;have t1:Zj 2 mxE [some (.int c),some (TD T),none]=some (.nx [some (.int c),some (TD T),some (.int (YY T))]):=ZE (ZjM h rfl);have e0:eOp modW (Za 0) (eC (.int 3)) [some (.int c),some (TD T),some (.int (YY T))]=some (.int (c.fmod 3)):=(Zi (x:=.int c) (y:=.int 3) rfl rfl).trans (XB (by decide));have e1:eOp fdivW (Za 0) (eC (.int 3)) [some (.int c),some (TD T),some (.int (YY T))]=some (.int (c.fdiv 3)):=(Zi (x:=.int c) (y:=.int 3) rfl rfl).trans (Us (e:=1) (by show 3<=10;decide) (by decide) (by decide))
 have et:xB (eOp eqD (eOp modW (Za 0) (eC (.int 3))) (eC (.int 0))) [some (.int c),some (TD T),some (.int (YY T))]=some (decide (c.fmod 3=0)):=ZH ((Zi (y:=.int 0) e0 rfl).trans (Xf _ _))
 by_cases hz:c.fmod 3=0
 · obtain⟨c0,c1⟩:=Uo (a:=c.fdiv 3) (b:=5) (by decide)
   rw [decide_eq_true hz]at et;refine⟨1+(c.fdiv 3).fmod 5,by omega,by omega,Yi (δ:=[some (.int c),some (TD T),none]) rfl ?_⟩;rw [ZdC,Zr t1];exact Uk ((Xy et).trans (ZU ((Zi (x:=.int 1) rfl ((Zi (y:=.int 5) e1 rfl).trans (XB (by decide)))).trans (add_int _ _))))
 · obtain⟨c0,c1⟩:=Uo (a:=c.fdiv 3) (b:=YY T+2) (by omega)
   rw [decide_eq_false hz]at et;refine⟨1+(c.fdiv 3).fmod (YY T+2),by omega,by omega,Yi (δ:=[some (.int c),some (TD T),none]) rfl ?_⟩;have tn:wI [some (.int c),some (TD T),some (.int (YY T))]=some (.nx [some (.int c),some (TD T),some (.int (YY T))]):=(YB et).trans rfl;rw [ZdC,Zr t1,Zr tn];exact ZU ((Zi (x:=.int 1) rfl ((Zi e1 ((Zi (x:=.int (YY T)) (y:=.int 2) rfl rfl).trans (add_int _ _))).trans (XB (by omega)))).trans (add_int _ _))
end K30
namespace K30
open DL L2
theorem ZkN(a:Int):lap [[a]] 1 [0]=a:=by
 simp [lap,at2,List.range,List.range.loop]
theorem ZkO(a b e f:Int):lap [[a,e],[b,f]] 2 [0,1]=a*f-b*e:=by
 simp [lap,at2,List.range,List.range.loop]
 grind
theorem ZkP(a b c e f g i j k:Int):lap [[a,e,i],[b,f,j],[c,g,k]] 3 [0,1,2]=a*(f*k-g*j)-b*(e*k-g*i)+c*(e*j-f*i):=by
 simp [lap,at2,List.range,List.range.loop]
 grind
def d3(a b c d e f g h i:Int):Int:=a*(e*i-f*h)-b*(d*i-f*g)+c*(d*h-e*g)
theorem ZkQ(a b c d e f g h i j k l m n o p:Int):lap [[a,e,i,m],[b,f,j,n],[c,g,k,o],[d,h,l,p]] 4 [0,1,2,3]=a*d3 f g h j k l n o p-b*d3 e g h i k l m o p+c*d3 e f h i j l m n p-d*d3 e f g i j k m n o:=by
 simp [lap,at2,d3,List.range,List.range.loop]
 grind
section
variable{T:List (List Int)}{m:Nat}{n:Int}
def Ut(m:Nat):List Int:=List.replicate m 1
def c0(T:List (List Int))(n:Int)(m:Nat):Mt:=b0 (Yw T n m m) (Ut m) m
theorem ZfP{i j:Nat}(hi:i<m)(hj:j<m):c0 T n m i j=(if j=i then n else 0)-at2 T j i:=by
 have e1:c0 T n m i j=at2 (Yw T n m m) i j:=if_neg (by omega);rw [e1];unfold at2 Yw;have e2:((List.range m).map (sid T n m)).getD i []=sid T n m i:=by rw [List.getD_eq_getElem?_getD,List.getElem?_map,List.getElem?_range hi];rfl
 rw [e2];unfold sid;rw [List.getD_eq_getElem?_getD,List.getElem?_map,List.getElem?_range hj];rfl
theorem Zfr{i:Nat}(hi:i<m):c0 T n m i m=1:=by
 have e1:c0 T n m i m=(Ut m).getD i 0:=if_pos rfl;rw [e1];unfold Ut;rw [List.getD_eq_getElem?_getD,List.getElem?_replicate,if_pos hi];rfl
theorem Zg1(hnn:∀k j,0<=at2 T k j):Sg m 0 (c0 T n m):=by
 refine⟨λi c hi _ hc hne => ?_,λi hi => ?_,by show(0:Int)<1;decide⟩
 · show c0 T n m i c<=0
   rw [ZfP hi hc,if_neg (λz=>hne z.symm)];have:=hnn c i;omega
 · show 0<c0 T n m i m
   rw [Zfr hi]
   decide
theorem Zg2(hm:m<=4){q:Nat}(h1:1<=q)(hq:q<=m):dm q (c0 T n m)=YL T n q:=by
 have c1:YL T n 1=n-at2 T 0 0:=by
  have e:cor T n 1 1=[[n*1-at2 T 0 0]]:=rfl;unfold YL;rw [e,Int.mul_one];exact ZkN _
 have c2:YL T n 2=(n-at2 T 0 0)*(n-at2 T 1 1)-(0-at2 T 1 0)*(0-at2 T 0 1):=by
  have e:cor T n 2 2=[[n*1-at2 T 0 0,n*0-at2 T 0 1],[n*0-at2 T 1 0,n*1-at2 T 1 1]]:=rfl;unfold YL;rw [e,Int.mul_one,Int.mul_zero];exact ZkO _ _ _ _
 have c3:YL T n 3=d3 (n-at2 T 0 0) (0-at2 T 1 0) (0-at2 T 2 0) (0-at2 T 0 1) (n-at2 T 1 1) (0-at2 T 2 1) (0-at2 T 0 2) (0-at2 T 1 2) (n-at2 T 2 2):=by
  have e:cor T n 3 3=[[n*1-at2 T 0 0,n*0-at2 T 0 1,n*0-at2 T 0 2],[n*0-at2 T 1 0,n*1-at2 T 1 1,n*0-at2 T 1 2],[n*0-at2 T 2 0,n*0-at2 T 2 1,n*1-at2 T 2 2]]:=rfl;unfold YL;rw [e,Int.mul_one,Int.mul_zero];exact ZkP _ _ _ _ _ _ _ _ _
 have c4:YL T n 4=_:=ZkQ (n*1-at2 T 0 0) (n*0-at2 T 1 0) (n*0-at2 T 2 0) (n*0-at2 T 3 0) (n*0-at2 T 0 1) (n*1-at2 T 1 1) (n*0-at2 T 2 1) (n*0-at2 T 3 1) (n*0-at2 T 0 2) (n*0-at2 T 1 2) (n*1-at2 T 2 2) (n*0-at2 T 3 2) (n*0-at2 T 0 3) (n*0-at2 T 1 3) (n*0-at2 T 2 3) (n*1-at2 T 3 3);rw [Int.mul_one,Int.mul_zero]at c4;have:q=1\/q=2\/q=3\/q=4:=by omega
 have g:∀i j,i<q->j<q->c0 T n m i j=(if j=i then n else 0)-at2 T j i:=λi j hi hj=>ZfP (by omega) (by omega)
 rcases this with rfl|rfl|rfl|rfl
 · rw [c1]
   show c0 T n m 0 0=_;rw [g 0 0 (by decide) (by decide),if_pos rfl]
 · rw [c2]
   simp only [dm,e2];rw [g 0 0 (by decide) (by decide),g 0 1 (by decide) (by decide),g 1 0 (by decide) (by decide),g 1 1 (by decide) (by decide)];simp
 · rw [c3]
   simp only [dm,e2,e3];rw [g 0 0 (by decide) (by decide),g 0 1 (by decide) (by decide),g 0 2 (by decide) (by decide),g 1 0 (by decide) (by decide),g 1 1 (by decide) (by decide),g 1 2 (by decide) (by decide),g 2 0 (by decide) (by decide),g 2 1 (by decide) (by decide),g 2 2 (by decide) (by decide)];simp [d3]
 · rw [c4]
   simp only [dm,e2,e3,e4];rw [g 0 0 (by decide) (by decide),g 0 1 (by decide) (by decide),g 0 2 (by decide) (by decide),g 0 3 (by decide) (by decide),g 1 0 (by decide) (by decide),g 1 1 (by decide) (by decide),g 1 2 (by decide) (by decide),g 1 3 (by decide) (by decide),g 2 0 (by decide) (by decide),g 2 1 (by decide) (by decide),g 2 2 (by decide) (by decide),g 2 3 (by decide) (by decide),g 3 0 (by decide) (by decide),g 3 1 (by decide) (by decide),g 3 2 (by decide) (by decide),g 3 3 (by decide) (by decide)]
   simp [d3]
theorem ZdD(hm:m<=4):Xi T n m=true ↔ ∀q,q<=m->0<dm q (c0 T n m):=by
 unfold Xi;rw [List.all_eq_true];constructor
 · intro h q hq
   by_cases h0:q=0
   · subst h0;show(0:Int)<1;decide
   · rw [Zg2 hm (by omega) hq]
     exact of_decide_eq_true (h q (List.mem_range'_1.mpr (by omega)))
 · intro h q hq
   have:=List.mem_range'_1.mp hq;have h2:=h q (by omega);rw [Zg2 hm (by omega) (by omega)]at h2;exact decide_eq_true h2
theorem ZkR(h1:1<=m)(hm:m<=4)(b:Mt)(s:Int):Lin m 0 b (λj=>s*Mn m b j m) (s*dm m b):=λi _ hi=>by
 have h:=Zfj m b h1 hm i hi;have e:List.range' 0 (m-0)=List.range m:=by rw [Nat.sub_zero,List.range_eq_range']
 rw [e];show((List.range m).map λc=>b i c*(s*Mn m b c m)).sum=s*dm m b*b i m
 have hs:∀l:List Nat,(l.map λc=>b i c*(s*Mn m b c m)).sum=s*(l.map λc=>b i c*Mn m b c m).sum:=λl=>by
  induction l with
  |nil=>simp
  |cons x l ih=>
   rw [List.map_cons,List.map_cons,List.sum_cons,List.sum_cons,ih,Int.mul_add]
   grind
 rw [hs,h]
 grind
theorem ZeV(hnn:∀k j,0<=at2 T k j)(h1:1<=m)(hm:m<=4){s:Int}(hs:s=1\/s = -1)(hd:0<s*dm m (c0 T n m))(hx:∀i,i<m->0<s*Mn m (c0 T n m) i m):Xi T n m=true:=(ZdD hm).mpr λq hq=>(Zfl (Zg1 hnn) (ZkR h1 hm _ s) hm hd hx q hq).1.dpos
theorem ZaU(hnn:∀k j,0<=at2 T k j)(hm:m<=4)(h:Xi T n m=true):0<dm m (c0 T n m)/\∀i,i<m->0<Mn m (c0 T n m) i m:=by
 have hd:=(ZdD hm).mp h;exact⟨hd m (Nat.le_refl _),(Sg.upto (Zg1 hnn) hm hd m (Nat.le_refl _)).rhs⟩
end
end K30
namespace K30
open DL L2
abbrev FD(m:Nat)(f:Nat->Int×Int):D := .lst ((List.range m).map λi=>prD (f i))
def lc(f:Nat->Int×Int):Nat->Nat
 |0=>1
 |k+1=>Nat.lcm (lc f k) (f k).2.natAbs
theorem Zfs(f:Nat->Int×Int):∀(k j:Nat),j<k->(f j).2.natAbs∣lc f k
 |0,_,h=>absurd h (Nat.not_lt_zero _)
 |k+1,j,h=>by
  by_cases hj:j=k
  · rw [hj];exact Nat.dvd_lcm_right _ _
  · exact Nat.dvd_trans (Zfs f k j (by omega)) (Nat.dvd_lcm_left _ _)
theorem Zft(f:Nat->Int×Int){s:Nat}:∀k,(∀j,j<k->(f j).2.natAbs∣s)->lc f k∣s
 |0,_=>Nat.one_dvd _
 |k+1,h=>Nat.lcm_dvd (Zft f k λj hj=>h j (by omega)) (h k (by omega))
section
variable{m:Nat}{c:Mt}{f:Nat->Int×Int}
theorem Jm(hs:Sol m c f):∀k,0<lc f k
 |0=>Nat.one_pos
 |k+1=>Nat.lcm_pos (Jm hs k) (by have:=hs.pos k;omega)
theorem Zel(hs:Sol m c f):∀k,Bd (127*k) (lc f k:Int)
 |0=>by show((1:Nat):Int).natAbs<=10 ^ (127*0);decide
 |k+1=>by
  have h1:lc f (k+1)<=lc f k*(f k).2.natAbs:=Nat.le_of_dvd (Nat.mul_pos (Jm hs k) (by have:=hs.pos k;omega)) (Nat.lcm_dvd (Nat.dvd_mul_right _ _) (Nat.dvd_mul_left _ _));have h2:=(Zel hs k).mul (hs.b2 k);unfold Bd at *;rw [Int.natAbs_mul]at h2;rw [Int.natAbs_natCast]at *;exact Nat.le_trans h1 h2
theorem Zgo(hs:Sol m c f)(k:Nat):((lc f k:Int)*(f k).2).fdiv (Int.gcd (lc f k) (f k).2:Nat)=(lc f (k+1):Int):=by
 have hp:=hs.pos k;have e1:(f k).2=((f k).2.natAbs:Int):=by omega
 have hg:Int.gcd (lc f k) (f k).2=Nat.gcd (lc f k) (f k).2.natAbs:=rfl;rw [Int.fdiv_eq_ediv_of_nonneg _ (by omega),hg]
 conv=>lhs;rw [show(f k).2=((f k).2.natAbs:Int)from e1]
 rw [Int.natAbs_natCast,<-Int.natCast_mul,<-Int.natCast_ediv];rfl
theorem Qk{a b:DL.Env->Option Out}{δ δ':DL.Env}(h:a δ=some (.nx δ')):Y7 a b δ=b δ':=by
 unfold Y7;rw [h]
theorem ZdE{a b:DL.Env->Option Out}{δ:DL.Env}(h:a δ=some (.rt .non)):Y7 a b δ=some (.rt .non):=by
 unfold Y7;rw [h]
theorem UM{n:Nat}{f:DL.Env->Option Out}{vs:List D}{δ:DL.Env}{d:D}(h1:(vs.map some++List.replicate (n-vs.length) none)=δ)(h2:f δ=some (.rt d)):Y6 n f vs=some d:=by
 unfold Y6;rw [h1,h2]
noncomputable def p2:DL.Env->Option Out:=(Zj 2 (Zo 2 Q9 [] (Zb (Zo 2 Qd [] (Zb (Za 0) (Zb (Za 1) eNil))) (Zb (eOp Yq (Zz (Zb (eC (.int 1)) eNil)) (eCB lenD (Zb (Za 0) eNil))) eNil))))
noncomputable def pM:DL.Env->Option D:=(eCB minLD (Zb (ZV (Z2 (Za 2)) (Zs 0) (λ_=>some true) (eOp ixD (Za 0) (eC (.int 0))) 1 []) eNil))
noncomputable def pI:DL.Env->Option Out:=(sIf (xOr (xB (Xq (Za 2))) (xB (eOp (Z5 λi j=>decide (i<=j)) pM (eC (.int 0))))) (Zq (eC .non)) sNext)
noncomputable def pY:DL.Env->Option D:=(eOp ixD (Za 4) (eC (.int 1)))
noncomputable def pL:DL.Env->Option Out:=(Zj 3 (eOp fdivW (eOp mulX (Za 3) pY) (Zo 2 UG [] (Zb (Za 3) (Zb pY eNil)))))
noncomputable def pE:DL.Env->Option D:=(eOp mulX (eOp ixD (Za 0) (eC (.int 0))) (eOp fdivW (Za 1) (eOp ixD (Za 0) (eC (.int 1)))))
noncomputable def pZ:DL.Env->Option D:=(ZV (Z2 (Za 2)) (Zs 0) (λ_=>some true) pE 1 [3])
theorem ZaV:f_Q0=Y7 p2 (Y7 pI (Y7 (Zj 3 (eC (.int 1))) (Y7 (ZQ (Z2 (Za 2)) (Zs 4) pL) (Zq pZ)))):=rfl
abbrev P5(T:List (List Int))(n:Int)(v2 v3 v4:Option D):DL.Env:=[some (TD T),some (.int n),v2,v3,v4]
def fnd(m:Nat)(f:Nat->Int×Int):List Int:=(List.range m).map λi=>(f i).1*((lc f m:Int).fdiv (f i).2)
theorem ZjQ(hs:Sol m c f)(hm:m<=4)(T:List (List Int))(n:Int):∃w4,ZQ (Z2 (Za 2)) (Zs 4) pL (P5 T n (some (FD m f)) (some (.int 1)) none)=some (.nx (P5 T n (some (FD m f)) (some (.int (lc f m))) w4)):=by
 obtain⟨δ',g,w4,e⟩:=X1 (γ:=Zs 4) (φ:=pL) (λk δ=>∃w4,δ=P5 T n (some (FD m f)) (some (.int (lc f k))) w4) ((List.range m).map λi=>prD (f i)) 0 (P5 T n (some (FD m f)) (some (.int 1)) none) ⟨none,rfl⟩ (by
  rintro k x δ hx ⟨w4,rfl⟩
  have hk:k<m:=by
   have:=(List.getElem?_eq_some_iff.mp hx).1
   rwa [List.length_map,List.length_range]at this
  rw [List.getElem?_map,List.getElem?_range hk]at hx;cases hx;rw [Nat.zero_add];have hb:Bd 508 (lc f k:Int):=(Zel hs k).mono (by omega);have hp:=hs.pos k;have eY:pY (P5 T n (some (FD m f)) (some (.int (lc f k))) (some (prD (f k))))=some (.int (f k).2):=(Zi (x:=prD (f k)) (y:=.int 1) rfl rfl).trans rfl;have eG:Zo 2 UG [] (Zb (Za 3) (Zb pY eNil)) (P5 T n (some (FD m f)) (some (.int (lc f k))) (some (prD (f k))))=some (.int (Int.gcd (lc f k) (f k).2:Nat)):=(ZN (Zh (x:=.int (lc f k)) rfl (Zh eY nil_of)) rfl).trans (Zdy _ _)
  have hg:0<Int.gcd (lc f k) (f k).2:=Int.gcd_pos_of_ne_zero_right _ (by omega)
  have hgb:Bd 127 ((Int.gcd (lc f k) (f k).2:Nat):Int):=by
   have h1:Int.gcd (lc f k) (f k).2<=(f k).2.natAbs:=Nat.le_of_dvd (by omega) (Nat.gcd_dvd_right _ _);have:=hs.b2 k;unfold Bd at *;rw [Int.natAbs_natCast];exact Nat.le_trans h1 this
  exact⟨P5 T n (some (FD m f)) (some (.int (lc f k))) (some (prD (f k))),rfl,_,ZE ((Zi ((Zi (x:=.int (lc f k)) rfl eY).trans (UK hb (hs.b2 k) (by decide) (by decide))) eG).trans ((Us hgb (by decide) (by omega)).trans (by rw [Zgo hs k]))),some (prD (f k)),rfl⟩)
 subst e;rw [List.length_map,List.length_range,Nat.zero_add]at g;exact⟨w4,YG (Xz rfl) g⟩
theorem ZjR(hs:Sol m c f)(hm:m<=4)(T:List (List Int))(n:Int)(v4:Option D):pZ (P5 T n (some (FD m f)) (some (.int (lc f m))) v4)=some (IL (fnd m f)):=by
 have hb:Bd 508 (lc f m:Int):=(Zel hs m).mono (by omega)
 have hc:Z3 (Zs 0) (λ_=>some true) pE [none,some (.int (lc f m))] ((List.range m).map λi=>prD (f i))=some ((List.range m).map λi=>D.int ((f i).1*((lc f m:Int).fdiv (f i).2))):=XA (λi=>prD (f i)) (λi=>D.int ((f i).1*((lc f m:Int).fdiv (f i).2))) _ λi _=>⟨[some (prD (f i)),some (.int (lc f m))],rfl,by
  have hp:=hs.pos i;exact(Zi (x:=.int (f i).1) ((Zi (x:=prD (f i)) (y:=.int 0) rfl rfl).trans rfl) ((Zi (x:=.int (lc f m)) (y:=.int (f i).2) rfl ((Zi (x:=prD (f i)) (y:=.int 1) rfl rfl).trans rfl)).trans (Us (hs.b2 i) (by decide) (by omega)))).trans (UK (hs.b1 i) (hb.div hp) (by decide) (by decide))⟩
 refine(YX (Xz rfl) rfl hc (by rw [List.length_map,List.length_range];omega)).trans ?_;unfold fnd;rw [IL,List.map_map];rfl
theorem ZjS(h1:1<=m)(hm:m<=4)(f:Nat->Int×Int)(T:List (List Int))(n:Int)(v3 v4:Option D):∃i,pM (P5 T n (some (FD m f)) v3 v4)=some (.int i)/\((∀k,k<m->0<(f k).1) ↔ 0<i):=by
 have hc:Z3 (Zs 0) (λ_=>some true) (eOp ixD (Za 0) (eC (.int 0))) [none] ((List.range m).map λi=>prD (f i))=some ((List.range m).map λi=>D.int (f i).1):=XA (λi=>prD (f i)) (λi=>D.int (f i).1) _ λi _=>⟨[some (prD (f i))],rfl,(Zi (x:=prD (f i)) (y:=.int 0) rfl rfl).trans rfl⟩
 have e:(List.range m).map (λi=>D.int (f i).1)=((List.range m).map λi=>(f i).1).map D.int:=by rw [List.map_map];rfl
 rw [e]at hc;have hl:0<((List.range m).map λi=>(f i).1).length:=by rw [List.length_map,List.length_range];omega
 obtain⟨z1,z2⟩:=Zax hl;refine⟨XY ((List.range m).map λi=>(f i).1),?_,λh => ?_,λh k hk => ?_⟩
 · have e2 : minLD [.lst (((List.range m).map fun i => (f i).1).map D.int)] = some (.int (XY ((List.range m).map fun i => (f i).1))) := by
    unfold minLD;dsimp only;rw [QT];exact if_pos hl
   exact(ZY (Zh (YX (Xz rfl) rfl hc (by rw [List.length_map,List.length_map,List.length_range];omega)) nil_of)).trans e2
 · obtain⟨k,hk,e3⟩:=List.mem_map.mp z1
   rw [<-e3];exact h k (List.mem_range.mp hk)
 · have:=z2 (f k).1 (List.mem_map.mpr ⟨k,List.mem_range.mpr hk,rfl⟩)
   omega
end
end K30
namespace K30
open DL L2
theorem sgA{a x y N d:Int}(ha:a≠0)(h1:N=a*x)(h2:d=a*y)(hy:0<y)(hd:0<d)(hN:0<N):0<x:=by
 have hp:0<a:=by
  refine Int.not_le.mp λz => ?_
  have:=Int.mul_nonpos_of_nonneg_of_nonpos (Int.le_of_lt hy) z;rw [Int.mul_comm]at this;omega
 refine Int.not_le.mp λz => ?_
 have:=Int.mul_nonpos_of_nonneg_of_nonpos (Int.le_of_lt hp) z;omega
theorem sgB{a x y N d s:Int}(ha:a≠0)(h1:N=a*x)(h2:d=a*y)(hy:0<y)(hx:0<x)(hs:s=1\/s = -1)(hd:0<s*d):0<s*N:=by
 have hp:0<s*a:=by
  refine Int.not_le.mp λz => ?_
  have:=Int.mul_nonpos_of_nonneg_of_nonpos (Int.le_of_lt hy) z;rw [h2,<-Int.mul_assoc,Int.mul_comm]at hd;omega
 rw [h1,<-Int.mul_assoc];exact Int.mul_pos hp hx
section
variable{m:Nat}{T:List (List Int)}{n:Int}
theorem ZjT(h:TbW m T)(hn:Bd 13 n):Tb m (Yw T n m m) (Ut m):=by
 have hq:=Zgk h.sq hn;refine⟨h.m1,h.m4,⟨hq.ln,hq.rw,λr hr x hx=>(hq.bd r hr x hx).mono (by decide)⟩,by unfold Ut;rw [List.length_replicate],λx hx => ?_⟩;rw [List.eq_of_mem_replicate hx];show(1:Int).natAbs<=10 ^ 31
 decide
theorem Zgp(h:TbW m T)(v2 v3 v4:Option D):eOp Yq (Zz (Zb (eC (.int 1)) eNil)) (eCB lenD (Zb (Za 0) eNil)) (P5 T n v2 v3 v4)=some (IL (Ut m)):=by
 have h4:=h.m4;have e1:Zz (Zb (eC (.int 1)) eNil) (P5 T n v2 v3 v4)=some (.lst [.int 1]):=Xg (Zh (x:=.int 1) rfl nil_of) (by show 1<=1000;decide);have e2:eCB lenD (Zb (Za 0) eNil) (P5 T n v2 v3 v4)=some (.int (m:Int)):=(ZY (Zh (x:=TD T) rfl nil_of)).trans (len_lst.trans (by rw [List.length_map,h.ln]));have e3:Yq (.lst [.int 1]) (.int (m:Int))=some (.lst (List.replicate m [D.int 1]).flatten):=J8 (a:=[.int 1]) (n:=m) (by show 1*m<=100000;omega) (by omega)
 refine(Zi e1 e2).trans (e3.trans ?_);unfold Ut;rw [IL,List.map_replicate]
 have:∀k:Nat,(List.replicate k [D.int 1]).flatten=List.replicate k (D.int 1):=λk=>by
  induction k with
  |zero=>rfl
  |succ k ih=>rw [List.replicate_succ,List.flatten_cons,ih,List.replicate_succ];rfl
 rw [this]
theorem ZeW(h:TbW m T)(hn:Bd 13 n):(Xi T n m=false/\UH [TD T,.int n]=some .non)\/(Xi T n m=true/\∃f,Sol m (c0 T n m) f/\(∀i,i<m->0<(f i).1)/\0<dm m (c0 T n m)/\UH [TD T,.int n]=some (IL (fnd m f))):=by
 have h4:=h.m4;have h1:=h.m1;have hTb:=ZjT h hn;have eS:Zo 2 Qd [] (Zb (Za 0) (Zb (Za 1) eNil)) (P5 T n none none none)=some (TD (Yw T n m m)):=(ZN (Zh (x:=TD T) rfl (Zh (x:=.int n) rfl nil_of)) rfl).trans (ZeR h.sq h4 n);have ea:Zb (Zo 2 Qd [] (Zb (Za 0) (Zb (Za 1) eNil))) (Zb (eOp Yq (Zz (Zb (eC (.int 1)) eNil)) (eCB lenD (Zb (Za 0) eNil))) eNil) (P5 T n none none none)=some [TD (Yw T n m m),IL (Ut m)]:=Zh eS (Zh (Zgp h _ _ _) nil_of)
 rcases Zeg hTb with⟨z,hs⟩|⟨z,f,hs,hf⟩
 · left
   have t2:p2 (P5 T n none none none)=some (.nx (P5 T n (some .non) none none)):=ZE ((ZN ea rfl).trans hs);refine⟨?_,UM (δ:=P5 T n none none none) rfl ?_⟩
   · refine Bool.eq_false_iff.mpr λhb => ?_
     have:=(ZaU h.nn h4 hb).1;have z':dm m (c0 T n m)=0:=z;omega
   · rw [ZaV,Qk t2]
     exact ZdE ((Xy (show(xOr _ _) _=some true from rfl)).trans (ZU rfl))
 · have t2:p2 (P5 T n none none none)=some (.nx (P5 T n (some (FD m f)) none none)):=ZE ((ZN ea rfl).trans hf)
   obtain⟨i,ei,hi⟩:=ZjS h1 h4 f T n none none;have et:xOr (xB (Xq (Za 2))) (xB (eOp (Z5 λi j=>decide (i<=j)) pM (eC (.int 0)))) (P5 T n (some (FD m f)) none none)=some (decide (i<=0)):=Um (ZH rfl) (ZH ((Zi (y:=.int 0) ei rfl).trans rfl))
   by_cases hpos:∀k,k<m->0<(f k).1
   · right
     have hi0:=hi.mp hpos;rw [decide_eq_false (by omega)]at et
     have hslow:Xi T n m=true:=by
      have hz:dm m (c0 T n m)≠0:=z
      obtain⟨s,hss,hsd⟩:∃s:Int,(s=1\/s = -1)/\0<s*dm m (c0 T n m):=by
       rcases Int.lt_or_gt_of_ne hz with q|q
       · exact⟨-1,.inr rfl,by omega⟩
       · exact⟨1,.inl rfl,by omega⟩
      refine ZeV h.nn h1 h4 hss hsd λk hk => ?_
      obtain⟨a,a0,a1,a2⟩:=hs.fit k hk;exact sgB a0 a1 a2 (hs.pos k) (hpos k hk) hss hsd
     refine⟨hslow,f,hs,hpos,(ZaU h.nn h4 hslow).1,UM (δ:=P5 T n none none none) rfl ?_⟩;obtain⟨w4,gL⟩:=ZjQ hs h4 T n;have tI:pI (P5 T n (some (FD m f)) none none)=some (.nx (P5 T n (some (FD m f)) none none)):=(YB et).trans rfl;have t3:Zj 3 (eC (.int 1)) (P5 T n (some (FD m f)) none none)=some (.nx (P5 T n (some (FD m f)) (some (.int 1)) none)):=ZE rfl;rw [ZaV,Qk t2,Qk tI,Qk t3,Qk gL]
     exact ZU (ZjR hs h4 T n w4)
   · left
     have hi0:i<=0:=Int.not_lt.mp λq=>hpos (hi.mpr q)
     rw [decide_eq_true hi0]at et;refine⟨?_,UM (δ:=P5 T n none none none) rfl ?_⟩
     · refine Bool.eq_false_iff.mpr λhb=>hpos λk hk => ?_
       obtain⟨q1,q2⟩:=ZaU h.nn h4 hb;obtain⟨a,a0,a1,a2⟩:=hs.fit k hk;exact sgA a0 a1 a2 (hs.pos k) q1 (q2 k hk)
     · rw [ZaV,Qk t2]
       exact ZdE ((Xy et).trans (ZU rfl))
theorem ZbZ(m:Nat)(f:Nat->Int×Int){i:Nat}(hi:i<m):(fnd m f).getD i 0=(f i).1*((lc f m:Int).fdiv (f i).2):=by
 unfold fnd;rw [List.getD_eq_getElem?_getD,List.getElem?_map,List.getElem?_range hi];rfl
end
end K30
namespace K30
open DL L2
section
variable{m:Nat}{T:List (List Int)}{n:Int}{f:Nat->Int×Int}
theorem Zio{c:Mt}(hs:Sol m c f){i:Nat}(hi:i<m):(f i).2*((lc f m:Int).fdiv (f i).2)=lc f m/\0<(lc f m:Int).fdiv (f i).2:=by
 have hp:=hs.pos i;obtain⟨w,hw⟩:=Zfs f m i hi
 have e1:(lc f m:Int)=(f i).2*(w:Int):=by
  rw [hw,Int.natCast_mul];rw [show(((f i).2.natAbs:Nat):Int)=(f i).2 by omega]
 have e2:(lc f m:Int).fdiv (f i).2=w:=by rw [e1,Int.mul_fdiv_cancel_left _ (by omega)]
 rw [e2];refine⟨e1.symm,?_⟩;have hl:=Jm hs m;refine Int.not_le.mp λz => ?_
 have:w=0:=by omega
 rw [this]at hw;omega
theorem ZdF{α:Type}{d e:Int}{f g:α->Int}:∀l:List α,(∀x∈l,d*f x=e*g x)->d*(l.map f).sum=e*(l.map g).sum
 | [],_=>by simp
 |x::l,h=>by
  have h1:=ZdF (d:=d) (e:=e) (f:=f) (g:=g) l λy hy=>h y (List.mem_cons_of_mem _ hy)
  have h2:=h x List.mem_cons_self;rw [List.map_cons,List.map_cons,List.sum_cons,List.sum_cons,Int.mul_add,Int.mul_add,h1,h2]
theorem Zco(n:Int)(g t:Nat->Int)(j:Nat):∀m:Nat,((List.range m).map λk=>((if k=j then n else 0)-t k)*g k).sum=(if j<m then n*g j else 0)-((List.range m).map λk=>g k*t k).sum
 |0=>by simp
 |m+1=>by
  have ih:=Zco n g t j m;rw [List.range_succ,List.map_append,List.map_append,List.sum_append,List.sum_append,ih];simp only [List.map_cons,List.map_nil,List.sum_cons,List.sum_nil]
  by_cases h1:m=j
  · subst h1
    rw [if_pos rfl,if_neg (Nat.lt_irrefl _),if_pos (by omega),Int.sub_mul,Int.mul_comm (t m)];omega
  · rw [if_neg h1,Int.sub_mul,Int.zero_mul,Int.mul_comm (t m)]
    by_cases h2:j<m
    · rw [if_pos h2,if_pos (by omega)]
      omega
    · rw [if_neg h2,if_neg (by omega)]
      omega
theorem Zgq(h1:1<=m)(h4:m<=4)(hs:Sol m (c0 T n m) f)(hd:0<dm m (c0 T n m)){j:Nat}(hj:j<m):n*(fnd m f).getD j 0-((List.range m).map λk=>(fnd m f).getD k 0*at2 T k j).sum=lc f m:=by
 have hc:=Zfj m (c0 T n m) h1 h4 j hj;rw [Zfr hj,Int.one_mul]at hc
 have h2:dm m (c0 T n m)*((List.range m).map λk=>c0 T n m j k*(fnd m f).getD k 0).sum=(lc f m:Int)*((List.range m).map λk=>c0 T n m j k*Mn m (c0 T n m) k m).sum:=ZdF _ λk hk=>by
  have hk:=List.mem_range.mp hk;obtain⟨a,a0,a1,a2⟩:=hs.fit k hk;obtain⟨w1,_⟩:=Zio hs hk;rw [ZbZ m f hk,a1];generalize (lc f m:Int).fdiv (f k).2=w at *;rw [<-w1]
  conv=>lhs;rw [a2]
  grind
 rw [hc,Int.mul_comm (lc f m:Int)]at h2;have h3:=Int.eq_of_mul_eq_mul_left (Int.ne_of_gt hd) h2;have e:((List.range m).map λk=>c0 T n m j k*(fnd m f).getD k 0)=(List.range m).map λk=>((if k=j then n else 0)-at2 T k j)*(fnd m f).getD k 0:=List.map_congr_left λk hk=>by rw [ZfP hj (List.mem_range.mp hk)]
 rw [e,Zco n (λk=>(fnd m f).getD k 0) (λk=>at2 T k j) j m,if_pos hj]at h3;exact h3
theorem Zgr(hs:Sol m (c0 T n m) f)(hpos:∀i,i<m->0<(f i).1){i:Nat}(hi:i<m):0<(fnd m f).getD i 0:=by
 rw [ZbZ m f hi];exact Int.mul_pos (hpos i hi) (Zio hs hi).2
theorem Zgs(hs:Sol m (c0 T n m) f){g:Nat}(hg:g∣lc f m)(hf:∀i,i<m->(g:Int)∣(fnd m f).getD i 0):g=1:=by
 obtain⟨s,hsd⟩:=hg;have hlp:=Jm hs m
 have key:lc f m∣s:=Zft f m λi hi=>by
  obtain⟨w1,w2⟩:=Zio hs hi;obtain⟨t,ht⟩:=hf i hi;rw [ZbZ m f hi]at ht
  have hg0:(g:Int)≠0:=λz=>by
   have:g=0:=by omega
   rw [this,Nat.zero_mul]at hsd;omega
  have e1:(f i).1*(s:Int)=(f i).2*t:=by
   refine Int.eq_of_mul_eq_mul_left hg0 ?_;have e2:(g:Int)*(s:Int)=lc f m:=by rw [hsd,Int.natCast_mul]
   calc (g:Int)*((f i).1*(s:Int))=(f i).1*((g:Int)*(s:Int)):=by grind
    _=(f i).1*((f i).2*(lc f m:Int).fdiv (f i).2):=by rw [e2,w1]
    _=(f i).2*((f i).1*(lc f m:Int).fdiv (f i).2):=by grind
    _=(f i).2*((g:Int)*t):=by rw [ht]
    _=(g:Int)*((f i).2*t):=by grind
  have hdv:(f i).2∣(f i).1*(s:Int):=⟨t,e1⟩
  have hco:Nat.Coprime (f i).2.natAbs (f i).1.natAbs:=by
   have:=hs.gcd i;rw [Int.gcd_comm]at this;exact this
  have h2:=Int.natAbs_dvd_natAbs.mpr hdv;rw [Int.natAbs_mul,Int.natAbs_natCast]at h2;exact Nat.Coprime.dvd_of_dvd_mul_left hco h2
 have hs0:0<s:=Nat.pos_of_ne_zero λz=>by rw [z,Nat.mul_zero]at hsd;omega
 have hle:=Nat.le_of_dvd hs0 key;rw [hsd]at hle;have hg0:0<g:=Nat.pos_of_ne_zero λz=>by rw [z,Nat.zero_mul]at hsd;omega
 refine Nat.le_antisymm (Nat.not_lt.mp λq => ?_) hg0;have:2*s<=g*s:=Nat.mul_le_mul_right s q;omega
noncomputable def uT:DL.Env->Option Bool:=(xB (eOp neD (Za 2) (eC (.int 0))))
noncomputable def uB:DL.Env->Option Out:=(Zg (Zj 3 (eOp modW (Za 1) (Za 2))) (Zg (Zj 1 (Za 2)) (Zj 2 (Za 3))))
theorem ZeX:f_QN=Zg (Zj 1 (eC (.int 0))) (Zg (ZQ (Z2 (Za 0)) (Zs 2) (Z9 uT uB)) (Zq (eOp eqD (Za 1) (eC (.int 1))))):=rfl
def muA:DL.Env->Nat
 | [_,_,some (.int y),_]=>y.natAbs
 |_=>0
theorem euA(X:D)(g k:Nat)(v:Option D):∃δ,Z9 uT uB [some X,some (nD g),some (nD k),v]=some (.nx δ)/\∃w2 w3,δ=[some X,some (nD (Nat.gcd g k)),w2,w3]:=by
 obtain⟨δ,h1,x,w3,h2,h3⟩:=Q3 (τ:=uT) (φ:=uB) (λδ=>∃(x y:Nat) (v:Option D),δ=[some X,some (nD x),some (nD y),v]/\Nat.gcd x y=Nat.gcd g k) (λδ=>∃(x:Nat) (w3:Option D),δ=[some X,some (nD x),some (nD 0),w3]/\x=Nat.gcd g k) muA (by
  rintro δ ⟨x,y,v,rfl,hg⟩
  have et:uT [some X,some (nD x),some (nD y),v]=some (!decide ((y:Int)=0)):=ZH ((Zi (x:=nD y) (y:=.int 0) rfl rfl).trans (X0 _ _))
  by_cases hy:y=0
  · subst hy
    refine .inl ⟨et,x,v,rfl,?_⟩;rw [<-hg,Nat.gcd_zero_right]
  · rw [decide_eq_false (by omega)]at et
    have em:eOp modW (Za 1) (Za 2) [some X,some (nD x),some (nD y),v]=some (nD (x % y)):=(Zi (x:=nD x) (y:=nD y) rfl rfl).trans ((XB (by omega)).trans (by rw [Int.fmod_eq_emod_of_nonneg _ (by omega)];rfl));have t1:Zj 3 (eOp modW (Za 1) (Za 2)) [some X,some (nD x),some (nD y),v]=some (.nx [some X,some (nD x),some (nD y),some (nD (x % y))]):=ZE em;refine .inr ⟨et,[some X,some (nD y),some (nD (x % y)),some (nD (x % y))],(Zr t1).trans rfl,⟨y,x % y,_,rfl,?_⟩,?_⟩
    · rw [<-hg,Nat.gcd_comm x y,Nat.gcd_rec y x,Nat.gcd_comm]
    · show((x % y:Nat):Int).natAbs<((y:Nat):Int).natAbs
      rw [Int.natAbs_natCast,Int.natAbs_natCast];exact Nat.mod_lt _ (by omega)) [some X,some (nD g),some (nD k),v] ⟨g,k,v,rfl,rfl⟩
 subst h2;exact⟨_,h1,some (nD 0),w3,by rw [h3]⟩
theorem ZeY(l:List Nat):Jd [AD l]=some (.bl (decide (((l.foldl Nat.gcd 0:Nat):Int)=1))):=by
 have hl:∀(l2:List Nat)(g:Nat)(w2 w3:Option D),∃w2' w3',Yz (Zs 2) (Z9 uT uB) (l2.map nD) [some (AD l),some (nD g),w2,w3]=some (.nx [some (AD l),some (nD (l2.foldl Nat.gcd g)),w2',w3']):=λl2=>by
  induction l2 with
  |nil=>exact λg w2 w3=>⟨w2,w3,rfl⟩
  |cons x l2 ih=>
   intro g w2 w3;obtain⟨δ,h1,u2,u3,h2⟩:=euA (AD l) g x w3;subst h2;obtain⟨w2',w3',h3⟩:=ih (Nat.gcd g x) u2 u3;refine⟨w2',w3',?_⟩;rw [List.map_cons];unfold Yz;have hγ:Zs 2 (nD x) [some (AD l),some (nD g),w2,w3]=some [some (AD l),some (nD g),some (nD x),w3]:=rfl;rw [hγ];dsimp only;rw [h1];exact h3
 obtain⟨w2,w3,g⟩:=hl l 0 none none;refine Yi (δ:=[some (AD l),none,none,none]) rfl ?_;have t1:Zj 1 (eC (.int 0)) [some (AD l),none,none,none]=some (.nx [some (AD l),some (nD 0),none,none]):=ZE rfl;rw [ZeX,Zr t1,Zr (YG (Xz rfl) g)];exact ZU ((Zi (x:=nD (l.foldl Nat.gcd 0)) (y:=.int 1) rfl rfl).trans (Xf _ _))
theorem Zcp:∀(l:List Nat)(g:Nat),l.foldl Nat.gcd g∣g/\∀x∈l,l.foldl Nat.gcd g∣x
 | [],g=>⟨Nat.dvd_refl _,λ_ z=>nomatch z⟩
 |y::l,g=>by
  obtain⟨h1,h2⟩:=Zcp l (Nat.gcd g y);refine⟨Nat.dvd_trans h1 (Nat.gcd_dvd_left _ _),λx hx => ?_⟩;rcases List.mem_cons.mp hx with rfl|hx
  · exact Nat.dvd_trans h1 (Nat.gcd_dvd_right _ _)
  · exact h2 x hx
end
end K30
namespace K30
open DL L2
theorem ZaO{tab:List (String×Bool)}{ε:DL.Env->Option D}{δ:DL.Env}{d:D}{b:Bool}(h:ε δ=some d)(hb:Yv tab (λ_=>some d) δ=some (.bl b)):Yv tab ε δ=some (.bl b):=by
 unfold Yv at *;rw [h];exact hb
noncomputable def j0:DL.Env->Option Out:=(sIf (xOr (Yc (xB (Yv Qc (Za 0)))) (xB (eOp neD (eCB lenD (Zb (Za 0) eNil)) (Za 1)))) (Zq (eC (.bl false))) sNext)
noncomputable def j1:DL.Env->Option Out:=(sIf (Yc (xB (Zo 1 Jb [] (Zb (Za 2) eNil)))) (Zq (eC (.bl false))) sNext)
theorem ZhA:f_QT=Zg j0 (Zg (ZQ (Z2 (Za 0)) (Zs 2) j1) (Zq (eC (.bl true)))):=rfl
theorem ZbJ{F:List Int}{m:Nat}(hl:F.length=m):Up [IL F,nD m]=some (.bl true):=by
 have t0:j0 [some (IL F),some (nD m),none]=some (.nx [some (IL F),some (nD m),none]):=(YB (Um (Ul (b:=true) (ZH (ZaO (d:=IL F) rfl rfl))) (ZH ((Zi (x:=nD m) (y:=nD m) ((ZY (Zh (x:=IL F) rfl nil_of)).trans (len_lst.trans (by rw [List.length_map,hl]))) rfl).trans ((X0 _ _).trans (by rw [decide_eq_true rfl];rfl)))))).trans rfl
 obtain⟨δ',g,v2,e⟩:=J7 (γ:=Zs 2) (φ:=j1) (λδ=>∃v2,δ=[some (IL F),some (nD m),v2]) (F.map D.int) [some (IL F),some (nD m),none] ⟨none,rfl⟩ (by
  rintro x hx δ ⟨v2,rfl⟩
  obtain⟨i,_,rfl⟩:=List.mem_map.mp hx;exact⟨[some (IL F),some (nD m),some (.int i)],rfl,_,(YB (Ul (b:=true) (ZH ((ZN (Zh (x:=.int i) rfl nil_of) rfl).trans (Zee _))))).trans rfl,_,rfl⟩)
 subst e;refine Yi (δ:=[some (IL F),some (nD m),none]) rfl ?_;rw [ZhA,Zr t0,Zr (YG (Xz rfl) g)];exact ZU rfl
noncomputable def z3:DL.Env->Option Out:=(Zj 3 (eCB lenD (Zb (Za 0) eNil)))
noncomputable def zI:DL.Env->Option Out:=(sIf (xOr (Yc (xB (Zo 2 Up [] (Zb (Za 2) (Zb (Za 3) eNil))))) (xB (eOp (Z5 λi j=>decide (i<=j)) (eCB minLD (Zb (Za 2) eNil)) (eC (.int 0))))) (Zq (eC (.bl false))) sNext)
noncomputable def zE:DL.Env->Option D:=(eOp mulX (eOp ixD (Za 1) (Za 0)) (eOp ixD (eOp ixD (Za 2) (Za 0)) (Za 3)))
noncomputable def zC:DL.Env->Option D:=(ZV (ZI (Zb (Za 3) eNil)) (Zs 0) (λ_=>some true) zE 1 [2,0,5])
noncomputable def zA:DL.Env->Option Out:=(Z7 4 (eOp subD (eOp mulX (Za 1) (eOp ixD (Za 2) (Za 5))) (eCB sumLD (Zb zC eNil))))
noncomputable def z0:DL.Env->Option D:=(eOp ixD (Za 4) (eC (.int 0)))
noncomputable def zR:DL.Env->Option D:=(YC (eOp (Z5 λi j=>decide (j<i)) z0 (eC (.int 0))) (YC (eOp eqD (Za 4) (eOp Yq (Zz (Zb z0 eNil)) (Za 3))) (Zo 1 Jd [] (Zb (eOp addX (Za 2) (Zz (Zb z0 eNil))) eNil))))
theorem ZcQ:f_QE=Zg z3 (Zg zI (Zg (Zj 4 (Zz eNil)) (Zg (ZQ (ZI (Zb (Za 3) eNil)) (Zs 5) zA) (Zq zR)))):=rfl
theorem Zip{ι:DL.Env->Option (List D)}{δ:DL.Env}{m:Nat}(h:ι δ=some [.int (m:Int)])(hm:m<=4):ZI ι δ=some ((List.range m).map nD):=by
 rw [<-Zc3];exact(Vw h (by omega) (by omega)).trans (by rw [Int.toNat_natCast])
abbrev Z6(T:List (List Int))(n:Int)(F:List Int)(v3 v4 v5:Option D):DL.Env:=[some (TD T),some (.int n),some (IL F),v3,v4,v5]
section
variable{m:Nat}{T:List (List Int)}{n:Int}{f:Nat->Int×Int}
theorem ZdG:(fnd m f).length=m:=by unfold fnd;rw [List.length_map,List.length_range]
theorem Zfu(hs:Sol m (c0 T n m) f)(h4:m<=4){i:Nat}(hi:i<m):Bd 635 ((fnd m f).getD i 0):=by
 rw [ZbZ m f hi];have hb:Bd 508 (lc f m:Int):=(Zel hs m).mono (by omega);exact(hs.b1 i).mul (hb.div (hs.pos i))
theorem ZjU(h:TbW m T)(hn:Bd 13 n)(hs:Sol m (c0 T n m) f)(hd:0<dm m (c0 T n m)){j:Nat}(hj:j<m)(xs:List D)(hx:xs.length<=4):zA (Z6 T n (fnd m f) (some (nD m)) (some (.lst xs)) (some (nD j)))=some (.nx (Z6 T n (fnd m f) (some (nD m)) (some (.lst (xs++[nD (lc f m)]))) (some (nD j)))):=by
 have h4:=h.m4;have hat:∀{i:Nat},i<m->ixD (IL (fnd m f)) (nD i)=some (.int ((fnd m f).getD i 0)):=λhi=>Vf (by rw [ZdG];exact hi)
 have hc:Z3 (Zs 0) (λ_=>some true) zE [none,some (IL (fnd m f)),some (TD T),some (nD j)] ((List.range m).map nD)=some ((List.range m).map λk=>D.int ((fnd m f).getD k 0*at2 T k j)):=XA nD (λk=>D.int ((fnd m f).getD k 0*at2 T k j)) _ λk hk=>⟨[some (nD k),some (IL (fnd m f)),some (TD T),some (nD j)],rfl,by
  have hk:=List.mem_range.mp hk;exact(Zi ((Zi (x:=IL (fnd m f)) (y:=nD k) rfl rfl).trans (hat hk)) ((Zi (y:=nD j) ((Zi (x:=TD T) (y:=nD k) rfl rfl).trans (ZbV h.sq hk)) rfl).trans (ZbW h.sq hk hj))).trans (UK (Zfu hs h4 hk) (Qi h.sq hk hj) (by decide) (by decide))⟩
 have e:(List.range m).map (λk=>D.int ((fnd m f).getD k 0*at2 T k j))=((List.range m).map λk=>(fnd m f).getD k 0*at2 T k j).map D.int:=by rw [List.map_map];rfl
 rw [e]at hc;have eC:eCB sumLD (Zb zC eNil) (Z6 T n (fnd m f) (some (nD m)) (some (.lst xs)) (some (nD j)))=some (.int ((List.range m).map λk=>(fnd m f).getD k 0*at2 T k j).sum):=(ZY (Zh (YX (Zip (Zh rfl nil_of) h4) rfl hc (by rw [List.length_map,List.length_map,List.length_range];omega)) nil_of)).trans (ZaT _);have eM:eOp mulX (Za 1) (eOp ixD (Za 2) (Za 5)) (Z6 T n (fnd m f) (some (nD m)) (some (.lst xs)) (some (nD j)))=some (.int (n*(fnd m f).getD j 0)):=(Zi (x:=.int n) rfl ((Zi (x:=IL (fnd m f)) (y:=nD j) rfl rfl).trans (hat hj))).trans (UK hn (Zfu hs h4 hj) (by decide) (by decide))
 have eV:eOp subD (eOp mulX (Za 1) (eOp ixD (Za 2) (Za 5))) (eCB sumLD (Zb zC eNil)) (Z6 T n (fnd m f) (some (nD m)) (some (.lst xs)) (some (nD j)))=some (nD (lc f m)):=(Zi eM eC).trans ((Qh _ _).trans (by rw [Zgq h.m1 h4 hs hd hj]));exact Vx (xs:=xs) rfl eV (by omega)
theorem ZcR(h:TbW m T)(hn:Bd 13 n)(hs:Sol m (c0 T n m) f)(hpos:∀i,i<m->0<(f i).1)(hd:0<dm m (c0 T n m)):ZhU [TD T,.int n,IL (fnd m f)]=some (.bl true):=by
 have h4:=h.m4;have h1:=h.m1;have hlen:(fnd m f).length=m:=ZdG;have t3:z3 (Z6 T n (fnd m f) none none none)=some (.nx (Z6 T n (fnd m f) (some (nD m)) none none)):=ZE ((ZY (Zh (x:=TD T) rfl nil_of)).trans (len_lst.trans (by rw [List.length_map,h.ln])))
 have hmem:∀x∈fnd m f,0<x:=λx hx=>by
  obtain⟨i,hi,e⟩:=List.mem_iff_getElem.mp hx;have:=Zgr hs hpos (i:=i) (by omega);rw [List.getD_eq_getElem?_getD,List.getElem?_eq_getElem hi]at this;rw [<-e];exact this
 obtain⟨q1,_⟩:=Zax (ns:=fnd m f) (by omega);have hmin:=hmem _ q1
 have eM:eCB minLD (Zb (Za 2) eNil) (Z6 T n (fnd m f) (some (nD m)) none none)=some (.int (XY (fnd m f))):=by
  refine(ZY (Zh (x:=IL (fnd m f)) rfl nil_of)).trans ?_;unfold minLD;dsimp only;rw [QT];exact if_pos (by omega)
 have tI:zI (Z6 T n (fnd m f) (some (nD m)) none none)=some (.nx (Z6 T n (fnd m f) (some (nD m)) none none)):=(YB (Um (Ul (b:=true) (ZH ((ZN (Zh (x:=IL (fnd m f)) rfl (Zh (x:=nD m) rfl nil_of)) rfl).trans (ZbJ hlen)))) (ZH ((Zi (y:=.int 0) eM rfl).trans (show some (D.bl (decide (XY (fnd m f)<=0)))=some (.bl false) by rw [decide_eq_false (by omega)]))))).trans rfl;have t4:Zj 4 (Zz eNil) (Z6 T n (fnd m f) (some (nD m)) none none)=some (.nx (Z6 T n (fnd m f) (some (nD m)) (some (.lst [])) none)):=ZE rfl
 obtain⟨δ',g,w5,e⟩:=X1 (γ:=Zs 5) (φ:=zA) (λk δ=>∃w5,δ=Z6 T n (fnd m f) (some (nD m)) (some (AD (List.replicate k (lc f m)))) w5) ((List.range m).map nD) 0 (Z6 T n (fnd m f) (some (nD m)) (some (.lst [])) none) ⟨none,rfl⟩ (by
  rintro k x δ hx ⟨w5,rfl⟩
  have hk:k<m:=by
   have:=(List.getElem?_eq_some_iff.mp hx).1
   rwa [List.length_map,List.length_range]at this
  rw [List.getElem?_map,List.getElem?_range hk]at hx;cases hx;rw [Nat.zero_add];refine⟨Z6 T n (fnd m f) (some (nD m)) (some (AD (List.replicate k (lc f m)))) (some (nD k)),rfl,_,ZjU h hn hs hd hk _ (by rw [List.length_map,List.length_replicate];omega),some (nD k),?_⟩;rw [List.replicate_succ',AD,List.map_append];rfl)
 subst e;rw [List.length_map,List.length_range,Nat.zero_add]at g
 have hgo:∀w5,zR (Z6 T n (fnd m f) (some (nD m)) (some (AD (List.replicate m (lc f m)))) w5)=some (.bl true):=λw5=>by
  have e0:z0 (Z6 T n (fnd m f) (some (nD m)) (some (AD (List.replicate m (lc f m)))) w5)=some (nD (lc f m)):=(Zi (x:=AD (List.replicate m (lc f m))) (y:=nD 0) rfl rfl).trans ((ZfN (by rw [List.length_replicate];omega)).trans (by rw [List.getD_eq_getElem?_getD,List.getElem?_replicate,if_pos (by omega)];rfl));have hlp:=Jm hs m;have eL:Zz (Zb z0 eNil) (Z6 T n (fnd m f) (some (nD m)) (some (AD (List.replicate m (lc f m)))) w5)=some (.lst [nD (lc f m)]):=Xg (Zh e0 nil_of) (by show 1<=1000;decide)
  have a1:eOp (Z5 λi j=>decide (j<i)) z0 (eC (.int 0)) (Z6 T n (fnd m f) (some (nD m)) (some (AD (List.replicate m (lc f m)))) w5)=some (.bl true):=(Zi (y:=.int 0) e0 rfl).trans (show some (D.bl (decide ((0:Int)<(lc f m:Int))))=some (.bl true) by rw [decide_eq_true (by omega)])
  have hfl:∀k:Nat,(List.replicate k [nD (lc f m)]).flatten=(List.replicate k (lc f m)).map nD:=λk=>by
   induction k with
   |zero=>rfl
   |succ k ih=>rw [List.replicate_succ,List.flatten_cons,ih,List.replicate_succ,List.map_cons];rfl
  have e3:Yq (.lst [nD (lc f m)]) (nD m)=some (AD (List.replicate m (lc f m))):=(J8 (a:=[nD (lc f m)]) (n:=m) (by show 1*m<=100000;omega) (by omega)).trans (by rw [hfl]);have hsh:PySem.SeqAt.shaped (toP (AD (List.replicate m (lc f m))))=true:=ZgZ (k:=1) (Zc7 (Zc8 λa=>Zfq 0 _)) (by decide);have a2:eOp eqD (Za 4) (eOp Yq (Zz (Zb z0 eNil)) (Za 3)) (Z6 T n (fnd m f) (some (nD m)) (some (AD (List.replicate m (lc f m)))) w5)=some (.bl true):=(Zi (x:=AD (List.replicate m (lc f m))) rfl ((Zi (y:=nD m) eL rfl).trans e3)).trans (Zcm rfl hsh)
  have eA:eOp addX (Za 2) (Zz (Zb z0 eNil)) (Z6 T n (fnd m f) (some (nD m)) (some (AD (List.replicate m (lc f m)))) w5)=some (AD ((fnd m f).map Int.toNat++[lc f m])):=by
   refine(Zi (x:=IL (fnd m f)) rfl eL).trans ((ZbG (by rw [List.length_map,hlen];show m+1<=_;omega)).trans ?_)
   have e4:(fnd m f).map D.int=((fnd m f).map Int.toNat).map nD:=by
    rw [List.map_map];refine List.map_congr_left λx hx => ?_
    have:=hmem x hx;show D.int x=D.int ((x.toNat:Nat):Int);rw [Int.toNat_of_nonneg (by omega)]
   rw [AD,List.map_append,<-e4];rfl
  have hone:((fnd m f).map Int.toNat++[lc f m]).foldl Nat.gcd 0=1:=by
   obtain⟨_,d2⟩:=Zcp ((fnd m f).map Int.toNat++[lc f m]) 0;refine Zgs hs (d2 _ (List.mem_append_right _ List.mem_cons_self)) λi hi => ?_
   have hx:=ZbU (l:=fnd m f) (i:=i) (by omega);have:=d2 _ (List.mem_append_left _ (List.mem_map.mpr ⟨_,hx,rfl⟩));have hp:=hmem _ hx;have:=Int.natCast_dvd_natCast.mpr this
   rwa [Int.toNat_of_nonneg (by omega)]at this
  have a3:Zo 1 Jd [] (Zb (eOp addX (Za 2) (Zz (Zb z0 eNil))) eNil) (Z6 T n (fnd m f) (some (nD m)) (some (AD (List.replicate m (lc f m)))) w5)=some (.bl true):=(ZN (Zh eA nil_of) rfl).trans ((ZeY _).trans (by rw [hone];rfl));exact J5 a1 (J5 a2 a3)
 refine Yi (δ:=Z6 T n (fnd m f) none none none) rfl ?_;rw [ZcQ,Zr t3,Zr tI,Zr t4,Zr (YG (Zip (Zh rfl nil_of) h4) g)];exact ZU (hgo w5)
end
end K30
namespace K30
open DL L2
theorem ZaC:∀xs ys:List Int,PySem.PyData.eqvAll (Yu (xs.map D.int)) (Yu (ys.map D.int))=decide (xs=ys)
 | [],[]=>rfl
 | [],y::ys=>rfl
 |x::xs,[]=>rfl
 |x::xs,y::ys=>by
  rw [List.map_cons,List.map_cons,Yu,Yu,PySem.PyData.eqvAll,ZaC xs ys];show((x == y)&&decide (xs=ys))=decide (x::xs=y::ys)
  by_cases h1:x=y
  · by_cases h2:xs=ys
    · simp [h1,h2]
    · simp [h1,h2]
  · simp [h1]
theorem Zcq(xs ys:List Int):eqD (IL xs) (IL ys)=some (.bl (decide (xs=ys))):=by
 unfold eqD;rw [if_neg (by simp [ZD]),ZaB,ZaB,if_pos (by rfl)];show some (D.bl (PySem.PyData.eqvAll (Yu (xs.map D.int)) (Yu (ys.map D.int))))=_;rw [ZaC]
theorem Zar(xs ys:List Int):neD (IL xs) (IL ys)=some (.bl (!decide (xs=ys))):=by
 unfold neD;rw [Zcq]
theorem Zbo{γ:D->DL.Env->Option DL.Env}{ε:DL.Env->Option D}{δ0 δ1:DL.Env}{x y:D}{r ys:List D}(h1:γ x δ0=some δ1)(h2:ε δ1=some y)(h3:Z3 γ (λ_=>some true) ε δ0 r=some ys):Z3 γ (λ_=>some true) ε δ0 (x::r)=some (y::ys):=by
 unfold Z3;rw [h1];dsimp only;rw [h2,h3]
theorem ZaW{ε:DL.Env->Option D}{δ0:DL.Env}(g:Int->Int->D):∀(as bs:List Int),(∀p∈as.zip bs,ε ((δ0.set 0 (some (.int p.1))).set 1 (some (.int p.2)))=some (g p.1 p.2))->Z3 (YR 2 (Z8 0 (Z8 1 gsNil))) (λ_=>some true) ε δ0 (Ym (as.map D.int) (bs.map D.int))=some ((as.zip bs).map λp=>g p.1 p.2)
 | [],bs,_=>by cases bs<;>rfl
 |a::as,[],_=>rfl
 |a::as,b::bs,h=>by
  rw [List.map_cons,List.map_cons,Ym,List.zip_cons_cons,List.map_cons];refine Zbo (δ1:=(δ0.set 0 (some (.int a))).set 1 (some (.int b))) rfl (h (a,b) (by rw [List.zip_cons_cons];exact List.mem_cons_self)) (ZaW g as bs λp hp=>h p (by rw [List.zip_cons_cons];exact List.mem_cons_of_mem _ hp))
theorem Zcr{α:Type}(emb g:α->D){ε:DL.Env->Option D}{δ0:DL.Env}:∀L:List α,(∀a∈L,ε (δ0.set 0 (some (emb a)))=some (g a))->Z3 (Zs 0) (λ_=>some true) ε δ0 (L.map emb)=some (L.map g)
 | [],_=>rfl
 |a::L,h=>by
  rw [List.map_cons,List.map_cons];exact Zbo (δ1:=δ0.set 0 (some (emb a))) rfl (h a List.mem_cons_self) (Zcr emb g L λx hx=>h x (List.mem_cons_of_mem _ hx))
theorem Zcs{ε1 ε2:DL.Env->Option D}{δ:DL.Env}{xs ys:List D}(h1:ε1 δ=some (.lst xs))(h2:ε2 δ=some (.lst ys)):XX ε1 ε2 δ=some (Ym xs ys):=by
 unfold XX;rw [h1,h2];rfl
theorem ZbK{a b:DL.Env->Option Out}{δ δ':DL.Env}(h:a δ=some (.nx δ')):Xw a b δ=b δ':=by
 unfold Xw;rw [h]
theorem mulL{i j:Int}(h0:0<=i)(h1:i<10000000000000000000):mulX (.int i) (.int j)=some (.int (i*j)):=if_pos (.inr (.inl ⟨by omega,by omega⟩))
def dot(r w:List Int):Int:=((r.zip w).map λp=>p.1*p.2).sum
def YZ(T:List (List Int))(w:List Int):List Int:=T.map λr=>dot r w
def mn(t x:Int):Int:=if t<x then t else x
def shr(T:List (List Int))(n:Int)(w:List Int):List Int:=((YZ T w).zip w).map λp=>mn (p.1.fdiv n) p.2
theorem ZaX{m:Nat}{T:List (List Int)}(h:TbW m T)(w:List Int):(YZ T w).length=m:=by unfold YZ;rw [List.length_map];exact h.ln
theorem ZdH{m:Nat}{T:List (List Int)}(h:TbW m T)(n:Int){w:List Int}(hw:w.length=m):(shr T n w).length=m:=by
 unfold shr;rw [List.length_map,List.length_zip,ZaX h,hw];omega
noncomputable def inE:DL.Env->Option D:=(ZV (XX (Za 0) (Za 1)) (YR 2 (Z8 0 (Z8 1 gsNil))) (λ_=>some true) (eOp mulX (Za 0) (Za 1)) 2 [])
theorem ZjV{r w:List Int}(hr:∀x∈r,0<=x/\x<1000000000000)(hl:r.length<=1000):inE [some (IL r),some (IL w)]=some (IL ((r.zip w).map λp=>p.1*p.2)):=by
 have hc:=ZaW (ε:=eOp mulX (Za 0) (Za 1)) (δ0:=[none,none]) (λa b => .int (a*b)) r w (λp hp=>by
  obtain⟨h0,h1⟩:=hr p.1 (List.of_mem_zip (show(p.1,p.2)∈r.zip w from hp)).1;exact(Zi (x:=.int p.1) (y:=.int p.2) rfl rfl).trans (mulL h0 (by omega)))
 have e:((r.zip w).map λp=>p.1*p.2).map D.int=(r.zip w).map λp=>D.int (p.1*p.2):=by rw [List.map_map];rfl
 unfold inE;show _=some (D.lst (((r.zip w).map λp=>p.1*p.2).map D.int));rw [e];exact YX (Zcs rfl rfl) rfl hc (by rw [List.length_map,List.length_zip];omega)
noncomputable def boE:DL.Env->Option D:=(eCB sumLD (Zb inE eNil))
theorem ZeZ:f_Q1=Zq (ZV (Z2 (Za 0)) (Zs 0) (λ_=>some true) boE 1 [1]):=rfl
theorem Ze0{m:Nat}{T:List (List Int)}(h:TbW m T)(w:List Int):ZhS [TD T,IL w]=some (IL (YZ T w)):=by
 have m4:=h.m4
 have hc:=Zcr IL (λr=>D.int (dot r w)) (ε:=boE) (δ0:=[none,some (IL w)]) T (λr hr=>by
  have hi:=ZjV (w:=w) (h.en r hr) (by rw [h.rl r hr];omega);exact(ZY (Zh hi nil_of)).trans (ZaT _))
 refine Yi (δ:=[some (TD T),some (IL w)]) rfl ?_;rw [ZeZ];refine ZU ?_;have e:(YZ T w).map D.int=T.map λr=>D.int (dot r w):=by unfold YZ;rw [List.map_map];rfl
 show _=some (D.lst ((YZ T w).map D.int));rw [e];exact YX (Xz rfl) rfl hc (by rw [List.length_map,h.ln];omega)
noncomputable def shE:DL.Env->Option D:=(eCB minD (Zb (Za 1) (Zb (eOp fdivW (Za 0) (Za 2)) eNil)))
noncomputable def zwE(ε:DL.Env->Option D):DL.Env->Option D:=(ZV (XX (Zo 2 ZhS [] (Zb (Za 0) (Zb (Za 2) eNil))) (Za 2)) (YR 2 (Z8 0 (Z8 1 gsNil))) (λ_=>some true) ε 2 [1])
theorem Zei:f_QZ=Zq (zwE shE):=rfl
theorem ZkS{m:Nat}{T:List (List Int)}(h:TbW m T)(n:Int)(w:List Int){ε:DL.Env->Option D}(g:Int->Int->D)(hg:∀p∈(YZ T w).zip w,ε [some (.int p.1),some (.int p.2),some (.int n)]=some (g p.1 p.2)):zwE ε [some (TD T),some (.int n),some (IL w)]=some (.lst (((YZ T w).zip w).map λp=>g p.1 p.2)):=by
 have m4:=h.m4;have hl:=ZaX h w;unfold zwE;exact YX (Zcs ((ZN (n:=2) (Zh (x:=TD T) rfl (Zh (x:=IL w) rfl nil_of)) rfl).trans (Ze0 h w)) rfl) rfl (ZaW (δ0:=[none,none,some (.int n)]) g (YZ T w) w hg) (by rw [List.length_map,List.length_zip];omega)
theorem Zbp{m:Nat}{T:List (List Int)}(h:TbW m T){n:Int}(n0:0<n)(n1:Bd 13 n)(w:List Int):UI [TD T,.int n,IL w]=some (IL (shr T n w)):=by
 have hz:=ZkS h n w (ε:=shE) (λt x => .int (mn (t.fdiv n) x)) (λp _=>by
  unfold shE;exact(ZY (Zh (x:=.int p.2) rfl (Zh (x:=.int (p.1.fdiv n)) ((Zi (x:=.int p.1) (y:=.int n) rfl rfl).trans (Us n1 (by decide) (by omega))) nil_of))).trans rfl)
 refine UM (δ:=[some (TD T),some (.int n),some (IL w)]) rfl ?_;rw [Zei];refine ZU (hz.trans ?_);unfold shr;show _=some (D.lst ((((YZ T w).zip w).map λp=>mn (p.1.fdiv n) p.2).map D.int));rw [List.map_map];rfl
end K30
namespace K30
open DL L2
theorem Zgt{M:List Int}{k:Nat}(hk:k<M.length):M.getD k 0=M[k]:=by
 rw [List.getD_eq_getElem?_getD,List.getElem?_eq_getElem hk];rfl
theorem Zct:∀(r w:List Int)(k:Nat),k<r.length->k<w.length->dot (r.take (k+1)) w=dot (r.take k) w+r.getD k 0*w.getD k 0
 | [],w,k,h,_=>by simp at h
 |a::r,[],k,_,h=>by simp at h
 |a::r,b::w,0,_,_=>by simp [dot]
 |a::r,b::w,k+1,h1,h2=>by
  have ih:=Zct r w k (by simpa using h1) (by simpa using h2);have e:∀r:List Int,dot (a::r) (b::w)=a*b+dot r w:=λr=>by simp [dot]
  rw [List.take_succ_cons,List.take_succ_cons,e,e,ih];simp;omega
structure Wt(m:Nat)(w:List Int):Prop where
 ln:w.length=m
 nn:∀x∈w,0<=x
theorem Zfv:∀(r w:List Int),(∀x∈r,0<=x)->(∀x∈w,0<=x)->0<=dot r w
 | [],w,_,_=>by simp [dot]
 |a::r,[],_,_=>by simp [dot]
 |a::r,b::w,h1,h2=>by
  have ih:=Zfv r w (λx hx=>h1 x (List.mem_cons_of_mem _ hx)) (λx hx=>h2 x (List.mem_cons_of_mem _ hx));have e:dot (a::r) (b::w)=a*b+dot r w:=by simp [dot]
  have:=Int.mul_nonneg (h1 a List.mem_cons_self) (h2 b List.mem_cons_self);omega
theorem ZjW{t x:Int}(h1:0<=t)(h2:0<=x):0<=mn t x:=by
 unfold mn
 split<;>assumption
theorem ZjX(t x:Int):mn t x<=x:=by
 unfold mn
 split<;>omega
theorem ZhB{m:Nat}{T:List (List Int)}(h:TbW m T){n:Int}(n0:0<n){w:List Int}(hw:Wt m w):Wt m (shr T n w):=by
 refine⟨ZdH h n hw.ln,λx hx => ?_⟩;unfold shr at hx;obtain⟨p,hp,rfl⟩:=List.mem_map.mp hx;obtain⟨h1,h2⟩:=List.of_mem_zip (show(p.1,p.2)∈(YZ T w).zip w from hp);unfold YZ at h1;obtain⟨r,hr,e⟩:=List.mem_map.mp h1;refine ZjW ?_ (hw.nn _ h2);rw [<-e];exact Int.fdiv_nonneg (Zfv r w (λx hx=>(h.en r hr x hx).1) hw.nn) (by omega)
theorem Zkj(f:Int->Int):∀(ts ws:List Int),ts.length=ws.length->((ts.zip ws).map λp=>mn (f p.1) p.2).sum<=ws.sum/\(((ts.zip ws).map λp=>mn (f p.1) p.2)≠ws->((ts.zip ws).map λp=>mn (f p.1) p.2).sum<ws.sum)
 | [],[],_=>⟨by simp,λz=>absurd rfl z⟩
 | [],_::_,h=>by simp at h
 |_::_,[],h=>by simp at h
 |t::ts,x::ws,h=>by
  obtain⟨i1,i2⟩:=Zkj f ts ws (by simpa using h);have hle:=ZjX (f t) x;rw [List.zip_cons_cons,List.map_cons,List.sum_cons,List.sum_cons];show mn (f t) x+_<=_/\_;refine⟨by omega,λhne => ?_⟩
  by_cases hx:mn (f t) x=x
  · have:((ts.zip ws).map λp=>mn (f p.1) p.2)≠ws:=λz=>hne (by rw [z];show mn (f t) x::ws=_;rw [hx])
    have:=i2 this;show mn (f t) x+_<_;omega
  · show mn (f t) x+_<_
    omega
theorem Zcu{m:Nat}{T:List (List Int)}(h:TbW m T)(n:Int){w:List Int}(hw:Wt m w)(hne:shr T n w≠w):(shr T n w).sum<w.sum:=(Zkj (λt=>t.fdiv n) (YZ T w) w (by rw [ZaX h,hw.ln])).2 hne
def it(T:List (List Int))(n:Int)(w:List Int):Nat->List Int
 |0=>w
 |k+1=>shr T n (it T n w k)
theorem Qm{m:Nat}{T:List (List Int)}(h:TbW m T){n:Int}(n0:0<n){w:List Int}(hw:Wt m w):∀k,Wt m (it T n w k)
 |0=>hw
 |k+1=>ZhB h n0 (Qm h n0 hw k)
def told(T:List (List Int))(n:Int)(w:List Int)(j:Nat):List D:=(List.range (j+1)).map λk=>IL (it T n w k)
theorem Jn(T:List (List Int))(n:Int)(w:List Int)(j:Nat):(told T n w j).length=j+1:=by unfold told;simp
theorem Zbq(T:List (List Int))(n:Int)(w:List Int)(j:Nat):told T n w (j+1)=told T n w j++[IL (it T n w (j+1))]:=by
 unfold told;rw [List.range_succ,List.map_append];rfl
theorem Zgu{T:List (List Int)}{n:Int}{w:List Int}{j k:Nat}(hk:k<=j):(told T n w j)[k]? = some (IL (it T n w k)):=by
 unfold told;rw [List.getElem?_map,List.getElem?_range (by omega)];rfl
theorem ZaY(n:Nat):ixN (n+1) (-1)=some n:=by
 unfold ixN;rw [if_neg (by decide),if_pos (by omega)];exact congrArg some (by omega)
theorem ZaP{κ:DL.Env->Option D}{δ:DL.Env}{T:List (List Int)}{n:Int}{w:List Int}{j:Nat}(h:κ δ=some (.lst (told T n w j))):eOp ixD κ (eUn Yl (eC (.int 1))) δ=some (IL (it T n w j)):=by
 refine(Zi (x:=.lst (told T n w j)) (y:=.int (-1)) h rfl).trans ?_;refine ZbB (j:=j) ?_ (Zgu (Nat.le_refl _));rw [Jn];exact ZaY j
theorem ZaQ(xs:List Int):(xs.map D.int).all ZD=true:=by
 rw [List.all_map];exact List.all_eq_true.mpr λ_ _=>rfl
theorem Ze1{ε:DL.Env->Option D}{δ:DL.Env}{xs:List Int}(h:ε δ=some (IL xs)):U2 ε δ=some (IL xs):=by
 unfold U2;rw [h];exact if_pos (ZaQ xs)
theorem Ze2{i k:Nat}{ε:DL.Env->Option D}{δ:DL.Env}{xs:List D}{r ys:List Int}(h1:Za i δ=some (.lst xs))(h2:Za k δ=some (IL r))(hl:xs.length<=1000)(h3:ε (δ.set i none)=some (IL ys)):U3 i k ε δ=some (.nx (((δ.set k none).set i (some (.lst (xs++[IL r])))).set k (some (IL ys)))):=by
 unfold U3;rw [h1,h2];dsimp only;rw [if_pos ⟨by rw [PySem.sizeLine_eq];omega,ZaQ r⟩,Ze1 h3]
theorem Zgv{ε:DL.Env->Option D}{δ:DL.Env}{xs:List D}{rs:List (List D)}(h:ε δ=some (.lst xs))(hr:Ug xs=some rs):U1 ε δ=some (.lst xs):=by
 unfold U1;rw [h];dsimp only;rw [hr]
theorem ZhC{i:Nat}{ε:DL.Env->Option D}{δ:DL.Env}{d:D}(h:ε δ=some d)(hi:i<δ.length):UZ i ε δ=some (.nx (δ.set i (some d))):=by
 unfold UZ;rw [h];exact if_pos hi
theorem Zgw{i:Nat}{φ:DL.Env->Option Out}{δ δ0 δ' δ'':DL.Env}(e:δ.set i none=δ0)(h:φ δ0=some (.nx δ'))(hi:δ'[i]? = some none)(hr:δ'.set i ((δ[i]?).getD none)=δ''):UY i φ δ=some (.nx δ''):=by
 subst e hr;unfold UY;rw [h];dsimp only;rw [hi]
noncomputable def r1:DL.Env->Option Out:=(UZ 3 (U1 (Zz (Zb (eCB Y5 (Zb (Za 2) eNil)) eNil))))
noncomputable def r2:DL.Env->Option Out:=(UY 3 (Zj 4 (Zo 3 UI [] (Zb (Za 0) (Zb (Za 1) (Zb (Za 2) eNil))))))
noncomputable def rT:DL.Env->Option Bool:=(xB (eOp neD (Za 4) (eOp ixD (Za 3) (eUn Yl (eC (.int 1))))))
noncomputable def rB:DL.Env->Option Out:=(U3 3 4 (Zo 3 UI [] (Zb (Za 0) (Zb (Za 1) (Zb (Za 4) eNil)))))
theorem Zej:f_QY=Xw r1 (Xw r2 (Xw (Z9 rT rB) (Zq (Za 3)))):=rfl
abbrev RE(T:List (List Int))(n:Int)(w:List Int)(v3 v4:Option D):DL.Env:=[some (TD T),some (.int n),some (IL w),v3,v4]
theorem Zek{m:Nat}{T:List (List Int)}(h:TbW m T){n:Int}(n0:0<n)(n1:Bd 13 n){w:List Int}(hw:Wt m w)(hsum:w.sum<=500):∃J,J<=500/\it T n w (J+1)=it T n w J/\(∀k,k<J->it T n w (k+1)≠it T n w k)/\Qe [TD T,.int n,IL w]=some (.lst (told T n w J)):=by
 have t1:r1 (RE T n w none none)=some (.nx (RE T n w (some (.lst (told T n w 0))) none)):=by
  have e1:Zz (Zb (eCB Y5 (Zb (Za 2) eNil)) eNil) (RE T n w none none)=some (.lst [IL w]):=Xg (Zh ((ZY (Zh (x:=IL w) rfl nil_of)).trans rfl) nil_of) (by show 1<=1000;decide)
  have e2:Ug [IL w]=some [w.map D.int]:=by
   show(if(w.map D.int).all ZD=true then(match Ug []with
    |some rs=>some (w.map D.int::rs)
    |none=>none)else none)=_
   rw [if_pos (ZaQ w)];rfl
  unfold r1;exact ZhC (Zgv e1 e2) (by show 3<5;decide)
 have t2:r2 (RE T n w (some (.lst (told T n w 0))) none)=some (.nx (RE T n w (some (.lst (told T n w 0))) (some (IL (it T n w 1))))):=by
  unfold r2;exact Zgw (δ0:=RE T n w none none) (δ':=RE T n w none (some (IL (it T n w 1)))) rfl (ZE ((ZN (n:=3) (Zh (x:=TD T) rfl (Zh (x:=.int n) rfl (Zh (x:=IL w) rfl nil_of))) rfl).trans (Zbp h n0 n1 w))) rfl rfl
 obtain⟨δ',h1,J,e,hJ,hle,hne⟩:=Q3 (τ:=rT) (φ:=rB) (λδ=>∃j:Nat,δ=RE T n w (some (.lst (told T n w j))) (some (IL (it T n w (j+1))))/\(j:Int)+(it T n w j).sum<=w.sum/\∀k,k<j->it T n w (k+1)≠it T n w k)
  (λδ=>∃j:Nat,δ=RE T n w (some (.lst (told T n w j))) (some (IL (it T n w (j+1))))/\it T n w (j+1)=it T n w j/\j<=500/\∀k,k<j->it T n w (k+1)≠it T n w k)
  (λδ=>match Za 3 δ with|some (.lst xs)=>1000-xs.length|_=>0) (by
    rintro δ ⟨j,rfl,hs,hne⟩
    have wj:=Qm h n0 hw j;have s0:=ZbY _ wj.nn
    have e1:rT (RE T n w (some (.lst (told T n w j))) (some (IL (it T n w (j+1)))))=some (!decide (it T n w (j+1)=it T n w j)):=by
     unfold rT;exact ZH ((Zi (x:=IL (it T n w (j+1))) rfl (ZaP rfl)).trans (Zar _ _))
    by_cases hx:it T n w (j+1)=it T n w j
    · exact .inl ⟨by rw [e1,decide_eq_true hx];rfl,j,rfl,hx,by omega,hne⟩
    · have hd:=Zcu h n wj hx
      have hd:(it T n w (j+1)).sum<(it T n w j).sum:=hd;have hl:=Jn T n w j;refine .inr ⟨by rw [e1,decide_eq_false hx];rfl,RE T n w (some (.lst (told T n w (j+1)))) (some (IL (it T n w (j+1+1)))),?_,⟨j+1,rfl,by omega,λk hk => ?_⟩,?_⟩
      · unfold rB
        have hc:Zo 3 UI [] (Zb (Za 0) (Zb (Za 1) (Zb (Za 4) eNil))) ((RE T n w (some (.lst (told T n w j))) (some (IL (it T n w (j+1))))).set 3 none)=some (IL (it T n w (j+1+1))):=(ZN (n:=3) (Zh (x:=TD T) rfl (Zh (x:=.int n) rfl (Zh (x:=IL (it T n w (j+1))) rfl nil_of))) rfl).trans (Zbp h n0 n1 _);refine(Ze2 rfl rfl (by rw [hl];omega) hc).trans ?_;rw [Zbq];rfl
      · by_cases hk2:k=j
        · rw [hk2];exact hx
        · exact hne k (by omega)
      · show 1000-(told T n w (j+1)).length<1000-(told T n w j).length
        rw [Jn,hl];omega) (RE T n w (some (.lst (told T n w 0))) (some (IL (it T n w 1)))) ⟨0,rfl,by show(0:Int)+w.sum<=w.sum;omega,λk hk=>absurd hk (by omega)⟩
 subst e;refine⟨J,hle,hJ,hne,?_⟩;refine UM (δ:=RE T n w none none) rfl ?_;rw [Zej,ZbK t1,ZbK t2,ZbK h1];exact ZU rfl
end K30
namespace K30
open DL L2
section
variable{m:Nat}{T:List (List Int)}{n:Int}{w:List Int}
theorem ZhD(h:TbW m T)(n:Int)(hw:w.length=m){k:Nat}(hk:k<m):(shr T n w)[k]? = some (mn ((dot (T.getD k []) w).fdiv n) (w.getD k 0)):=by
 have hs:k<T.length:=by rw [h.ln];exact hk
 have hw2:k<w.length:=by rw [hw];exact hk
 unfold shr YZ
 have e1:(T.map λr=>dot r w)[k]? = some (dot (T.getD k []) w):=by
  rw [List.getElem?_map,(h.sq.row hk).1];rfl
 have e2:w[k]? = some (w.getD k 0):=by rw [Zgt hw2,List.getElem?_eq_getElem hw2]
 rw [List.getElem?_map,(List.getElem?_zip_eq_some (z:=(dot (T.getD k []) w,w.getD k 0))).mpr ⟨e1,e2⟩];rfl
theorem ZhE(a b:Int):minLD [.lst [.int a,.int b]]=some (.int (mn b a)):=by
 have:XY [a,b]=mn b a:=by
  show min a b=_;unfold mn
  split<;>omega
 rw [<-this];rfl
noncomputable def v1:DL.Env->Option Out:=(Zj 5 (eOp addX (Za 5) (eOp mulX (eOp ixD (eOp ixD (Za 0) (Za 4)) (Za 6)) (eOp ixD (Za 2) (Za 6)))))
noncomputable def vN:DL.Env->Option (List D):=(ZI (Zb (eCB lenD (Zb (Za 0) eNil)) eNil))
noncomputable def v3:DL.Env->Option Out:=(Z7 3 (eCB minLD (Zb (Zz (Zb (eOp ixD (Za 2) (Za 4)) (Zb (eOp fdivW (Za 5) (Za 1)) eNil))) eNil)))
noncomputable def vB:DL.Env->Option Out:=(Zg (Zj 5 (eC (.int 0))) (Zg (ZQ vN (Zs 6) v1) v3))
theorem Zgx:f_QG=Zg (Zj 3 (Zz eNil)) (Zg (ZQ vN (Zs 4) vB) (Zq (Za 3))):=rfl
abbrev SE(T:List (List Int))(n:Int)(w:List Int)(x3 x4 x5 x6:Option D):DL.Env:=[some (TD T),some (.int n),some (IL w),x3,x4,x5,x6]
theorem Zg3(h:TbW m T){δ:DL.Env}(hv:Za 0 δ=some (TD T)):vN δ=some ((List.range m).map nD):=by
 have h4:=h.m4;unfold vN;exact Zip (Zh ((ZY (Zh (x:=TD T) hv nil_of)).trans (len_lst.trans (by rw [List.length_map,h.ln]))) nil_of) h4
theorem ZjY(h:TbW m T)(hw:w.length=m)(x3 x6:Option D){k:Nat}(hk:k<m):∃y6,ZQ vN (Zs 6) v1 (SE T n w x3 (some (nD k)) (some (.int 0)) x6)=some (.nx (SE T n w x3 (some (nD k)) (some (.int (dot (T.getD k []) w))) y6)):=by
 have h4:=h.m4;have hrl:=h.rl _ (h.sq.row hk).2
 obtain⟨δ',g,y6,e⟩:=X1 (γ:=Zs 6) (φ:=v1) (λj δ=>∃y6,δ=SE T n w x3 (some (nD k)) (some (.int (dot ((T.getD k []).take j) w))) y6) ((List.range m).map nD) 0 (SE T n w x3 (some (nD k)) (some (.int 0)) x6) ⟨x6,by simp [dot]⟩ (by
  rintro j x δ hx ⟨y6,rfl⟩
  have hj:j<m:=by
   have:=(List.getElem?_eq_some_iff.mp hx).1
   rwa [List.length_map,List.length_range]at this
  rw [List.getElem?_map,List.getElem?_range hj]at hx;cases hx;rw [Nat.zero_add];have hb:=Qi h.sq hk hj;have h0:=h.nn k j
  have hbb:at2 T k j<10000000000000000000:=by
   unfold Bd at hb;have:(10:Nat) ^ 13=10000000000000:=rfl;omega
  refine⟨SE T n w x3 (some (nD k)) (some (.int (dot ((T.getD k []).take j) w))) (some (nD j)),rfl,_,ZE ((Zi (x:=.int (dot ((T.getD k []).take j) w)) (y:=.int (at2 T k j*w.getD j 0)) rfl ((Zi (x:=.int (at2 T k j)) (y:=.int (w.getD j 0)) ((Zi (y:=nD j) ((Zi (x:=TD T) (y:=nD k) rfl rfl).trans (ZbV h.sq hk)) rfl).trans (ZbW h.sq hk hj)) ((Zi (x:=IL w) (y:=nD j) rfl rfl).trans (Vf (by rw [hw];exact hj)))).trans (mulL h0 hbb))).trans (add_int _ _)),some (nD j),?_⟩
  rw [Zct _ _ j (by rw [hrl];exact hj) (by rw [hw];exact hj)];rfl)
 subst e;rw [List.length_map,List.length_range,Nat.zero_add,List.take_of_length_le (by omega)]at g;exact⟨y6,YG (Zg3 h rfl) g⟩
theorem Zgy(h:TbW m T)(n0:0<n)(n1:Bd 13 n)(hw:w.length=m):Uq [TD T,.int n,IL w]=some (IL (shr T n w)):=by
 have h4:=h.m4;have hl:=ZdH h n hw
 obtain⟨δ',g,y4,y5,y6,e⟩:=X1 (γ:=Zs 4) (φ:=vB) (λk δ=>∃y4 y5 y6,δ=SE T n w (some (IL ((shr T n w).take k))) y4 y5 y6) ((List.range m).map nD) 0 (SE T n w (some (IL [])) none none none) ⟨none,none,none,by rw [List.take_zero]⟩ (by
  rintro k x δ hx ⟨y4,y5,y6,rfl⟩
  have hk:k<m:=by
   have:=(List.getElem?_eq_some_iff.mp hx).1
   rwa [List.length_map,List.length_range]at this
  rw [List.getElem?_map,List.getElem?_range hk]at hx;cases hx;rw [Nat.zero_add];obtain⟨z6,hr⟩:=ZjY (n:=n) h hw (some (IL ((shr T n w).take k))) y6 hk;have t1:Zj 5 (eC (.int 0)) (SE T n w (some (IL ((shr T n w).take k))) (some (nD k)) y5 y6)=some (.nx (SE T n w (some (IL ((shr T n w).take k))) (some (nD k)) (some (.int 0)) y6)):=rfl;generalize hd:dot (T.getD k []) w=d at hr;have e1:Zz (Zb (eOp ixD (Za 2) (Za 4)) (Zb (eOp fdivW (Za 5) (Za 1)) eNil)) (SE T n w (some (IL ((shr T n w).take k))) (some (nD k)) (some (.int d)) z6)=some (.lst [.int (w.getD k 0),.int (d.fdiv n)]):=Xg (Zh ((Zi (x:=IL w) (y:=nD k) rfl rfl).trans (Vf (by rw [hw];exact hk))) (Zh ((Zi (x:=.int d) (y:=.int n) rfl rfl).trans (Us n1 (by decide) (by omega))) nil_of)) (by show 2<=1000;decide)
  have t3:v3 (SE T n w (some (IL ((shr T n w).take k))) (some (nD k)) (some (.int d)) z6)=some (.nx (SE T n w (some (IL ((shr T n w).take (k+1)))) (some (nD k)) (some (.int d)) z6)):=by
   refine(Vx (xs:=((shr T n w).take k).map D.int) rfl ((ZY (Zh e1 nil_of)).trans (ZhE _ _)) (by rw [List.length_map,List.length_take];omega)).trans ?_
   have:(shr T n w).take (k+1)=(shr T n w).take k++[mn (d.fdiv n) (w.getD k 0)]:=by
    rw [List.take_add_one,ZhD h n hw hk,hd];rfl
   rw [this,IL,IL,List.map_append];rfl
  refine⟨SE T n w (some (IL ((shr T n w).take k))) (some (nD k)) y5 y6,rfl,SE T n w (some (IL ((shr T n w).take (k+1)))) (some (nD k)) (some (.int d)) z6,?_,_,_,_,rfl⟩;unfold vB;rw [Zr t1,Zr hr];exact t3)
 subst e;rw [List.length_map,List.length_range,Nat.zero_add,List.take_of_length_le (by omega)]at g;refine Yi (δ:=SE T n w none none none none) rfl ?_;rw [Zgx];refine(Zr (δ':=SE T n w (some (IL [])) none none none) (ZE (Xg nil_of (by show 0<=1000;decide)))).trans ?_;rw [Zr (YG (Zg3 h rfl) g)];exact ZU rfl
theorem Zc9(h:TbW m T){a:DL.Env->Option D}{δ:DL.Env}{x:Int}(h1:a δ=some (.int x))(h2:Za 0 δ=some (TD T)):eOp Yq (Zz (Zb a eNil)) (eCB lenD (Zb (Za 0) eNil)) δ=some (IL (List.replicate m x)):=by
 have h4:=h.m4;have e1:Zz (Zb a eNil) δ=some (.lst [.int x]):=Xg (Zh h1 nil_of) (by show 1<=1000;decide);have e2:eCB lenD (Zb (Za 0) eNil) δ=some (.int (m:Int)):=(ZY (Zh (x:=TD T) h2 nil_of)).trans (len_lst.trans (by rw [List.length_map,h.ln]));have e3:Yq (.lst [.int x]) (.int (m:Int))=some (.lst (List.replicate m [D.int x]).flatten):=J8 (a:=[.int x]) (n:=m) (by show 1*m<=100000;omega) (by omega)
 refine(Zi e1 e2).trans (e3.trans ?_);rw [IL,List.map_replicate]
 have:∀k:Nat,(List.replicate k [D.int x]).flatten=List.replicate k (D.int x):=λk=>by
  induction k with
  |zero=>rfl
  |succ k ih=>rw [List.replicate_succ,List.flatten_cons,ih,List.replicate_succ];rfl
 rw [this]
structure Fin_(T:List (List Int))(n:Int)(w:List Int)(J:Nat):Prop where
 le:J<=500
 st:it T n w (J+1)=it T n w J
 ne:∀k,k<J->it T n w (k+1)≠it T n w k
theorem Fin_.one{J K:Nat}(h:Fin_ T n w J)(g:Fin_ T n w K):J=K:=by
 rcases Nat.lt_trichotomy J K with z|z|z
 · exact absurd h.st (g.ne J z)
 · exact z
 · exact absurd g.st (h.ne K z)
noncomputable def y3:DL.Env->Option D:=(Zz (Zb (eOp Yq (Zz (Zb (Za 2) eNil)) (eCB lenD (Zb (Za 0) eNil))) eNil))
noncomputable def yL:DL.Env->Option D:=(eOp ixD (Za 3) (eUn Yl (eC (.int 1))))
noncomputable def yT:DL.Env->Option Bool:=(xB (eOp neD (Za 4) yL))
noncomputable def yS:DL.Env->Option Out:=(Zj 4 (Zo 3 Uq [] (Zb (Za 0) (Zb (Za 1) (Zb (Za 4) eNil)))))
noncomputable def yB:DL.Env->Option Out:=(Zg (Z7 3 (Za 4)) yS)
theorem ZcS:f_QI=Zg (Zj 3 y3) (Zg (Zj 4 (Zo 3 Uq [] (Zb (Za 0) (Zb (Za 1) (Zb yL eNil))))) (Zg (Z9 yT yB) (Zq (Za 3)))):=rfl
abbrev YE(T:List (List Int))(n x:Int)(v3 v4:Option D):DL.Env:=[some (TD T),some (.int n),some (.int x),v3,v4]
theorem ZcT(h:TbW m T)(n0:0<n)(n1:Bd 13 n){x:Int}(hw:Wt m (List.replicate m x))(hsum:(List.replicate m x).sum<=500){J:Nat}(hJ:Fin_ T n (List.replicate m x) J):ZhY [TD T,.int n,.int x]=some (.lst (told T n (List.replicate m x) J)):=by
 have e3:y3 (YE T n x none none)=some (.lst (told T n (List.replicate m x) 0)):=Xg (Zh (Zc9 h (a:=Za 2) rfl rfl) nil_of) (by show 1<=1000;decide);generalize List.replicate m x=w at *;have sh:∀j,Uq [TD T,.int n,IL (it T n w j)]=some (IL (it T n w (j+1))):=λj=>Zgy h n0 n1 (Qm h n0 hw j).ln
 have t1:Zj 3 y3 (YE T n x none none)=some (.nx (YE T n x (some (.lst (told T n w 0))) none)):=ZE e3;have t2:Zj 4 (Zo 3 Uq [] (Zb (Za 0) (Zb (Za 1) (Zb yL eNil)))) (YE T n x (some (.lst (told T n w 0))) none)=some (.nx (YE T n x (some (.lst (told T n w 0))) (some (IL (it T n w 1))))):=ZE ((ZN (n:=3) (Zh (x:=TD T) rfl (Zh (x:=.int n) rfl (Zh (ZaP rfl) nil_of))) rfl).trans (sh 0))
 obtain⟨δ',h1,K,e,hK⟩:=Q3 (τ:=yT) (φ:=yB) (λδ=>∃j:Nat,δ=YE T n x (some (.lst (told T n w j))) (some (IL (it T n w (j+1))))/\(j:Int)+(it T n w j).sum<=w.sum/\∀k,k<j->it T n w (k+1)≠it T n w k)
  (λδ=>∃j:Nat,δ=YE T n x (some (.lst (told T n w j))) (some (IL (it T n w (j+1))))/\Fin_ T n w j)
  (λδ=>match Za 3 δ with|some (.lst xs)=>1000-xs.length|_=>0) (by
    rintro δ ⟨j,rfl,hs,hne⟩
    have wj:=Qm h n0 hw j;have s0:=ZbY _ wj.nn
    have e1:yT (YE T n x (some (.lst (told T n w j))) (some (IL (it T n w (j+1)))))=some (!decide (it T n w (j+1)=it T n w j)):=by
     unfold yT yL;exact ZH ((Zi (x:=IL (it T n w (j+1))) rfl (ZaP rfl)).trans (Zar _ _))
    by_cases hx:it T n w (j+1)=it T n w j
    · exact .inl ⟨by rw [e1,decide_eq_true hx];rfl,j,rfl,by omega,hx,hne⟩
    · have hd:(it T n w (j+1)).sum<(it T n w j).sum:=Zcu h n wj hx
      have hl:=Jn T n w j;refine .inr ⟨by rw [e1,decide_eq_false hx];rfl,YE T n x (some (.lst (told T n w (j+1)))) (some (IL (it T n w (j+1+1)))),?_,⟨j+1,rfl,by omega,λk hk => ?_⟩,?_⟩
      · have a1:Z7 3 (Za 4) (YE T n x (some (.lst (told T n w j))) (some (IL (it T n w (j+1)))))=some (.nx (YE T n x (some (.lst (told T n w (j+1)))) (some (IL (it T n w (j+1)))))):=(Vx (xs:=told T n w j) rfl rfl (by rw [hl];omega)).trans (by rw [Zbq];rfl)
        unfold yB;rw [Zr a1];exact ZE ((ZN (n:=3) (Zh (x:=TD T) rfl (Zh (x:=.int n) rfl (Zh (x:=IL (it T n w (j+1))) rfl nil_of))) rfl).trans (sh (j+1)))
      · by_cases hk2:k=j
        · rw [hk2];exact hx
        · exact hne k (by omega)
      · show 1000-(told T n w (j+1)).length<1000-(told T n w j).length
        rw [Jn,hl];omega) (YE T n x (some (.lst (told T n w 0))) (some (IL (it T n w 1)))) ⟨0,rfl,by show(0:Int)+w.sum<=w.sum;omega,λk hk=>absurd hk (by omega)⟩
 subst e;refine Yi (δ:=YE T n x none none) rfl ?_;rw [ZcS,Zr t1,Zr t2,Zr h1,hJ.one hK];exact ZU rfl
end
end K30
namespace K30
open DL L2
def pw:Nat->Int
 |0=>1
 |k+1=>pw k*2
theorem Zda:∀k,1<=pw k
 |0=>Int.le_refl _
 |k+1=>by
  have:=Zda k;show 1<=pw k*2;omega
theorem ZdI{i:Nat}:∀k,pw i<=pw (i+k)
 |0=>Int.le_refl _
 |k+1=>by
  have:=ZdI (i:=i) k;have h:=Zda (i+k);show pw i<=pw (i+k)*2;omega
theorem ZfQ{i j:Nat}(h:i<=j):pw i<=pw j:=by
 obtain⟨k,rfl⟩:=Nat.exists_eq_add_of_le h;exact ZdI k
theorem Zfw{j:Nat}(h:pw j<=40):j<=5:=by
 by_cases z:j<=5
 · exact z
 · have:pw 6<=pw j:=ZfQ (by omega)
   have:pw 6=64:=rfl;omega
theorem ZjZ{j:Nat}(h:j<=5):pw j<=32:=ZfQ (j:=5) h
noncomputable def beL:DL.Env->Option D:=(eOp ixD (Za 1) (eUn Yl (eC (.int 1))))
noncomputable def beM:DL.Env->Option D:=(eOp mulX beL (eC (.int 2)))
noncomputable def beT:DL.Env->Option Bool:=(xB (eOp (Z5 λi j=>decide (i<=j)) beM (Za 0)))
theorem ZhF:f_QL=Zg (Zj 1 (Zz (Zb (eC (.int 1)) eNil))) (Zg (Z9 beT (Z7 1 beM)) (Zq (Za 1))):=rfl
abbrev BE(x:Int)(v1:Option D):DL.Env:=[some (.int x),v1]
def pws(j:Nat):List Int:=(List.range (j+1)).map pw
theorem ZaR(j:Nat):(pws j).length=j+1:=by unfold pws;simp
theorem Ze3(j:Nat):pws (j+1)=pws j++[pw (j+1)]:=by
 unfold pws;rw [List.range_succ,List.map_append];rfl
theorem Zfx(x:Int)(j:Nat):beM (BE x (some (IL (pws j))))=some (.int (pw (j+1))):=by
 have e:beL (BE x (some (IL (pws j))))=some (.int (pw j)):=by
  unfold beL;refine(Zi (x:=IL (pws j)) (y:=.int (-1)) rfl rfl).trans ?_;refine ZbB (j:=j) (by rw [List.length_map,ZaR];exact ZaY j) ?_;unfold pws;rw [List.getElem?_map,List.getElem?_map,List.getElem?_range (by omega)];rfl
 unfold beM;exact(Zi (y:=.int 2) e rfl).trans (UF (by omega) (by omega))
theorem ZhG{x:Int}(h1:1<=x)(h2:x<=40):∃L,L<=5/\pw L<=x/\x<pw (L+1)/\Ja [.int x]=some (IL (pws L)):=by
 obtain⟨δ',g,L,e,l1,l2⟩:=Q3 (τ:=beT) (φ:=Z7 1 beM) (λδ=>∃j,δ=BE x (some (IL (pws j)))/\pw j<=x) (λδ=>∃j,δ=BE x (some (IL (pws j)))/\pw j<=x/\x<pw (j+1))
  (λδ=>match Za 1 δ with|some (.lst xs)=>1000-xs.length|_=>0) (by
    rintro δ ⟨j,rfl,hj⟩
    have h5:=Zfw (Int.le_trans hj h2);have et:beT (BE x (some (IL (pws j))))=some (decide (pw (j+1)<=x)):=ZH ((Zi (y:=.int x) (Zfx x j) rfl).trans rfl)
    by_cases z:pw (j+1)<=x
    · refine .inr ⟨by rw [et,decide_eq_true z],BE x (some (IL (pws (j+1)))),(Vx (xs:=(pws j).map D.int) rfl (Zfx x j) (by rw [List.length_map,ZaR];omega)).trans ?_,⟨j+1,rfl,z⟩,?_⟩
      · rw [Ze3,IL,IL,List.map_append]
        rfl
      · show 1000-((pws (j+1)).map D.int).length<1000-((pws j).map D.int).length
        rw [List.length_map,List.length_map,ZaR,ZaR];omega
    · exact .inl ⟨by rw [et,decide_eq_false z],j,rfl,hj,by omega⟩) (BE x (some (IL (pws 0)))) ⟨0,rfl,h1⟩
 subst e;refine⟨L,Zfw (Int.le_trans l1 h2),l1,l2,Yi (δ:=BE x none) rfl ?_⟩;have t1:Zj 1 (Zz (Zb (eC (.int 1)) eNil)) (BE x none)=some (.nx (BE x (some (IL (pws 0))))):=ZE (Xg (Zh rfl nil_of) (by show 1<=1000;decide));rw [ZhF,Zr t1,Zr g];exact ZU rfl
theorem Zj0{τ:DL.Env->Option Bool}{φ:DL.Env->Option Out}{δ:DL.Env}(h:τ δ=some false):Z9 τ φ δ=some (.nx δ):=JG (n:=1) (by unfold Yp;rw [h])
theorem Zj1{τ:DL.Env->Option Bool}{φ:DL.Env->Option Out}{δ:DL.Env}{d:D}(h:τ δ=some true)(h2:φ δ=some (.rt d)):Z9 τ φ δ=some (.rt d):=JG (n:=1) (by
 unfold Yp;rw [h];dsimp only;rw [h2])
theorem Zj2{τ:DL.Env->Option Bool}{φ:DL.Env->Option Out}{δ δ2:DL.Env}{o:Out}(h:τ δ=some true)(h2:φ δ=some (.nx δ2))(h3:Z9 τ φ δ2=some o):Z9 τ φ δ=some o:=by
 obtain⟨n,e⟩:=Zah h3;refine JG (n:=n+1) ?_;unfold Yp;rw [h];dsimp only;rw [h2];exact e
def cW:List Nat:=[119,101,105,103,104,116,115]
def cC:List Nat:=[99,108,111,115,101]
def cP:List Nat:=[112,114,101,115,115]
abbrev Wi(m i:Nat):List Int:=List.replicate m (pw i)
def rws(T:List (List Int))(n:Int)(m:Nat)(J:Nat->Nat)(i:Nat):List (List Int):=(List.range (J i+1)).map (it T n (Wi m i))
def fin(T:List (List Int))(n:Int)(m:Nat)(J:Nat->Nat)(i:Nat):List Int:=it T n (Wi m i) (J i)
def res(T:List (List Int))(n:Int)(m:Nat)(J:Nat->Nat):Nat->Nat->List (List Int)->D
 |0,_,t => .tup [.str cC,TD t]
 |r+1,i,t=>if fin T n m J i=List.replicate m 0 then res T n m J r (i+1) (rws T n m J i)else .tup [.str cW,IL (fin T n m J i)]
theorem ZaZ(T:List (List Int))(n:Int)(m:Nat)(J:Nat->Nat)(i:Nat):D.lst (told T n (Wi m i) (J i))=TD (rws T n m J i):=by
 unfold told rws;rw [TD,List.map_map];rfl
section
variable{m:Nat}{T:List (List Int)}{n:Int}{J:Nat->Nat}
theorem Zem(m i:Nat):Wt m (Wi m i):=⟨List.length_replicate,λx hx=>by
 have:=Zda i;rw [List.eq_of_mem_replicate hx];omega⟩
theorem Zfy{m i:Nat}(hm:m<=4)(hi:i<=5):(Wi m i).sum<=500:=by
 have h:=Zc6 (Wi m i) 32 λx hx=>by
  rw [List.eq_of_mem_replicate hx];exact ZjZ hi
 rw [List.length_replicate]at h;omega
structure JO(T:List (List Int))(n:Int)(m:Nat)(J:Nat->Nat):Prop where
 fn:∀i,i<=5->Fin_ T n (Wi m i) (J i)
 rd:∀i,i<=5->Qe [TD T,.int n,IL (Wi m i)]=some (TD (rws T n m J i))
theorem Zj3(h:TbW m T)(n0:0<n)(n1:Bd 13 n):∃J,JO T n m J:=by
 have key:∀i:Nat,∃K:Nat,i<=5->Fin_ T n (Wi m i) K/\Qe [TD T,.int n,IL (Wi m i)]=some (.lst (told T n (Wi m i) K)):=λi=>by
  by_cases hi:i<=5
  · obtain⟨K,k1,k2,k3,k4⟩:=Zek h n0 n1 (Zem m i) (Zfy h.m4 hi)
    exact⟨K,λ_=>⟨⟨k1,k2,k3⟩,k4⟩⟩
  · exact⟨0,λz=>absurd z hi⟩
 obtain⟨J,hJ⟩:=Classical.axiomOfChoice key;exact⟨J,λi hi=>(hJ i hi).1,λi hi=>by rw [<-ZaZ];exact(hJ i hi).2⟩
theorem Zfz(h:TbW m T)(n0:0<n)(i:Nat):Wt m (fin T n m J i):=Qm h n0 (Zem m i) _
theorem Zcv{κ:DL.Env->Option D}{δ:DL.Env}{i:Nat}(h:κ δ=some (TD (rws T n m J i))):eOp ixD κ (eUn Yl (eC (.int 1))) δ=some (IL (fin T n m J i)):=by
 rw [<-ZaZ]at h;exact ZaP h
theorem ZhH(i:Nat):atI ((rws T n m J i).map IL) (-1)=some (IL (fin T n m J i)):=by
 refine ZbB (j:=J i) (by rw [List.length_map];unfold rws;rw [List.length_map,List.length_range];exact ZaY _) ?_;unfold rws;rw [List.map_map,List.getElem?_map,List.getElem?_range (by omega)];rfl
theorem Zgz{w:List Int}(hw:Wt m w)(h1:1<=m):∃b,maxLD [IL w]=some (.int b)/\decide (0<b) = !decide (w=List.replicate m 0):=by
 have hl:0<w.length:=by rw [hw.ln];omega
 obtain⟨z1,z2⟩:=Zaw hl;refine⟨Ve w,?_,?_⟩
 · unfold maxLD
   dsimp only;rw [QT];exact if_pos hl
 · by_cases e:w=List.replicate m 0
   · rw [decide_eq_true e]
     rw [e]at z1
     have:Ve w=0:=by
      rw [e];exact List.eq_of_mem_replicate z1
     exact decide_eq_false (by omega)
   · rw [decide_eq_false e]
     refine decide_eq_true ?_
     by_cases hp:0<Ve w
     · exact hp
     · refine absurd (List.eq_replicate_iff.mpr ⟨hw.ln,λx hx => ?_⟩) e
       have:=hw.nn x hx;have:=z2 x hx;omega
section
variable{it iw ip:Nat}{s1 s2 s3:List Nat}{εp εr:DL.Env->Option D}{ι:DL.Env->Option (List D)}{τ:DL.Env->Option Bool}{w:D}{r rs:List D}{δ δ1 δ2:DL.Env}
theorem ZgA(h0:δ.set iw (some w)=δ1)(h1:εr δ1=some (.lst rs))(h2:δ1.set it (some (.lst rs))=δ2)(h3:τ δ2=some false):YW it iw s2 s3 εr τ (w::r) δ=YW it iw s2 s3 εr τ r δ2:=by
 subst h0 h2
 conv=>lhs;unfold YW
 rw [h1];dsimp only;rw [h3]
theorem ZgB{d:D}(h0:δ.set iw (some w)=δ1)(h1:εr δ1=some (.lst rs))(h2:δ1.set it (some (.lst rs))=δ2)(h3:τ δ2=some true)(h4:atI rs (-1)=some d):YW it iw s2 s3 εr τ (w::r) δ=some (.rt (.tup [.str s2,d])):=by
 subst h0 h2;unfold YW;rw [h1];dsimp only;rw [h3];dsimp only;rw [h4]
theorem Ze4{d:D}(h:Za it δ=some d):YW it iw s2 s3 εr τ [] δ=some (.rt (.tup [.str s3,d])):=by
 unfold YW;rw [h]
theorem ZhI{ws:List D}(h1:εp δ=some .non)(hl:ip<δ.length/\it<δ.length/\iw<δ.length)(h2:(δ.set ip (some .non)).set it (some (.lst []))=δ1)(h3:ι δ1=some ws):Uh ip it iw s1 s2 s3 εp ι εr τ δ=YW it iw s2 s3 εr τ ws δ1:=by
 subst h2;unfold Uh;rw [h1];dsimp only;rw [if_pos hl,h3]
theorem ZhJ{xs:List D}(h1:εp δ=some (.lst xs))(hl:xs.all ZD=true/\ip<δ.length):Uh ip it iw s1 s2 s3 εp ι εr τ δ=some (.rt (.tup [.str s1,.lst xs])):=by
 unfold Uh;rw [h1];exact if_pos hl
end
noncomputable def vR:DL.Env->Option D:=(Zo 3 Qe [] (Zb (Za 0) (Zb (Za 1) (Zb (eOp Yq (Zz (Zb (Za 5) eNil)) (eCB lenD (Zb (Za 0) eNil))) eNil))))
noncomputable def vT:DL.Env->Option Bool:=(xB (eOp (Z5 λi j=>decide (j<i)) (eCB maxLD (Zb (eOp ixD (Za 4) (eUn Yl (eC (.int 1)))) eNil)) (eC (.int 0))))
noncomputable def vP:DL.Env->Option D:=(Zo 2 UH [] (Zb (Za 0) (Zb (Za 1) eNil)))
noncomputable def vI:DL.Env->Option (List D):=(Z2 (Zo 1 Ja [] (Zb (Za 2) eNil)))
theorem ZaN:f_QV=Uh 3 4 5 cP cW cC vP vI vR vT:=rfl
abbrev V6(T:List (List Int))(n x:Int)(v3 v4 v5:Option D):DL.Env:=[some (TD T),some (.int n),some (.int x),v3,v4,v5]
theorem ZdJ(h:TbW m T)(n0:0<n)(hJ:JO T n m J)(x:Int):∀(r i:Nat)(t:List (List Int))(v5:Option D),i+r<=6->YW 4 5 cW cC vR vT ((List.range' i r).map λk=>D.int (pw k)) (V6 T n x (some .non) (some (TD t)) v5)=some (.rt (res T n m J r i t))
 |0,i,t,v5,_=>Ze4 rfl
 |r+1,i,t,v5,hi=>by
  have e1:vR (V6 T n x (some .non) (some (TD t)) (some (.int (pw i))))=some (TD (rws T n m J i)):=(ZN (n:=3) (Zh (x:=TD T) rfl (Zh (x:=.int n) rfl (Zh (Zc9 h (a:=Za 5) rfl rfl) nil_of))) rfl).trans (hJ.rd i (by omega));obtain⟨b,hb,hd⟩:=Zgz (Zfz h n0 (J:=J) i) h.m1
  have e2:vT (V6 T n x (some .non) (some (TD (rws T n m J i))) (some (.int (pw i))))=some (!decide (fin T n m J i=List.replicate m 0)):=by
   rw [<-hd];exact ZH ((Zi (y:=.int 0) ((ZY (Zh (Zcv rfl) nil_of)).trans hb) rfl).trans rfl)
  rw [List.range'_succ,List.map_cons];unfold res
  by_cases z:fin T n m J i=List.replicate m 0
  · rw [if_pos z]
    rw [decide_eq_true z]at e2;exact(ZgA (δ1:=V6 T n x (some .non) (some (TD t)) (some (.int (pw i)))) (δ2:=V6 T n x (some .non) (some (TD (rws T n m J i))) (some (.int (pw i)))) (rs:=(rws T n m J i).map IL) rfl e1 rfl e2).trans (ZdJ h n0 hJ x r (i+1) _ _ (by omega))
  · rw [if_neg z]
    rw [decide_eq_false z]at e2;exact ZgB (δ1:=V6 T n x (some .non) (some (TD t)) (some (.int (pw i)))) (δ2:=V6 T n x (some .non) (some (TD (rws T n m J i))) (some (.int (pw i)))) (rs:=(rws T n m J i).map IL) rfl e1 rfl e2 (ZhH i)
theorem ZcU(h:TbW m T)(n0:0<n)(hJ:JO T n m J){x:Int}{L:Nat}(hL:L<=5)(hb:Ja [.int x]=some (IL (pws L)))(hp:UH [TD T,.int n]=some .non):Vg [TD T,.int n,.int x]=some (res T n m J (L+1) 0 []):=by
 refine UM (δ:=V6 T n x none none none) rfl ?_;rw [ZaN];have e1:vP (V6 T n x none none none)=some .non:=(ZN (n:=2) (Zh (x:=TD T) rfl (Zh (x:=.int n) rfl nil_of)) rfl).trans hp;have e2:vI (V6 T n x (some .non) (some (TD [])) none)=some ((pws L).map D.int):=Xz ((ZN (n:=1) (Zh (x:=.int x) rfl nil_of) rfl).trans hb)
 have e3:(pws L).map D.int=(List.range' 0 (L+1)).map λk=>D.int (pw k):=by
  unfold pws;rw [List.map_map,List.range_eq_range'];rfl
 rw [e3]at e2;exact(ZhI (δ1:=V6 T n x (some .non) (some (TD [])) none) e1 (by show 3<6/\4<6/\5<6;decide) rfl e2).trans (ZdJ h n0 hJ x (L+1) 0 [] none (by omega))
theorem Za3(x:Int){F:List Int}(hp:UH [TD T,.int n]=some (IL F)):Vg [TD T,.int n,.int x]=some (.tup [.str cP,IL F]):=by
 refine UM (δ:=V6 T n x none none none) rfl ?_;rw [ZaN];have e1:vP (V6 T n x none none none)=some (IL F):=(ZN (n:=2) (Zh (x:=TD T) rfl (Zh (x:=.int n) rfl nil_of)) rfl).trans hp;exact ZhJ e1 ⟨ZaQ F,by show 3<6;decide⟩
end
end K30
namespace K30
open DL L2
section
variable{m:Nat}{T:List (List Int)}{n:Int}{J:Nat->Nat}
noncomputable def dL:DL.Env->Option D:=(eOp ixD (Za 4) (eUn Yl (eC (.int 1))))
noncomputable def dT:DL.Env->Option Bool:=(xB (eOp (Z5 λi j=>decide (i<=j)) (Za 3) (Za 2)))
noncomputable def d1:DL.Env->Option Out:=(Zj 4 (Zo 3 ZhY [] (Zb (Za 0) (Zb (Za 1) (Zb (Za 3) eNil)))))
noncomputable def d2:DL.Env->Option Out:=(sIf (xB (eOp neD dL (eOp Yq (Zz (Zb (eC (.int 0)) eNil)) (eCB lenD (Zb (Za 0) eNil))))) (Zq (Y4 (Zb (eC (.str cW)) (Zb dL eNil)))) sNext)
noncomputable def d3':DL.Env->Option Out:=(Zj 3 (eOp mulX (Za 3) (eC (.int 2))))
noncomputable def dB:DL.Env->Option Out:=(Zg d1 (Zg d2 d3'))
theorem ZhK:f_QS=Zg (Zj 3 (eC (.int 1))) (Zg (Zj 4 (Zz eNil)) (Zg (Z9 dT dB) (Zq (Y4 (Zb (eC (.str cC)) (Zb (Za 4) eNil)))))):=rfl
abbrev E5(T:List (List Int))(n x:Int)(v3 v4:Option D):DL.Env:=[some (TD T),some (.int n),some (.int x),v3,v4]
theorem Zcw(h:TbW m T)(n0:0<n)(n1:Bd 13 n)(hJ:JO T n m J){x:Int}{L:Nat}(hL:L<=5)(l1:pw L<=x)(l2:x<pw (L+1)):∀(r i:Nat)(t:List (List Int)),i+r=L+1->∃o,Z9 dT dB (E5 T n x (some (.int (pw i))) (some (TD t)))=some o/\(o = .rt (res T n m J r i t)\/∃t' v3,o = .nx (E5 T n x v3 (some (TD t')))/\res T n m J r i t = .tup [.str cC,TD t'])
 |0,i,t,hi=>by
  have et:dT (E5 T n x (some (.int (pw i))) (some (TD t)))=some (decide (pw i<=x)):=ZH ((Zi (x:=.int (pw i)) (y:=.int x) rfl rfl).trans rfl);have ei:i=L+1:=by omega
  rw [decide_eq_false (by rw [ei];omega)]at et;exact⟨_,Zj0 et,.inr ⟨t,_,rfl,rfl⟩⟩
 |r+1,i,t,hi=>by
  have hx:pw i<=x:=Int.le_trans (ZfQ (by omega)) l1;have et:dT (E5 T n x (some (.int (pw i))) (some (TD t)))=some (decide (pw i<=x)):=ZH ((Zi (x:=.int (pw i)) (y:=.int x) rfl rfl).trans rfl);rw [decide_eq_true hx]at et;have hi5:i<=5:=by omega
  have er:=ZcT h n0 n1 (Zem m i) (Zfy h.m4 hi5) (hJ.fn i hi5);rw [ZaZ]at er;have t1:d1 (E5 T n x (some (.int (pw i))) (some (TD t)))=some (.nx (E5 T n x (some (.int (pw i))) (some (TD (rws T n m J i))))):=ZE ((ZN (n:=3) (Zh (x:=TD T) rfl (Zh (x:=.int n) rfl (Zh (x:=.int (pw i)) rfl nil_of))) rfl).trans er);have el:dL (E5 T n x (some (.int (pw i))) (some (TD (rws T n m J i))))=some (IL (fin T n m J i)):=Zcv rfl
  have e2:xB (eOp neD dL (eOp Yq (Zz (Zb (eC (.int 0)) eNil)) (eCB lenD (Zb (Za 0) eNil)))) (E5 T n x (some (.int (pw i))) (some (TD (rws T n m J i))))=some (!decide (fin T n m J i=List.replicate m 0)):=ZH ((Zi el (Zc9 h (a:=eC (.int 0)) rfl rfl)).trans (Zar _ _));unfold res
  by_cases z:fin T n m J i=List.replicate m 0
  · rw [decide_eq_true z]at e2
    have t2:d2 (E5 T n x (some (.int (pw i))) (some (TD (rws T n m J i))))=some (.nx (E5 T n x (some (.int (pw i))) (some (TD (rws T n m J i))))):=(YB e2).trans rfl;have t3:d3' (E5 T n x (some (.int (pw i))) (some (TD (rws T n m J i))))=some (.nx (E5 T n x (some (.int (pw (i+1)))) (some (TD (rws T n m J i))))):=ZE ((Zi (x:=.int (pw i)) (y:=.int 2) rfl rfl).trans (UF (by omega) (by omega)))
    have tB:dB (E5 T n x (some (.int (pw i))) (some (TD t)))=some (.nx (E5 T n x (some (.int (pw (i+1)))) (some (TD (rws T n m J i))))):=by
     unfold dB;rw [Zr t1,Zr t2];exact t3
    obtain⟨o,g1,g2⟩:=Zcw h n0 n1 hJ hL l1 l2 r (i+1) (rws T n m J i) (by omega);rw [if_pos z];exact⟨o,Zj2 et tB g1,g2⟩
  · rw [decide_eq_false z]at e2
    have t2:d2 (E5 T n x (some (.int (pw i))) (some (TD (rws T n m J i))))=some (.rt (.tup [.str cW,IL (fin T n m J i)])):=(Xy e2).trans (ZU (J6 (Zh (x:=.str cW) rfl (Zh el nil_of)) (by show 2<=1000;decide)))
    have tB:dB (E5 T n x (some (.int (pw i))) (some (TD t)))=some (.rt (.tup [.str cW,IL (fin T n m J i)])):=by
     unfold dB;rw [Zr t1];exact Uk t2
    rw [if_neg z];exact⟨_,Zj1 et tB,.inl rfl⟩
theorem ZhL(h:TbW m T)(n0:0<n)(n1:Bd 13 n)(hJ:JO T n m J){x:Int}{L:Nat}(hL:L<=5)(l1:pw L<=x)(l2:x<pw (L+1)):ZhZ [TD T,.int n,.int x]=some (res T n m J (L+1) 0 []):=by
 obtain⟨o,g1,g2⟩:=Zcw h n0 n1 hJ hL l1 l2 (L+1) 0 [] (by omega);refine Yi (δ:=E5 T n x none none) rfl ?_;have t1:Zj 3 (eC (.int 1)) (E5 T n x none none)=some (.nx (E5 T n x (some (.int (pw 0))) none)):=rfl;have t2:Zj 4 (Zz eNil) (E5 T n x (some (.int (pw 0))) none)=some (.nx (E5 T n x (some (.int (pw 0))) (some (TD [])))):=ZE (Xg nil_of (by show 0<=1000;decide));rw [ZhK,Zr t1,Zr t2]
 rcases g2 with rfl|⟨t',v3,rfl,e⟩
 · exact Uk g1
 · rw [Zr g1,e]
   exact ZU (J6 (Zh (x:=.str cC) rfl (Zh (x:=TD t') rfl nil_of)) (by show 2<=1000;decide))
inductive RO(m:Nat):D->Prop
 |w {v:List Int} (h:v.length=m):RO m (.tup [.str cW,IL v])
 |c {r:List Int} {rs:List (List Int)} (h:∀v∈r::rs,v.length=m) (hl:(r::rs).length<=501):RO m (.tup [.str cC,TD (r::rs)])
theorem ZfA(h:TbW m T)(n0:0<n)(hJ:JO T n m J):∀(r i:Nat)(t:List (List Int)),i+r<=6->(0<r\/RO m (.tup [.str cC,TD t]))->RO m (res T n m J r i t)
 |0,i,t,_,hr=>hr.resolve_left (Nat.lt_irrefl 0)
 |r+1,i,t,hi,_=>by
  unfold res
  split
  · refine ZfA h n0 hJ r (i+1) _ (by omega) (.inr ?_)
    have hl:=(hJ.fn i (by omega)).le
    have hw:∀v∈rws T n m J i,v.length=m:=λv hv=>by
     unfold rws at hv;obtain⟨k,_,rfl⟩:=List.mem_map.mp hv;exact(Qm h n0 (Zem m i) k).ln
    have hlen:(rws T n m J i).length=J i+1:=by unfold rws;rw [List.length_map,List.length_range]
    generalize rws T n m J i=q at *;cases q with
    |nil=>cases hlen
    |cons a q=>exact .c hw (by omega)
  · exact .w (Zfz h n0 i).ln
noncomputable def k0:DL.Env->Option D:=(eOp ixD (Za 0) (eC (.int 0)))
noncomputable def k1:DL.Env->Option D:=(eOp ixD (Za 0) (eC (.int 1)))
noncomputable def l0:DL.Env->Option D:=(eOp ixD (Za 1) (eC (.int 0)))
noncomputable def l1:DL.Env->Option D:=(eOp ixD (Za 1) (eC (.int 1)))
noncomputable def i1:DL.Env->Option Out:=(sIf (xB (eOp neD k0 l0)) (Zq (eC (.bl false))) sNext)
noncomputable def i2:DL.Env->Option Out:=(sIf (xB (eOp eqD l0 (eC (.str cW)))) (Zq (YC (Zo 2 Up [] (Zb k1 (Zb (Za 2) eNil))) (eOp eqD k1 l1))) sNext)
noncomputable def i3:DL.Env->Option Out:=(sIf (xOr (Yc (xB (Yv Qc k1))) (xB (eOp neD (eCB lenD (Zb k1 eNil)) (eCB lenD (Zb l1 eNil))))) (Zq (eC (.bl false))) sNext)
noncomputable def i4:DL.Env->Option Out:=(sIf (xOr (Yc (xB (Zo 2 Up [] (Zb (eOp ixD k1 (Za 3)) (Zb (Za 2) eNil))))) (xB (eOp neD (eOp ixD k1 (Za 3)) (eOp ixD l1 (Za 3))))) (Zq (eC (.bl false))) sNext)
theorem Ze5:f_QO=Zg i1 (Zg i2 (Zg i3 (Zg (ZQ (ZI (Zb (eCB lenD (Zb l1 eNil)) eNil)) (Zs 3) i4) (Zq (eC (.bl true)))))):=rfl
abbrev A4(d:D)(m:Nat)(v:Option D):DL.Env:=[some d,some d,some (nD m),v]
theorem Vp{x y:D}{κ:DL.Env->Option D}{δ:DL.Env}(h:κ δ=some (.tup [x,y])):eOp ixD κ (eC (.int 0)) δ=some x:=(Zi (y:=.int 0) h rfl).trans rfl
theorem Qn{x y:D}{κ:DL.Env->Option D}{δ:DL.Env}(h:κ δ=some (.tup [x,y])):eOp ixD κ (eC (.int 1)) δ=some y:=(Zi (y:=.int 1) h rfl).trans rfl
theorem Zcx{d:D}(h:RO m d):Qf [d,d,nD m]=some (.bl true):=by
 refine Yi (δ:=A4 d m none) rfl ?_;rw [Ze5];cases h with
 | @w v hv=>
  have a1:i1 (A4 (.tup [.str cW,IL v]) m none)=some (.nx (A4 (.tup [.str cW,IL v]) m none)):=(YB (ZH ((Zi (x:=.str cW) (y:=.str cW) (Vp rfl) (Vp rfl)).trans ((UE _ _).trans (by rw [decide_eq_true rfl];rfl))))).trans rfl;have a2:i2 (A4 (.tup [.str cW,IL v]) m none)=some (.rt (.bl true)):=(Xy (ZH ((Zi (x:=.str cW) (y:=.str cW) (Vp rfl) rfl).trans ((XZ _ _).trans (by rw [decide_eq_true rfl]))))).trans (ZU (J5 ((ZN (n:=2) (Zh (x:=IL v) (Qn rfl) (Zh (x:=nD m) rfl nil_of)) rfl).trans (ZbJ hv)) ((Zi (x:=IL v) (y:=IL v) (Qn rfl) (Qn rfl)).trans ((Zcq _ _).trans (by rw [decide_eq_true rfl])))))
  rw [Zr a1];exact Uk a2
 | @c r rs hv hl=>
  generalize hq:r::rs=q at *;have ek:∀v,k1 (A4 (.tup [.str cC,TD q]) m v)=some (TD q):=λv=>Qn rfl
  have eL:∀v,K30.l1 (A4 (.tup [.str cC,TD q]) m v)=some (TD q):=λv=>Qn rfl
  have en:∀v,eCB lenD (Zb K30.l1 eNil) (A4 (.tup [.str cC,TD q]) m v)=some (nD q.length):=λv=>(ZY (Zh (eL v) nil_of)).trans (len_lst.trans (by rw [List.length_map]))
  have en':∀v,eCB lenD (Zb k1 eNil) (A4 (.tup [.str cC,TD q]) m v)=some (nD q.length):=λv=>(ZY (Zh (ek v) nil_of)).trans (len_lst.trans (by rw [List.length_map]))
  have a1:i1 (A4 (.tup [.str cC,TD q]) m none)=some (.nx (A4 (.tup [.str cC,TD q]) m none)):=(YB (ZH ((Zi (x:=.str cC) (y:=.str cC) (Vp rfl) (Vp rfl)).trans ((UE _ _).trans (by rw [decide_eq_true rfl];rfl))))).trans rfl;have a2:i2 (A4 (.tup [.str cC,TD q]) m none)=some (.nx (A4 (.tup [.str cC,TD q]) m none)):=(YB (ZH ((Zi (x:=.str cC) (y:=.str cW) (Vp rfl) rfl).trans ((XZ _ _).trans rfl)))).trans rfl
  have a3:i3 (A4 (.tup [.str cC,TD q]) m none)=some (.nx (A4 (.tup [.str cC,TD q]) m none)):=(YB (Um (Ul (b:=true) (ZH (ZaO (d:=TD q) (ek none) rfl))) (ZH ((Zi (en' none) (en none)).trans ((X0 _ _).trans (by rw [decide_eq_true rfl];rfl)))))).trans rfl
  obtain⟨δ',g,v,e⟩:=X1 (γ:=Zs 3) (φ:=i4) (λ_ δ=>∃v,δ=A4 (.tup [.str cC,TD q]) m v) (ZO 0 1 q.length) 0 (A4 (.tup [.str cC,TD q]) m none) ⟨none,rfl⟩ (by
   rintro j x δ hx ⟨v,rfl⟩
   obtain⟨hj,rfl⟩:=Qb hx;have hm:q[j]∈q:=List.getElem_mem hj;have eA:ixD (TD q) (nD j)=some (IL q[j]):=Q5 (by rw [List.getElem?_map,List.getElem?_eq_getElem hj];rfl);have e1:eOp ixD k1 (Za 3) (A4 (.tup [.str cC,TD q]) m (some (nD j)))=some (IL q[j]):=(Zi (y:=nD j) (ek _) rfl).trans eA;have e2:eOp ixD K30.l1 (Za 3) (A4 (.tup [.str cC,TD q]) m (some (nD j)))=some (IL q[j]):=(Zi (y:=nD j) (eL _) rfl).trans eA
   exact⟨A4 (.tup [.str cC,TD q]) m (some (nD j)),rfl,A4 (.tup [.str cC,TD q]) m (some (nD j)),(YB (Um (Ul (b:=true) (ZH ((ZN (n:=2) (Zh e1 (Zh (x:=nD m) rfl nil_of)) rfl).trans (ZbJ (hv _ hm))))) (ZH ((Zi e1 e2).trans ((Zar _ _).trans (by rw [decide_eq_true rfl];rfl)))))).trans rfl,_,rfl⟩)
  subst e;have hr:ZI (Zb (eCB lenD (Zb K30.l1 eNil)) eNil) (A4 (.tup [.str cC,TD q]) m none)=some (ZO 0 1 q.length):=(Vw (j:=(q.length:Int)) (Zh (en none) nil_of) (by omega) (by omega)).trans (by rw [Int.toNat_natCast]);rw [Zr a1,Zr a2,Zr a3,Zr (YG hr g)];exact ZU rfl
end
end K30
namespace K30
open DL L2
noncomputable def gN:DL.Env->Option D:=(eOp Yq (Zz (Zb (eC (.int 0)) eNil)) (eOp mulX (Za 1) (Za 1)))
noncomputable def gI:DL.Env->Option (List D):=(ZI (Zb (eC (.int 3)) (Zb (eCB lenD (Zb (Za 0) eNil)) eNil)))
noncomputable def gA:DL.Env->Option Out:=(Zj 4 (eOp modW (eOp subD (Za 3) (eC (.int 3))) (eOp mulX (Za 1) (Za 1))))
noncomputable def gV:DL.Env->Option D:=(eOp modW (eOp addX (eOp mulX (eOp ixD (Za 2) (Za 4)) (eC (.int 1009))) (eOp ixD (Za 0) (Za 3))) (eOp powW (eC (.int 10)) (eC (.int 15))))
theorem ZgC:f_QC=Zg (Zj 2 gN) (Zg (ZQ gI (Zs 3) (Zg gA (YV 2 (Za 4) gV))) (Zq (Za 2))):=rfl
abbrev GE(ns:List Int)(m:Nat)(v2 v3 v4:Option D):DL.Env:=[some (IL ns),some (nD m),v2,v3,v4]
def Nb(m:Nat)(w:List Int):Prop:=w.length=m*m/\∀x∈w,0<=x/\x<1000000000000000
theorem ZgD(ns:List Int)(hns:ns.length<=63){m:Nat}(h1:1<=m)(h4:m<=4):∃w,Nb m w/\ZhW [IL ns,nD m]=some (IL w):=by
 have hmm:1<=m*m/\m*m<=16:=⟨Nat.mul_pos h1 h1,Nat.mul_le_mul h4 h4⟩
 have emm:∀v2 v3 v4,eOp mulX (Za 1) (Za 1) (GE ns m v2 v3 v4)=some (.int ((m*m:Nat):Int)):=λv2 v3 v4=>(Zi (x:=nD m) (y:=nD m) rfl rfl).trans ((UF (by omega) (by omega)).trans (by rw [Int.natCast_mul]))
 have t1:Zj 2 gN (GE ns m none none none)=some (.nx (GE ns m (some (IL (List.replicate (m*m) 0))) none none)):=by
  have e1:Zz (Zb (eC (.int 0)) eNil) (GE ns m none none none)=some (.lst [.int 0]):=Xg (Zh rfl nil_of) (by show 1<=1000;decide);have e3:Yq (.lst [.int 0]) (.int ((m*m:Nat):Int))=some (.lst (List.replicate (m*m) [D.int 0]).flatten):=J8 (a:=[.int 0]) (n:=m*m) (by show 1*(m*m)<=100000;omega) (by omega);refine ZE ((Zi e1 (emm _ _ _)).trans (e3.trans ?_));rw [IL,List.map_replicate]
  have:∀k:Nat,(List.replicate k [D.int 0]).flatten=List.replicate k (D.int 0):=λk=>by
   induction k with
   |zero=>rfl
   |succ k ih=>rw [List.replicate_succ,List.flatten_cons,ih,List.replicate_succ];rfl
  rw [this]
 obtain⟨δ',g,w,v3,v4,e,hw⟩:=J7 (γ:=Zs 3) (φ:=Zg gA (YV 2 (Za 4) gV)) (λδ=>∃w v3 v4,δ=GE ns m (some (IL w)) v3 v4/\Nb m w) (ZO 3 1 ((ns.length:Int)-3).toNat) (GE ns m (some (IL (List.replicate (m*m) 0))) none none) ⟨_,_,_,rfl,List.length_replicate,λx hx=>by rw [List.eq_of_mem_replicate hx];omega⟩ (by
  rintro x hx δ ⟨w,v3,v4,rfl,hw⟩
  obtain⟨k,hk,rfl⟩:=Zgd hx;have hk3:3+k<ns.length:=by omega
  have ek:D.int (3+(k:Int)*1)=nD (3+k):=congrArg D.int (by omega);rw [ek];obtain⟨b0,b1⟩:=Uo (a:=((3+k:Nat):Int)-3) (b:=((m*m:Nat):Int)) (by omega);obtain⟨a,ha⟩:=Zfi b0;have hal:a<w.length:=by rw [hw.1];omega
  have tA:gA (GE ns m (some (IL w)) (some (nD (3+k))) v4)=some (.nx (GE ns m (some (IL w)) (some (nD (3+k))) (some (nD a)))):=ZE ((Zi ((Zi (x:=nD (3+k)) (y:=.int 3) rfl rfl).trans (Qh _ _)) (emm _ _ _)).trans ((XB (by omega)).trans (by rw [ha])));have hx:=hw.2 (w.getD a 0) (ZbU hal);have hp:eOp powW (eC (.int 10)) (eC (.int 15)) (GE ns m (some (IL w)) (some (nD (3+k))) (some (nD a)))=some (.int 1000000000000000):=(Zi (x:=.int 10) (y:=.int 15) rfl rfl).trans ((Zdu ⟨by decide,by decide,by decide⟩).trans rfl)
  have eV:gV (GE ns m (some (IL w)) (some (nD (3+k))) (some (nD a)))=some (.int ((w.getD a 0*1009+ns.getD (3+k) 0).fmod 1000000000000000)):=(Zi ((Zi ((Zi (y:=.int 1009) ((Zi (x:=IL w) (y:=nD a) rfl rfl).trans (Vf hal)) rfl).trans (mulL hx.1 (by omega))) ((Zi (x:=IL ns) (y:=nD (3+k)) rfl rfl).trans (Vf hk3))).trans (add_int _ _)) hp).trans (XB (by decide));generalize hy:(w.getD a 0*1009+ns.getD (3+k) 0).fmod 1000000000000000=y at eV
  have hyb:0<=y/\y<1000000000000000:=by rw [<-hy];exact Uo (by decide)
  refine⟨GE ns m (some (IL w)) (some (nD (3+k))) v4,rfl,GE ns m (some (IL (w.set a y))) (some (nD (3+k))) (some (nD a)),?_,_,_,_,rfl,⟨by rw [List.length_set];exact hw.1,λz hz => ?_⟩⟩
  · rw [Zr tA]
    refine(ZbI (xs:=w.map D.int) (k:=a) (by rw [List.length_map];exact hal) rfl rfl eV).trans ?_;have:(w.map D.int).set a (D.int y)=(w.set a y).map D.int:=by rw [List.map_set]
    rw [this];rfl
  · rcases List.mem_or_eq_of_mem_set hz with z1|z1
    · exact hw.2 z z1
    · rw [z1];exact hyb)
 subst e;refine⟨w,hw,Yi (δ:=GE ns m none none none) rfl ?_⟩;have hi:gI (GE ns m (some (IL (List.replicate (m*m) 0))) none none)=some (ZO 3 1 ((ns.length:Int)-3).toNat):=Zc2 (i:=3) (j:=(ns.length:Int)) (Zh (x:=.int 3) rfl (Zh ((ZY (Zh (x:=IL ns) rfl nil_of)).trans (len_lst.trans (by rw [List.length_map]))) nil_of)) (by omega) (by omega) (by omega) (by omega);rw [ZgC,Zr t1,Zr (YG hi g)]
 exact ZU rfl
section
variable{i j:Nat}{τ:DL.Env->Option Bool}{ε:DL.Env->Option D}{ψ:DL.Env->Option Out}{δ δ0 δ1:DL.Env}{d:D}{b:Bool}
theorem Zb0(h:τ δ=some false):Xx τ ε ψ δ=ψ δ:=by
 unfold Xx;rw [h]
theorem ZgE(h:τ δ=some true)(h2:ε δ=some (.bl b)):Xx τ ε ψ δ=some (.rt (.bl b)):=by
 unfold Xx;rw [h];dsimp only;rw [h2]
theorem ZgF(h0:δ.set j none=δ0)(h:ε δ0=some d)(h1:δ.set i (some d)=δ1):U6 i j ε ψ δ=ψ δ1:=by
 subst h0 h1;unfold U6;rw [h]
theorem ZfB(h:ε δ=some d)(hl:j<δ.length)(h1:δ.set j (some d)=δ1)(h2:ψ δ1=some (.rt (.bl b))):Ui j ε ψ δ=some (.rt (.bl b)):=by
 subst h1;unfold Ui;rw [h];dsimp only;rw [if_pos hl,h2]
theorem ZhM{s:List Nat}{xs:List D}(h:Za j δ=some (.tup [.str s,.lst xs]))(hl:xs.length<=1000)(h0:δ.set j none=δ0)(hτ:τ δ0=some false)(he:ε δ0=some (.bl b)):Uj j τ ε δ=some (.rt (.bl b)):=by
 subst h0;unfold Uj;rw [h];dsimp only;rw [if_pos (by rw [PySem.sizeLine_eq];omega),hτ];dsimp only;unfold U7;rw [he]
theorem ZhN{s:List Nat}{z:Int}{zs xs:List D}(h:Za j δ=some (.tup [.str s,.lst (.lst (.int z::zs)::xs)]))(hl:xs.length<=1000)(h0:δ.set j none=δ0)(hτ:τ δ0=some true)(he:ε δ0=some (.bl b)):Uj j τ ε δ=some (.rt (.bl b)):=by
 subst h0;unfold Uj;rw [h];dsimp only;rw [if_pos (by rw [List.length_cons,PySem.sizeLine_eq];omega),hτ];dsimp only;unfold U7;rw [he]
theorem ZhO{n:Nat}{f:List D->Option D}{α:DL.Env->Option (List D)}{ds dds:List D}(h:α δ=some ds)(hn:(ds++dds).length=n):Zo n f dds α δ=f (ds++dds):=by
 unfold Zo;rw [h];exact if_pos hn
end
noncomputable def q1:DL.Env->Option Bool:=(xOr (xB (eOp neD (Za 7) (Za 3))) (xOr (Yc (xB (Yv Zaq (Za 8)))) (xOr (xB (eOp neD (eCB lenD (Zb (Za 8) eNil)) (eC (.int 2)))) (Yc (xB (Yv ZbT (eOp ixD (Za 8) (eC (.int 0)))))))))
noncomputable def q2:DL.Env->Option Bool:=(xB (Zo 2 ZhT [] (Zb (Za 3) (Zb (Za 5) eNil))))
noncomputable def q3:DL.Env->Option D:=(YC (eOp eqD (eOp ixD (Za 8) (eC (.int 0))) (eC (.str cP))) (Zo 3 ZhU [] (Zb (Za 3) (Zb (Za 5) (Zb (eOp ixD (Za 8) (eC (.int 1))) eNil)))))
noncomputable def q4:DL.Env->Option D:=(Zo 3 ZhZ [] (Zb (Za 3) (Zb (Za 5) (Zb (Za 6) eNil))))
noncomputable def q5:DL.Env->Option Bool:=(Yc (xB (Zo 3 Qf [] (Zb (Za 8) (Zb (Za 9) (Zb (Za 1) eNil))))))
noncomputable def q6:DL.Env->Option Bool:=(xB (eOp eqD (eOp ixD (Za 9) (eC (.int 0))) (eC (.str cC))))
noncomputable def q7:DL.Env->Option D:=(Zo 3 Qf [] (Zb (Zo 3 Vg [] (Zb (Za 7) (Zb (Za 5) (Zb (Za 6) eNil)))) (Zb (Za 9) (Zb (Za 1) eNil))))
theorem ZdK:Ur=Xx q1 (eC (.bl false)) (Xx q2 q3 (U6 9 8 q4 (Xx q5 (eC (.bl false)) (Uj 8 q6 q7)))):=rfl
abbrev LB(ns:List Int)(m:Nat)(w:D)(T:List (List Int))(v4:Option D)(n x:Int)(v8 v9:Option D):DL.Env:=[some (IL ns),some (nD m),some w,some (TD T),v4,some (.int n),some (.int x),some (TD T),v8,v9]
section
variable{m:Nat}{T:List (List Int)}{n x:Int}{ns:List Int}{w:D}{v4:Option D}
theorem ZfR{s:List Nat}{d:D}:q1 (LB ns m w T v4 n x (some (.tup [.str s,d])) none)=some false:=Um (ZH ((Zi (x:=TD T) (y:=TD T) rfl rfl).trans (ZeL rfl (ZgZ (ZjN T) (by decide))))) (Um (Ul (b:=true) (ZH (ZaO (d:=.tup [.str s,d]) rfl rfl))) (Um (ZH ((Zi (x:=.int 2) (y:=.int 2) ((ZY (Zh (x:=.tup [.str s,d]) rfl nil_of)).trans Zgf) rfl).trans ((X0 _ _).trans rfl))) (Ul (b:=true) (ZH (ZaO (d:=.str s) (Vp rfl) rfl)))))
theorem ZdL(h:TbW m T)(n0:0<n)(n1:Bd 13 n)(x1:1<=x)(x2:x<=40):∃d,Vg [TD T,.int n,.int x]=some d/\Ur (LB ns m w T v4 n x (some d) none)=some (.rt (.bl true)):=by
 have hslow:∀v8 v9,q2 (LB ns m w T v4 n x v8 v9)=some (Xi T n m):=λv8 v9=>ZH ((ZN (n:=2) (Zh (x:=TD T) rfl (Zh (x:=.int n) rfl nil_of)) rfl).trans (Zgm h.sq h.m4 n1 (by decide)))
 rcases ZeW h n1 with⟨z,hp⟩|⟨z,f,hs,hpos,hd,hp⟩
 · obtain⟨J,hJ⟩:=Zj3 h n0 n1
   obtain⟨L,hL,l1,l2,hb⟩:=ZhG x1 x2;have hv:=ZcU h n0 hJ hL hb hp;have hdue:=ZhL h n0 n1 hJ hL l1 l2;have hro:=ZfA h n0 hJ (L+1) 0 [] (by omega) (.inl (by omega));refine⟨_,hv,?_⟩;generalize res T n m J (L+1) 0 []=d at hv hdue hro ⊢;rw [z]at hslow;have e4:q4 (LB ns m w T v4 n x none none)=some d:=(ZN (n:=3) (Zh (x:=TD T) rfl (Zh (x:=.int n) rfl (Zh (x:=.int x) rfl nil_of))) rfl).trans hdue
   have e5:q5 (LB ns m w T v4 n x (some d) (some d))=some false:=Ul (b:=true) (ZH ((ZN (n:=3) (Zh (x:=d) rfl (Zh (x:=d) rfl (Zh (x:=nD m) rfl nil_of))) rfl).trans (Zcx hro)));have e7:q7 (LB ns m w T v4 n x none (some d))=some (.bl true):=(ZN (n:=3) (Zh ((ZN (n:=3) (Zh (x:=TD T) rfl (Zh (x:=.int n) rfl (Zh (x:=.int x) rfl nil_of))) rfl).trans hv) (Zh (x:=d) rfl (Zh (x:=nD m) rfl nil_of))) rfl).trans (Zcx hro)
   have e1:q1 (LB ns m w T v4 n x (some d) none)=some false:=by
    cases hro with
    |w _=>exact ZfR
    |c _ _=>exact ZfR
   rw [ZdK,Zb0 e1,Zb0 (hslow _ _),ZgF (δ0:=LB ns m w T v4 n x none none) (δ1:=LB ns m w T v4 n x (some d) (some d)) rfl e4 rfl,Zb0 e5];have h1:=h.m1;cases hro with
   | @w v hl=>
    have e6:q6 (LB ns m w T v4 n x none (some (.tup [.str cW,IL v])))=some false:=ZH ((Zi (x:=.str cW) (y:=.str cC) (Vp rfl) rfl).trans ((XZ _ _).trans rfl));exact ZhM (δ0:=LB ns m w T v4 n x none (some (.tup [.str cW,IL v]))) rfl (by rw [List.length_map,hl];have:=h.m4;omega) rfl e6 e7
   | @c r rs hr hl=>
    have e6:q6 (LB ns m w T v4 n x none (some (.tup [.str cC,TD (r::rs)])))=some true:=ZH ((Zi (x:=.str cC) (y:=.str cC) (Vp rfl) rfl).trans ((XZ _ _).trans (by rw [decide_eq_true rfl])));have hrl:=hr r List.mem_cons_self;cases r with
    |nil=>exact absurd hrl (by show ¬0=m;omega)
    |cons y r=>
     exact ZhN (s:=cC) (z:=y) (zs:=r.map D.int) (xs:=rs.map IL) (δ0:=LB ns m w T v4 n x none (some (.tup [.str cC,TD ((y::r)::rs)]))) rfl (by rw [List.length_map];rw [List.length_cons]at hl;omega) rfl e6 e7
 · refine⟨_,Za3 x hp,?_⟩
   rw [z]at hslow;have e3:q3 (LB ns m w T v4 n x (some (.tup [.str cP,IL (fnd m f)])) none)=some (.bl true):=J5 ((Zi (x:=.str cP) (y:=.str cP) (Vp rfl) rfl).trans ((XZ _ _).trans (by rw [decide_eq_true rfl]))) ((ZN (n:=3) (Zh (x:=TD T) rfl (Zh (x:=.int n) rfl (Zh (x:=IL (fnd m f)) (Qn rfl) nil_of))) rfl).trans (ZcR h n1 hs hpos hd));rw [ZdK,Zb0 ZfR];exact ZgE (hslow _ _) e3
end
end K30
namespace K30
open DL L2
noncomputable def ceE(k:Int):DL.Env->Option D:=(Zo 2 Vy [] (Zb (Za 0) (Zb (eC (.int k)) eNil)))
noncomputable def a1:DL.Env->Option Out:=(Zj 1 (eOp addX (eC (.int 1)) (eOp modW (ceE 0) (eC (.int 4)))))
noncomputable def a2:DL.Env->Option Out:=(Zj 2 (Zo 2 ZhW [] (Zb (Za 0) (Zb (Za 1) eNil))))
noncomputable def teE:DL.Env->Option D:=(Zo 1 ZhV [] (Zb (eOp ixD (Za 1) (eOp addX (eOp mulX (Za 2) (Za 3)) (Za 0))) eNil))
noncomputable def tcE:DL.Env->Option D:=(ZV (ZI (Zb (Za 1) eNil)) (Zs 0) (λ_=>some true) teE 1 [2,4,1])
noncomputable def a5:DL.Env->Option Out:=(Zj 5 (Zo 2 ZhX [] (Zb (ceE 1) (Zb (Za 3) eNil))))
noncomputable def a6:DL.Env->Option Out:=(Zj 6 (eOp addX (eC (.int 1)) (eOp modW (eOp fdivW (ceE 2) (eC (.int 3))) (eC (.int 40)))))
noncomputable def a7:DL.Env->Option Out:=(Zj 7 (ZV (Z2 (Za 3)) (Zs 0) (λ_=>some true) (eCB Y5 (Zb (Za 0) eNil)) 1 []))
noncomputable def a8:DL.Env->Option Bool:=(xB (eOp eqD (eOp modW (ceE 2) (eC (.int 3))) (eC (.int 1))))
noncomputable def b1:DL.Env->Option D:=(Zo 3 Vg [.int 16] (Zb (Za 7) (Zb (Za 5) eNil)))
noncomputable def b2:DL.Env->Option D:=(Zo 3 Vg [] (Zb (Za 7) (Zb (Za 5) (Zb (Za 6) eNil))))
noncomputable def a9:DL.Env->Option Out:=(sIf a8 (Zg (Zj 6 (eC (.int 16))) (Ui 8 b1 Ur)) (Ui 8 b2 Ur))
theorem ZhP:f_Q2=Zg a1 (Zg a2 (Zg (Zj 3 (Zz eNil)) (Zg (ZQ (ZI (Zb (Za 1) eNil)) (Zs 4) (Z7 3 tcE)) (Zg a5 (Zg a6 (Zg a7 a9)))))):=rfl
abbrev LA(ns:List Int)(v1 v2 v3 v4 v5 v6 v7 v8 v9:Option D):DL.Env:=[some (IL ns),v1,v2,v3,v4,v5,v6,v7,v8,v9]
theorem Zj4(ns:List Int){w:List Int}{m k j:Nat}(hw:Nb m w)(hm:m<=4)(hk:k<m)(hj:j<m):teE [some (nD j),some (IL w),some (nD k),some (nD m)]=some (.int (ent (w.getD (k*m+j) 0))):=by
 have hl:k*m+j<w.length:=by
  rw [hw.1];have:(k+1)*m<=m*m:=Nat.mul_le_mul_right m (by omega);rw [Nat.succ_mul]at this;omega
 have e1:eOp addX (eOp mulX (Za 2) (Za 3)) (Za 0) [some (nD j),some (IL w),some (nD k),some (nD m)]=some (nD (k*m+j)):=by
  refine(Zi (x:=.int ((k:Int)*(m:Int))) (y:=nD j) ((Zi (x:=nD k) (y:=nD m) rfl rfl).trans (UF (by omega) (by omega))) rfl).trans ?_;show some (D.int ((k:Int)*(m:Int)+(j:Int)))=_;rw [nD,Int.natCast_add,Int.natCast_mul]
 unfold teE;exact(ZN (n:=1) (Zh ((Zi (x:=IL w) rfl e1).trans (Vf hl)) nil_of) rfl).trans (ZeT _)
theorem Ze6(ns:List Int){w:List Int}{m:Nat}(hw:Nb m w)(hm:m<=4):∃v4,ZQ (ZI (Zb (Za 1) eNil)) (Zs 4) (Z7 3 tcE) (LA ns (some (nD m)) (some (IL w)) (some (TD [])) none none none none none none)=some (.nx (LA ns (some (nD m)) (some (IL w)) (some (TD (tab w m m))) v4 none none none none none)):=by
 obtain⟨δ',h1,v4,e⟩:=X1 (γ:=Zs 4) (φ:=Z7 3 tcE) (λk δ=>∃v4,δ=LA ns (some (nD m)) (some (IL w)) (some (TD (tab w m k))) v4 none none none none none) (ZO 0 1 m) 0 (LA ns (some (nD m)) (some (IL w)) (some (TD [])) none none none none none none) ⟨_,rfl⟩ (by
  intro j x δ hx ⟨v4,e⟩;subst e;obtain⟨hj,rfl⟩:=Qb hx;rw [Nat.zero_add]
  have hc:tcE (LA ns (some (nD m)) (some (IL w)) (some (TD (tab w m j))) (some (nD j)) none none none none none)=some (IL (UL w m j)):=by
   have e2:(UL w m j).map D.int=(List.range m).map λi=>D.int (ent (w.getD (j*m+i) 0)):=by unfold UL;rw [List.map_map];rfl
   show _=some (D.lst ((UL w m j).map D.int));rw [e2];unfold tcE;exact YX ((Vw (j:=(m:Int)) rfl (by omega) (by omega)).trans (by rw [Int.toNat_natCast])) rfl (ZeU (δ0:=[none,some (IL w),some (nD j),some (nD m)]) _ m (by show 0<4;decide) λi hi=>Zj4 ns hw hm hj hi) (by simp;omega)
  refine⟨_,rfl,LA ns (some (nD m)) (some (IL w)) (some (TD (tab w m (j+1)))) (some (nD j)) none none none none none,(Vx (xs:=(tab w m j).map IL) rfl hc (by unfold tab;simp;omega)).trans ?_,_,rfl⟩
  have es:(tab w m j).map IL++[IL (UL w m j)]=(tab w m (j+1)).map IL:=by
   unfold tab;rw [List.range_succ,List.map_append,List.map_append];rfl
  rw [es];rfl)
 subst e;rw [Zge,Nat.zero_add]at h1;exact⟨v4,YG ((Vw (j:=(m:Int)) rfl (by omega) (by omega)).trans (by rw [Int.toNat_natCast])) h1⟩
theorem Zh4(ns:List Int)(k:Nat){δ:DL.Env}(h:Za 0 δ=some (IL ns)):ceE (k:Int) δ=some (.int (ns.getD k 0)):=(ZN (n:=2) (Zh h (Zh (x:=.int (k:Int)) rfl nil_of)) rfl).trans (Zgg ns k)
theorem all_true(ns:List Int)(hns:ns.length<=63):Zh0 [.lst (ns.map D.int)]=some (.bl true):=by
 obtain⟨c0',c1'⟩:=Uo (a:=ns.getD 0 0) (b:=4) (by decide);obtain⟨m,hm⟩:=Zfi (show 0<=1+(ns.getD 0 0).fmod 4 by omega);have m1:1<=m:=by omega
 have m4:m<=4:=by omega
 obtain⟨w,hw,hg⟩:=ZgD ns hns m1 m4;obtain⟨v4,ht⟩:=Ze6 ns hw m4;have hT:=Zhz w m m1 m4;generalize tab w m m=T at *;obtain⟨n,n1,n2,hwish⟩:=Zgn hT (ns.getD 1 0);have hn:Bd 13 n:=Zki (by omega) (by omega);obtain⟨y0,y1⟩:=Uo (a:=(ns.getD 2 0).fdiv 3) (b:=40) (by decide);have t1:a1 (LA ns none none none none none none none none none)=some (.nx (LA ns (some (nD m)) none none none none none none none none)):=ZE ((Zi (x:=.int 1) (y:=.int ((ns.getD 0 0).fmod 4)) rfl ((Zi (y:=.int 4) (Zh4 ns 0 rfl) rfl).trans (XB (by decide)))).trans ((add_int _ _).trans (by rw [hm])))
 have t2:a2 (LA ns (some (nD m)) none none none none none none none none)=some (.nx (LA ns (some (nD m)) (some (IL w)) none none none none none none none)):=ZE ((ZN (n:=2) (Zh (x:=IL ns) rfl (Zh (x:=nD m) rfl nil_of)) rfl).trans hg);have t3:Zj 3 (Zz eNil) (LA ns (some (nD m)) (some (IL w)) none none none none none none none)=some (.nx (LA ns (some (nD m)) (some (IL w)) (some (TD [])) none none none none none none)):=ZE (Xg nil_of (by show 0<=1000;decide))
 have t5:a5 (LA ns (some (nD m)) (some (IL w)) (some (TD T)) v4 none none none none none)=some (.nx (LA ns (some (nD m)) (some (IL w)) (some (TD T)) v4 (some (.int n)) none none none none)):=ZE ((ZN (n:=2) (Zh (Zh4 ns 1 rfl) (Zh (x:=TD T) rfl nil_of)) rfl).trans hwish);have t6:a6 (LA ns (some (nD m)) (some (IL w)) (some (TD T)) v4 (some (.int n)) none none none none)=some (.nx (LA ns (some (nD m)) (some (IL w)) (some (TD T)) v4 (some (.int n)) (some (.int (1+((ns.getD 2 0).fdiv 3).fmod 40))) none none none)):=ZE ((Zi (x:=.int 1) rfl ((Zi (y:=.int 40) ((Zi (y:=.int 3) (Zh4 ns 2 rfl) rfl).trans (Us (e:=1) (by show 3<=10;decide) (by decide) (by decide))) rfl).trans (XB (by decide)))).trans (add_int _ _))
 have xb:1<=1+((ns.getD 2 0).fdiv 3).fmod 40/\1+((ns.getD 2 0).fdiv 3).fmod 40<=40:=⟨by omega,by omega⟩
 generalize 1+((ns.getD 2 0).fdiv 3).fmod 40=x at *;have hc:Z3 (Zs 0) (λ_=>some true) (eCB Y5 (Zb (Za 0) eNil)) [none] (T.map IL)=some (T.map IL):=XA IL IL T λr _=>⟨[some (IL r)],rfl,(ZY (Zh (x:=IL r) rfl nil_of)).trans ZbH⟩
 have t7:a7 (LA ns (some (nD m)) (some (IL w)) (some (TD T)) v4 (some (.int n)) (some (.int x)) none none none)=some (.nx (LB ns m (IL w) T v4 n x none none)):=ZE (YX (Xz rfl) rfl hc (by rw [List.length_map,hT.ln];omega));have t8:a8 (LB ns m (IL w) T v4 n x none none)=some (decide ((ns.getD 2 0).fmod 3=1)):=ZH ((Zi (y:=.int 1) ((Zi (y:=.int 3) (Zh4 ns 2 rfl) rfl).trans (XB (by decide))) rfl).trans (Xf _ _))
 refine Yi (δ:=LA ns none none none none none none none none none) rfl ?_;rw [ZhP,Zr t1,Zr t2,Zr t3,Zr ht,Zr t5,Zr t6,Zr t7]
 by_cases hz:(ns.getD 2 0).fmod 3=1
 · rw [decide_eq_true hz]at t8
   obtain⟨d,g1,g2⟩:=ZdL (ns:=ns) (w:=IL w) (v4:=v4) hT (show 0<n by omega) hn (x:=16) (by decide) (by decide);have ta:Zj 6 (eC (.int 16)) (LB ns m (IL w) T v4 n x none none)=some (.nx (LB ns m (IL w) T v4 n 16 none none)):=rfl;refine(Xy t8).trans ?_;rw [Zr ta];exact ZfB (δ1:=LB ns m (IL w) T v4 n 16 (some d) none) ((ZhO (n:=3) (Zh (x:=TD T) rfl (Zh (x:=.int n) rfl nil_of)) rfl).trans g1) (by show 8<10;decide) rfl g2
 · rw [decide_eq_false hz]at t8
   obtain⟨d,g1,g2⟩:=ZdL (ns:=ns) (w:=IL w) (v4:=v4) hT (show 0<n by omega) hn (x:=x) xb.1 xb.2;exact(YB t8).trans (ZfB (δ1:=LB ns m (IL w) T v4 n x (some d) none) ((ZN (n:=3) (Zh (x:=TD T) rfl (Zh (x:=.int n) rfl (Zh (x:=.int x) rfl nil_of))) rfl).trans g1) (by show 8<10;decide) rfl g2)
end K30
namespace K30
open PySem PySem.Spec L2 DL
def Zen(K:PySem.W.Frag):Sp:=λvs H Q _=>∃(a:Addr) (ns:List Int),vs=[.ref a]/\SqL K H a (ns.map V.int)/\ns.length<=63/\∀H',Q (.bl true) H'
theorem ZhQ(hall:∀ns:List Int,ns.length<=63->Zh0 [.lst (ns.map D.int)]=some (.bl true)){P:Program}{w:World}{K:PySem.W.Frag}{mg:Str->Option Value}{base:Heap}{t:Adr}(T:Txt K mg t):FnOk P w K mg base CX0 11 t.a_Q2 t.d_Q2 ["script"] (Zen K):=
 (ZjA T).imp λvs H Q E ⟨a,ns,hv,hr,hl,q⟩=>by
   subst hv;refine⟨λ_=>False,[.lst (ns.map D.int)],.bl true,λ_ z=>z.elim,.cons ?_ .nil,rfl,hall ns hl,λv H' _ r => ?_⟩
   · unfold Rep
     refine⟨a,_,rfl,λz=>z.elim,hr,?_⟩;have:=RepL.of_vals (cA:=⟨t.c,K⟩) (av:=λ_=>False) (H:=H) (xs:=ns.map D.int) (by rw [List.all_map];exact List.all_eq_true.mpr λ_ _=>rfl);rw [List.map_map]at this;exact this
   · cases(show v=_ from r)
     exact q H'
theorem all_mk (hall:∀ns:List Int,ns.length<=63->Zh0 [.lst (ns.map D.int)]=some (.bl true)) {l:PySem.W.OpenLaw} {w:World} {K:PySem.W.Frag} {h:Heap} {mg:Str->Option Value} {fa:Addr} (X:K.In h) (G:h.Ns mainGlobals mg) (hfa:mg "law" = some (.ref fa))
 {f0:Addr} {od0 an0:Option Addr} {sl0:Array (Option Value)} {oc0 kV0 dc0 pm0 cd0 ct0:Value}
 {f1:Addr} {od1 an1:Option Addr} {sl1:Array (Option Value)} {oc1 kV1 dc1 pm1 cd1 ct1:Value}
 {f2:Addr} {od2 an2:Option Addr} {sl2:Array (Option Value)} {oc2 kV2 dc2 pm2 cd2 ct2:Value}
 {f3:Addr} {od3 an3:Option Addr} {sl3:Array (Option Value)} {oc3 kV3 dc3 pm3 cd3 ct3:Value}
 {f4:Addr} {od4 an4:Option Addr} {sl4:Array (Option Value)} {oc4 kV4 dc4 pm4 cd4 ct4:Value}
 {f5:Addr} {od5 an5:Option Addr} {sl5:Array (Option Value)} {oc5 kV5 dc5 pm5 cd5 ct5:Value}
 {f6:Addr} {od6 an6:Option Addr} {sl6:Array (Option Value)} {oc6 kV6 dc6 pm6 cd6 ct6:Value}
 {f7:Addr} {od7 an7:Option Addr} {sl7:Array (Option Value)} {oc7 kV7 dc7 pm7 cd7 ct7:Value}
 {f8:Addr} {od8 an8:Option Addr} {sl8:Array (Option Value)} {oc8 kV8 dc8 pm8 cd8 ct8:Value}
 {f9:Addr} {od9 an9:Option Addr} {sl9:Array (Option Value)} {oc9 kV9 dc9 pm9 cd9 ct9:Value}
 {f10:Addr} {od10 an10:Option Addr} {sl10:Array (Option Value)} {oc10 kV10 dc10 pm10 cd10 ct10:Value}
 {f11:Addr} {od11 an11:Option Addr} {sl11:Array (Option Value)} {oc11 kV11 dc11 pm11 cd11 ct11:Value}
 {f12:Addr} {od12 an12:Option Addr} {sl12:Array (Option Value)} {oc12 kV12 dc12 pm12 cd12 ct12:Value}
 {dt12:Addr} {do12:Obj} {dn12:Nat} {tk12_0:Tok}
 {f13:Addr} {od13 an13:Option Addr} {sl13:Array (Option Value)} {oc13 kV13 dc13 pm13 cd13 ct13:Value}
 {f14:Addr} {od14 an14:Option Addr} {sl14:Array (Option Value)} {oc14 kV14 dc14 pm14 cd14 ct14:Value}
 {f15:Addr} {od15 an15:Option Addr} {sl15:Array (Option Value)} {oc15 kV15 dc15 pm15 cd15 ct15:Value}
 {f16:Addr} {od16 an16:Option Addr} {sl16:Array (Option Value)} {oc16 kV16 dc16 pm16 cd16 ct16:Value}
 {f17:Addr} {od17 an17:Option Addr} {sl17:Array (Option Value)} {oc17 kV17 dc17 pm17 cd17 ct17:Value}
 {f18:Addr} {od18 an18:Option Addr} {sl18:Array (Option Value)} {oc18 kV18 dc18 pm18 cd18 ct18:Value}
 {f19:Addr} {od19 an19:Option Addr} {sl19:Array (Option Value)} {oc19 kV19 dc19 pm19 cd19 ct19:Value}
 {f20:Addr} {od20 an20:Option Addr} {sl20:Array (Option Value)} {oc20 kV20 dc20 pm20 cd20 ct20:Value}
 {f21:Addr} {od21 an21:Option Addr} {sl21:Array (Option Value)} {oc21 kV21 dc21 pm21 cd21 ct21:Value}
 {f22:Addr} {od22 an22:Option Addr} {sl22:Array (Option Value)} {oc22 kV22 dc22 pm22 cd22 ct22:Value}
 {f23:Addr} {od23 an23:Option Addr} {sl23:Array (Option Value)} {oc23 kV23 dc23 pm23 cd23 ct23:Value}
 {f24:Addr} {od24 an24:Option Addr} {sl24:Array (Option Value)} {oc24 kV24 dc24 pm24 cd24 ct24:Value}
 {f25:Addr} {od25 an25:Option Addr} {sl25:Array (Option Value)} {oc25 kV25 dc25 pm25 cd25 ct25:Value}
 {f26:Addr} {od26 an26:Option Addr} {sl26:Array (Option Value)} {oc26 kV26 dc26 pm26 cd26 ct26:Value}
 {f27:Addr} {od27 an27:Option Addr} {sl27:Array (Option Value)} {oc27 kV27 dc27 pm27 cd27 ct27:Value}
 {f28:Addr} {od28 an28:Option Addr} {sl28:Array (Option Value)} {oc28 kV28 dc28 pm28 cd28 ct28:Value}
 (a0:nsIn K mainGlobals "common_divisor" = some (some (.ref f0)))
 (l0:K.lookup f0=some ⟨oc0,od0,.func (fnOf "common_divisor" "common_divisor" (defArgs Vz) (defBody Vz) (defScope Vz) .none kV0 dc0 pm0 an0 cd0 ct0),sl0⟩)
 (c0:codeIn K cd0 "common_divisor" = true)
 (k0:keepIn K (.ref f0)=true)
 (a1:nsIn K mainGlobals "reduced" = some (some (.ref f1)))
 (l1:K.lookup f1=some ⟨oc1,od1,.func (fnOf "reduced" "reduced" (defArgs VB) (defBody VB) (defScope VB) .none kV1 dc1 pm1 an1 cd1 ct1),sl1⟩)
 (c1:codeIn K cd1 "reduced" = true)
 (k1:keepIn K (.ref f1)=true)
 (a2:nsIn K mainGlobals "row_to_take" = some (some (.ref f2)))
 (l2:K.lookup f2=some ⟨oc2,od2,.func (fnOf "row_to_take" "row_to_take" (defArgs Vh) (defBody Vh) (defScope Vh) .none kV2 dc2 pm2 an2 cd2 ct2),sl2⟩)
 (c2:codeIn K cd2 "row_to_take" = true)
 (k2:keepIn K (.ref f2)=true)
 (a3:nsIn K mainGlobals "exchanged" = some (some (.ref f3)))
 (l3:K.lookup f3=some ⟨oc3,od3,.func (fnOf "exchanged" "exchanged" (defArgs VC) (defBody VC) (defScope VC) .none kV3 dc3 pm3 an3 cd3 ct3),sl3⟩)
 (c3:codeIn K cd3 "exchanged" = true)
 (k3:keepIn K (.ref f3)=true)
 (a4:nsIn K mainGlobals "cleared" = some (some (.ref f4)))
 (l4:K.lookup f4=some ⟨oc4,od4,.func (fnOf "cleared" "cleared" (defArgs Vi) (defBody Vi) (defScope Vi) .none kV4 dc4 pm4 an4 cd4 ct4),sl4⟩)
 (c4:codeIn K cd4 "cleared" = true)
 (k4:keepIn K (.ref f4)=true)
 (a5:nsIn K mainGlobals "solved" = some (some (.ref f5)))
 (l5:K.lookup f5=some ⟨oc5,od5,.func (fnOf "solved" "solved" (defArgs X2) (defBody X2) (defScope X2) .none kV5 dc5 pm5 an5 cd5 ct5),sl5⟩)
 (c5:codeIn K cd5 "solved" = true)
 (k5:keepIn K (.ref f5)=true)
 (a6:nsIn K mainGlobals "press_sides" = some (some (.ref f6)))
 (l6:K.lookup f6=some ⟨oc6,od6,.func (fnOf "press_sides" "press_sides" (defArgs Vj) (defBody Vj) (defScope Vj) .none kV6 dc6 pm6 an6 cd6 ct6),sl6⟩)
 (c6:codeIn K cd6 "press_sides" = true)
 (k6:keepIn K (.ref f6)=true)
 (a7:nsIn K mainGlobals "press" = some (some (.ref f7)))
 (l7:K.lookup f7=some ⟨oc7,od7,.func (fnOf "press" "press" (defArgs X3) (defBody X3) (defScope X3) .none kV7 dc7 pm7 an7 cd7 ct7),sl7⟩)
 (c7:codeIn K cd7 "press" = true)
 (k7:keepIn K (.ref f7)=true)
 (a8:nsIn K mainGlobals "borne" = some (some (.ref f8)))
 (l8:K.lookup f8=some ⟨oc8,od8,.func (fnOf "borne" "borne" (defArgs Vk) (defBody Vk) (defScope Vk) .none kV8 dc8 pm8 an8 cd8 ct8),sl8⟩)
 (c8:codeIn K cd8 "borne" = true)
 (k8:keepIn K (.ref f8)=true)
 (a9:nsIn K mainGlobals "shrunk" = some (some (.ref f9)))
 (l9:K.lookup f9=some ⟨oc9,od9,.func (fnOf "shrunk" "shrunk" (defArgs Vl) (defBody Vl) (defScope Vl) .none kV9 dc9 pm9 an9 cd9 ct9),sl9⟩)
 (c9:codeIn K cd9 "shrunk" = true)
 (k9:keepIn K (.ref f9)=true)
 (a10:nsIn K mainGlobals "rounds" = some (some (.ref f10)))
 (l10:K.lookup f10=some ⟨oc10,od10,.func (fnOf "rounds" "rounds" (defArgs VD) (defBody VD) (defScope VD) .none kV10 dc10 pm10 an10 cd10 ct10),sl10⟩)
 (c10:codeIn K cd10 "rounds" = true)
 (k10:keepIn K (.ref f10)=true)
 (a11:nsIn K mainGlobals "beginnings" = some (some (.ref f11)))
 (l11:K.lookup f11=some ⟨oc11,od11,.func (fnOf "beginnings" "beginnings" (defArgs VH) (defBody VH) (defScope VH) .none kV11 dc11 pm11 an11 cd11 ct11),sl11⟩)
 (c11:codeIn K cd11 "beginnings" = true)
 (k11:keepIn K (.ref f11)=true)
 (a12:nsIn K mainGlobals "verdict" = some (some (.ref f12)))
 (l12:K.lookup f12=some ⟨oc12,od12,.func (fnOf "verdict" "verdict" (defArgs VL) (defBody VL) (defScope VL) (.ref dt12) kV12 dc12 pm12 an12 cd12 ct12),sl12⟩)
 (c12:codeIn K cd12 "verdict" = true)
 (k12:keepIn K (.ref f12)=true)
 (y12:K.lookup dt12=some do12)
 (yd12:do12.data = .seq ([.int 16 tk12_0]:List Value).toArray dn12)
 (a13:nsIn K mainGlobals "_law_cell_at" = some (some (.ref f13)))
 (l13:K.lookup f13=some ⟨oc13,od13,.func (fnOf "_law_cell_at" "_law_cell_at" (defArgs VN) (defBody VN) (defScope VN) .none kV13 dc13 pm13 an13 cd13 ct13),sl13⟩)
 (c13:codeIn K cd13 "_law_cell_at" = true)
 (k13:keepIn K (.ref f13)=true)
 (a14:nsIn K mainGlobals "_law_is_whole" = some (some (.ref f14)))
 (l14:K.lookup f14=some ⟨oc14,od14,.func (fnOf "_law_is_whole" "_law_is_whole" (defArgs VP) (defBody VP) (defScope VP) .none kV14 dc14 pm14 an14 cd14 ct14),sl14⟩)
 (c14:codeIn K cd14 "_law_is_whole" = true)
 (k14:keepIn K (.ref f14)=true)
 (a15:nsIn K mainGlobals "_law_row" = some (some (.ref f15)))
 (l15:K.lookup f15=some ⟨oc15,od15,.func (fnOf "_law_row" "_law_row" (defArgs VQ) (defBody VQ) (defScope VQ) .none kV15 dc15 pm15 an15 cd15 ct15),sl15⟩)
 (c15:codeIn K cd15 "_law_row" = true)
 (k15:keepIn K (.ref f15)=true)
 (a16:nsIn K mainGlobals "_law_signed" = some (some (.ref f16)))
 (l16:K.lookup f16=some ⟨oc16,od16,.func (fnOf "_law_signed" "_law_signed" (defArgs VR) (defBody VR) (defScope VR) .none kV16 dc16 pm16 an16 cd16 ct16),sl16⟩)
 (c16:codeIn K cd16 "_law_signed" = true)
 (k16:keepIn K (.ref f16)=true)
 (a17:nsIn K mainGlobals "_law_product" = some (some (.ref f17)))
 (l17:K.lookup f17=some ⟨oc17,od17,.func (fnOf "_law_product" "_law_product" (defArgs VU) (defBody VU) (defScope VU) .none kV17 dc17 pm17 an17 cd17 ct17),sl17⟩)
 (c17:codeIn K cd17 "_law_product" = true)
 (k17:keepIn K (.ref f17)=true)
 (a18:nsIn K mainGlobals "_law_slow" = some (some (.ref f18)))
 (l18:K.lookup f18=some ⟨oc18,od18,.func (fnOf "_law_slow" "_law_slow" (defArgs Vm) (defBody Vm) (defScope Vm) .none kV18 dc18 pm18 an18 cd18 ct18),sl18⟩)
 (c18:codeIn K cd18 "_law_slow" = true)
 (k18:keepIn K (.ref f18)=true)
 (a19:nsIn K mainGlobals "_law_alone" = some (some (.ref f19)))
 (l19:K.lookup f19=some ⟨oc19,od19,.func (fnOf "_law_alone" "_law_alone" (defArgs VV) (defBody VV) (defScope VV) .none kV19 dc19 pm19 an19 cd19 ct19),sl19⟩)
 (c19:codeIn K cd19 "_law_alone" = true)
 (k19:keepIn K (.ref f19)=true)
 (a20:nsIn K mainGlobals "_law_pressed" = some (some (.ref f20)))
 (l20:K.lookup f20=some ⟨oc20,od20,.func (fnOf "_law_pressed" "_law_pressed" (defArgs Vn) (defBody Vn) (defScope Vn) .none kV20 dc20 pm20 an20 cd20 ct20),sl20⟩)
 (c20:codeIn K cd20 "_law_pressed" = true)
 (k20:keepIn K (.ref f20)=true)
 (a21:nsIn K mainGlobals "_law_entry" = some (some (.ref f21)))
 (l21:K.lookup f21=some ⟨oc21,od21,.func (fnOf "_law_entry" "_law_entry" (defArgs VY) (defBody VY) (defScope VY) .none kV21 dc21 pm21 an21 cd21 ct21),sl21⟩)
 (c21:codeIn K cd21 "_law_entry" = true)
 (k21:keepIn K (.ref f21)=true)
 (a22:nsIn K mainGlobals "_law_gathered" = some (some (.ref f22)))
 (l22:K.lookup f22=some ⟨oc22,od22,.func (fnOf "_law_gathered" "_law_gathered" (defArgs VZ) (defBody VZ) (defScope VZ) .none kV22 dc22 pm22 an22 cd22 ct22),sl22⟩)
 (c22:codeIn K cd22 "_law_gathered" = true)
 (k22:keepIn K (.ref f22)=true)
 (a23:nsIn K mainGlobals "_law_wish" = some (some (.ref f23)))
 (l23:K.lookup f23=some ⟨oc23,od23,.func (fnOf "_law_wish" "_law_wish" (defArgs Vo) (defBody Vo) (defScope Vo) .none kV23 dc23 pm23 an23 cd23 ct23),sl23⟩)
 (c23:codeIn K cd23 "_law_wish" = true)
 (k23:keepIn K (.ref f23)=true)
 (a24:nsIn K mainGlobals "_law_shrunk" = some (some (.ref f24)))
 (l24:K.lookup f24=some ⟨oc24,od24,.func (fnOf "_law_shrunk" "_law_shrunk" (defArgs V0) (defBody V0) (defScope V0) .none kV24 dc24 pm24 an24 cd24 ct24),sl24⟩)
 (c24:codeIn K cd24 "_law_shrunk" = true)
 (k24:keepIn K (.ref f24)=true)
 (a25:nsIn K mainGlobals "_law_rounds" = some (some (.ref f25)))
 (l25:K.lookup f25=some ⟨oc25,od25,.func (fnOf "_law_rounds" "_law_rounds" (defArgs V1) (defBody V1) (defScope V1) .none kV25 dc25 pm25 an25 cd25 ct25),sl25⟩)
 (c25:codeIn K cd25 "_law_rounds" = true)
 (k25:keepIn K (.ref f25)=true)
 (a26:nsIn K mainGlobals "_law_due" = some (some (.ref f26)))
 (l26:K.lookup f26=some ⟨oc26,od26,.func (fnOf "_law_due" "_law_due" (defArgs V2) (defBody V2) (defScope V2) .none kV26 dc26 pm26 an26 cd26 ct26),sl26⟩)
 (c26:codeIn K cd26 "_law_due" = true)
 (k26:keepIn K (.ref f26)=true)
 (a27:nsIn K mainGlobals "_law_alike" = some (some (.ref f27)))
 (l27:K.lookup f27=some ⟨oc27,od27,.func (fnOf "_law_alike" "_law_alike" (defArgs V3) (defBody V3) (defScope V3) .none kV27 dc27 pm27 an27 cd27 ct27),sl27⟩)
 (c27:codeIn K cd27 "_law_alike" = true)
 (k27:keepIn K (.ref f27)=true)
 (a28:nsIn K mainGlobals "law" = some (some (.ref f28)))
 (l28:K.lookup f28=some ⟨oc28,od28,.func (fnOf "law" "law" (defArgs Y8) (defBody Y8) (defScope Y8) .none kV28 dc28 pm28 an28 cd28 ct28),sl28⟩)
 (c28:codeIn K cd28 "law" = true)
 (k28:keepIn K (.ref f28)=true)
 (Zln:nsIn K mainGlobals "abs" = some none)
 (Zlo:nsIn K mainGlobals "bool" = some none)
 (Zlp:nsIn K mainGlobals "enumerate" = some none)
 (Zlq:nsIn K mainGlobals "int" = some none)
 (Zlr:nsIn K mainGlobals "isinstance" = some none)
 (Zls:nsIn K mainGlobals "len" = some none)
 (Zlt:nsIn K mainGlobals "list" = some none)
 (Zlu:nsIn K mainGlobals "max" = some none)
 (Zlv:nsIn K mainGlobals "min" = some none)
 (Zlw:nsIn K mainGlobals "range" = some none)
 (Zlx:nsIn K mainGlobals "str" = some none)
 (Zly:nsIn K mainGlobals "sum" = some none)
 (Zlz:nsIn K mainGlobals "tuple" = some none)
 (ZlA:nsIn K mainGlobals "zip" = some none)
 (ZkT:kitOne K (.type "NoneType") (.type "bool")=some false)
 (ZkY:kitOne K (.type "bool") (.type "bool")=some true)
 (Zk3:kitOne K (.type "int") (.type "bool")=some false)
 (Zld:kitOne K (.type "str") (.type "bool")=some false)
 (Zk8:kitOne K (.type "list") (.type "bool")=some false)
 (Zli:kitOne K (.type "tuple") (.type "bool")=some false)
 (ZkU:kitOne K (.type "NoneType") (.type "int")=some false)
 (ZkZ:kitOne K (.type "bool") (.type "int")=some true)
 (Zk4:kitOne K (.type "int") (.type "int")=some true)
 (Zle:kitOne K (.type "str") (.type "int")=some false)
 (Zk9:kitOne K (.type "list") (.type "int")=some false)
 (Zlj:kitOne K (.type "tuple") (.type "int")=some false)
 (ZkV:kitOne K (.type "NoneType") (.type "list")=some false)
 (Zk0:kitOne K (.type "bool") (.type "list")=some false)
 (Zk5:kitOne K (.type "int") (.type "list")=some false)
 (Zlf:kitOne K (.type "str") (.type "list")=some false)
 (Zla:kitOne K (.type "list") (.type "list")=some true)
 (Zlk:kitOne K (.type "tuple") (.type "list")=some false)
 (ZkW:kitOne K (.type "NoneType") (.type "str")=some false)
 (Zk1:kitOne K (.type "bool") (.type "str")=some false)
 (Zk6:kitOne K (.type "int") (.type "str")=some false)
 (Zlg:kitOne K (.type "str") (.type "str")=some true)
 (Zlb:kitOne K (.type "list") (.type "str")=some false)
 (Zll:kitOne K (.type "tuple") (.type "str")=some false)
 (ZkX:kitOne K (.type "NoneType") (.type "tuple")=some false)
 (Zk2:kitOne K (.type "bool") (.type "tuple")=some false)
 (Zk7:kitOne K (.type "int") (.type "tuple")=some false)
 (Zlh:kitOne K (.type "str") (.type "tuple")=some false)
 (Zlc:kitOne K (.type "list") (.type "tuple")=some false)
 (Zlm:kitOne K (.type "tuple") (.type "tuple")=some true)
 : ∃fd:FuncData,(∀(s:Shared)(v:Value),BindsTo s fd ⟨[v],[]⟩ [("script",v)])/\∀base:Heap,K.In base->base.Ns mainGlobals mg->FnOk l.prog w K mg base CX0 11 fa fd ["script"] (Zen K):=by
 have e:=hfa.symm.trans (mg_of X G a28);cases e;have F0:FunX K "common_divisor" "common_divisor" Vz f0 _:=(ZC (st:=Vz) l0 c0 k0).x;have b0:=(ZC (st:=Vz) l0 c0 k0).binds (ps:=["a", "b"]) λ_ _ _ _ _ _ us hl=>match us,hl with|[_,_],_=>rfl
 have F1:FunX K "reduced" "reduced" VB f1 _:=(ZC (st:=VB) l1 c1 k1).x;have b1:=(ZC (st:=VB) l1 c1 k1).binds (ps:=["a", "b"]) λ_ _ _ _ _ _ us hl=>match us,hl with|[_,_],_=>rfl
 have F2:FunX K "row_to_take" "row_to_take" Vh f2 _:=(ZC (st:=Vh) l2 c2 k2).x;have b2:=(ZC (st:=Vh) l2 c2 k2).binds (ps:=["rows", "place"]) λ_ _ _ _ _ _ us hl=>match us,hl with|[_,_],_=>rfl
 have F3:FunX K "exchanged" "exchanged" VC f3 _:=(ZC (st:=VC) l3 c3 k3).x;have b3:=(ZC (st:=VC) l3 c3 k3).binds (ps:=["rows", "one", "other"]) λ_ _ _ _ _ _ us hl=>match us,hl with|[_,_,_],_=>rfl
 have F4:FunX K "cleared" "cleared" Vi f4 _:=(ZC (st:=Vi) l4 c4 k4).x;have b4:=(ZC (st:=Vi) l4 c4 k4).binds (ps:=["rows", "place", "divided_by"]) λ_ _ _ _ _ _ us hl=>match us,hl with|[_,_,_],_=>rfl
 have F5:FunX K "solved" "solved" X2 f5 _:=(ZC (st:=X2) l5 c5 k5).x;have b5:=(ZC (st:=X2) l5 c5 k5).binds (ps:=["table", "right"]) λ_ _ _ _ _ _ us hl=>match us,hl with|[_,_],_=>rfl
 have F6:FunX K "press_sides" "press_sides" Vj f6 _:=(ZC (st:=Vj) l6 c6 k6).x;have b6:=(ZC (st:=Vj) l6 c6 k6).binds (ps:=["table", "n"]) λ_ _ _ _ _ _ us hl=>match us,hl with|[_,_],_=>rfl
 have F7:FunX K "press" "press" X3 f7 _:=(ZC (st:=X3) l7 c7 k7).x;have b7:=(ZC (st:=X3) l7 c7 k7).binds (ps:=["table", "n"]) λ_ _ _ _ _ _ us hl=>match us,hl with|[_,_],_=>rfl
 have F8:FunX K "borne" "borne" Vk f8 _:=(ZC (st:=Vk) l8 c8 k8).x;have b8:=(ZC (st:=Vk) l8 c8 k8).binds (ps:=["table", "weights"]) λ_ _ _ _ _ _ us hl=>match us,hl with|[_,_],_=>rfl
 have F9:FunX K "shrunk" "shrunk" Vl f9 _:=(ZC (st:=Vl) l9 c9 k9).x;have b9:=(ZC (st:=Vl) l9 c9 k9).binds (ps:=["table", "n", "weights"]) λ_ _ _ _ _ _ us hl=>match us,hl with|[_,_,_],_=>rfl
 have F10:FunX K "rounds" "rounds" VD f10 _:=(ZC (st:=VD) l10 c10 k10).x;have b10:=(ZC (st:=VD) l10 c10 k10).binds (ps:=["table", "n", "weights"]) λ_ _ _ _ _ _ us hl=>match us,hl with|[_,_,_],_=>rfl
 have F11:FunX K "beginnings" "beginnings" VH f11 _:=(ZC (st:=VH) l11 c11 k11).x;have b11:=(ZC (st:=VH) l11 c11 k11).binds (ps:=["most"]) λ_ _ _ _ _ _ us hl=>match us,hl with|[_],_=>rfl
 have F12:FunX K "verdict" "verdict" VL f12 _:=⟨_,_,_,_,_,_,_,_,_,_,rfl,l12,c12⟩
 have b12_0:Binds K _ ["table", "n", "most"] []:=ZaJ ["table", "n", "most"] (x:="verdict") (qual:="verdict") (st:=VL) (kV:=kV12) (doc:=dc12) (pm:=pm12) (an:=an12) (cdv:=cd12) (ct:=ct12) y12 yd12 rfl λus hl=>match us,hl with|[_,_,_],_=>⟨_,rfl,rfl⟩
 have b12_1:Binds K _ ["table", "n", "most"] [.int 16 tk12_0]:=ZaJ ["table", "n"] (x:="verdict") (qual:="verdict") (st:=VL) (kV:=kV12) (doc:=dc12) (pm:=pm12) (an:=an12) (cdv:=cd12) (ct:=ct12) y12 yd12 rfl λus hl=>match us,hl with|[_,_],_=>⟨_,rfl,rfl⟩
 have F13:FunX K "_law_cell_at" "_law_cell_at" VN f13 _:=(ZC (st:=VN) l13 c13 k13).x;have b13:=(ZC (st:=VN) l13 c13 k13).binds (ps:=["script", "k"]) λ_ _ _ _ _ _ us hl=>match us,hl with|[_,_],_=>rfl
 have F14:FunX K "_law_is_whole" "_law_is_whole" VP f14 _:=(ZC (st:=VP) l14 c14 k14).x;have b14:=(ZC (st:=VP) l14 c14 k14).binds (ps:=["found"]) λ_ _ _ _ _ _ us hl=>match us,hl with|[_],_=>rfl
 have F15:FunX K "_law_row" "_law_row" VQ f15 _:=(ZC (st:=VQ) l15 c15 k15).x;have b15:=(ZC (st:=VQ) l15 c15 k15).binds (ps:=["found", "many"]) λ_ _ _ _ _ _ us hl=>match us,hl with|[_,_],_=>rfl
 have F16:FunX K "_law_signed" "_law_signed" VR f16 _:=(ZC (st:=VR) l16 c16 k16).x;have b16:=(ZC (st:=VR) l16 c16 k16).binds (ps:=["table", "columns"]) λ_ _ _ _ _ _ us hl=>match us,hl with|[_,_],_=>rfl
 have F17:FunX K "_law_product" "_law_product" VU f17 _:=(ZC (st:=VU) l17 c17 k17).x;have b17:=(ZC (st:=VU) l17 c17 k17).binds (ps:=["table"]) λ_ _ _ _ _ _ us hl=>match us,hl with|[_],_=>rfl
 have F18:FunX K "_law_slow" "_law_slow" Vm f18 _:=(ZC (st:=Vm) l18 c18 k18).x;have b18:=(ZC (st:=Vm) l18 c18 k18).binds (ps:=["table", "n"]) λ_ _ _ _ _ _ us hl=>match us,hl with|[_,_],_=>rfl
 have F19:FunX K "_law_alone" "_law_alone" VV f19 _:=(ZC (st:=VV) l19 c19 k19).x;have b19:=(ZC (st:=VV) l19 c19 k19).binds (ps:=["numbers"]) λ_ _ _ _ _ _ us hl=>match us,hl with|[_],_=>rfl
 have F20:FunX K "_law_pressed" "_law_pressed" Vn f20 _:=(ZC (st:=Vn) l20 c20 k20).x;have b20:=(ZC (st:=Vn) l20 c20 k20).binds (ps:=["table", "n", "found"]) λ_ _ _ _ _ _ us hl=>match us,hl with|[_,_,_],_=>rfl
 have F21:FunX K "_law_entry" "_law_entry" VY f21 _:=(ZC (st:=VY) l21 c21 k21).x;have b21:=(ZC (st:=VY) l21 c21 k21).binds (ps:=["number"]) λ_ _ _ _ _ _ us hl=>match us,hl with|[_],_=>rfl
 have F22:FunX K "_law_gathered" "_law_gathered" VZ f22 _:=(ZC (st:=VZ) l22 c22 k22).x;have b22:=(ZC (st:=VZ) l22 c22 k22).binds (ps:=["script", "many"]) λ_ _ _ _ _ _ us hl=>match us,hl with|[_,_],_=>rfl
 have F23:FunX K "_law_wish" "_law_wish" Vo f23 _:=(ZC (st:=Vo) l23 c23 k23).x;have b23:=(ZC (st:=Vo) l23 c23 k23).binds (ps:=["cell", "table"]) λ_ _ _ _ _ _ us hl=>match us,hl with|[_,_],_=>rfl
 have F24:FunX K "_law_shrunk" "_law_shrunk" V0 f24 _:=(ZC (st:=V0) l24 c24 k24).x;have b24:=(ZC (st:=V0) l24 c24 k24).binds (ps:=["table", "n", "weights"]) λ_ _ _ _ _ _ us hl=>match us,hl with|[_,_,_],_=>rfl
 have F25:FunX K "_law_rounds" "_law_rounds" V1 f25 _:=(ZC (st:=V1) l25 c25 k25).x;have b25:=(ZC (st:=V1) l25 c25 k25).binds (ps:=["table", "n", "m"]) λ_ _ _ _ _ _ us hl=>match us,hl with|[_,_,_],_=>rfl
 have F26:FunX K "_law_due" "_law_due" V2 f26 _:=(ZC (st:=V2) l26 c26 k26).x;have b26:=(ZC (st:=V2) l26 c26 k26).binds (ps:=["table", "n", "most"]) λ_ _ _ _ _ _ us hl=>match us,hl with|[_,_,_],_=>rfl
 have F27:FunX K "_law_alike" "_law_alike" V3 f27 _:=(ZC (st:=V3) l27 c27 k27).x;have b27:=(ZC (st:=V3) l27 c27 k27).binds (ps:=["found", "due", "many"]) λ_ _ _ _ _ _ us hl=>match us,hl with|[_,_,_],_=>rfl
 have F28:FunX K "law" "law" Y8 fa _:=(ZC (st:=Y8) l28 c28 k28).x;have b28:=(ZC (st:=Y8) l28 c28 k28).binds (ps:=["script"]) λ_ _ _ _ _ _ us hl=>match us,hl with|[_],_=>rfl
 have T:Txt K mg { a_QA:=f0,d_QA:=_,a_QU:=f1,d_QU:=_,a_QK:=f2,d_QK:=_,a_QR:=f3,d_QR:=_,a_QW:=f4,d_QW:=_,a_QX:=f5,d_QX:=_,a_QH:=f6,d_QH:=_,a_Q0:=f7,d_Q0:=_,a_Q1:=f8,d_Q1:=_,a_QZ:=f9,d_QZ:=_,a_QY:=f10,d_QY:=_,a_QL:=f11,d_QL:=_,a_QV:=f12,d_QV:=_,dv0_verdict := .int 16 tk12_0,a_QF:=f13,d_QF:=_,a_QB:=f14,d_QB:=_,a_QT:=f15,d_QT:=_,a_QJ:=f16,d_QJ:=_,a_QD:=f17,d_QD:=_,a_QQ:=f18,d_QQ:=_,a_QN:=f19,d_QN:=_,a_QE:=f20,d_QE:=_,a_QM:=f21,d_QM:=_,a_QC:=f22,d_QC:=_,a_QP:=f23,d_QP:=_,a_QG:=f24,d_QG:=_,a_QI:=f25,d_QI:=_,a_QS:=f26,d_QS:=_,a_QO:=f27,d_QO:=_,a_Q2:=fa,d_Q2:=_ }:={ f_QA:=F0,b_QA:=b0,g_QA:=mg_of X G a0,k_QA:=k0,f_QU:=F1,b_QU:=b1,g_QU:=mg_of X G a1,k_QU:=k1,f_QK:=F2,b_QK:=b2,g_QK:=mg_of X G a2,k_QK:=k2,f_QR:=F3,b_QR:=b3,g_QR:=mg_of X G a3,k_QR:=k3,f_QW:=F4,b_QW:=b4,g_QW:=mg_of X G a4,k_QW:=k4,f_QX:=F5,b_QX:=b5,g_QX:=mg_of X G a5,k_QX:=k5,f_QH:=F6,b_QH:=b6,g_QH:=mg_of X G a6,k_QH:=k6,f_Q0:=F7,b_Q0:=b7,g_Q0:=mg_of X G a7,k_Q0:=k7,f_Q1:=F8,b_Q1:=b8,g_Q1:=mg_of X G a8,k_Q1:=k8,f_QZ:=F9,b_QZ:=b9,g_QZ:=mg_of X G a9,k_QZ:=k9,f_QY:=F10,b_QY:=b10,g_QY:=mg_of X G a10,k_QY:=k10,f_QL:=F11,b_QL:=b11,g_QL:=mg_of X G a11,k_QL:=k11,f_QV:=F12,b_QV:=b12_0,b1_verdict:=b12_1,dr0_verdict:=⟨_,rfl⟩,g_QV:=mg_of X G a12,k_QV:=k12,f_QF:=F13,b_QF:=b13,g_QF:=mg_of X G a13,k_QF:=k13,f_QB:=F14,b_QB:=b14,g_QB:=mg_of X G a14,k_QB:=k14,f_QT:=F15,b_QT:=b15,g_QT:=mg_of X G a15,k_QT:=k15,f_QJ:=F16,b_QJ:=b16,g_QJ:=mg_of X G a16,k_QJ:=k16,f_QD:=F17,b_QD:=b17,g_QD:=mg_of X G a17,k_QD:=k17,f_QQ:=F18,b_QQ:=b18,g_QQ:=mg_of X G a18,k_QQ:=k18,f_QN:=F19,b_QN:=b19,g_QN:=mg_of X G a19,k_QN:=k19,f_QE:=F20,b_QE:=b20,g_QE:=mg_of X G a20,k_QE:=k20,f_QM:=F21,b_QM:=b21,g_QM:=mg_of X G a21,k_QM:=k21,f_QC:=F22,b_QC:=b22,g_QC:=mg_of X G a22,k_QC:=k22,f_QP:=F23,b_QP:=b23,g_QP:=mg_of X G a23,k_QP:=k23,f_QG:=F24,b_QG:=b24,g_QG:=mg_of X G a24,k_QG:=k24,f_QI:=F25,b_QI:=b25,g_QI:=mg_of X G a25,k_QI:=k25,f_QS:=F26,b_QS:=b26,g_QS:=mg_of X G a26,k_QS:=k26,f_QO:=F27,b_QO:=b27,g_QO:=mg_of X G a27,k_QO:=k27,f_Q2:=F28,b_Q2:=b28,g_Q2:=mg_of X G a28,k_Q2:=k28,n_abs:=mg_none_of X G Zln,n_bool:=mg_none_of X G Zlo,n_enumerate:=mg_none_of X G Zlp,n_int:=mg_none_of X G Zlq,n_isinstance:=mg_none_of X G Zlr,n_len:=mg_none_of X G Zls,n_list:=mg_none_of X G Zlt,n_max:=mg_none_of X G Zlu,n_min:=mg_none_of X G Zlv,n_range:=mg_none_of X G Zlw,n_str:=mg_none_of X G Zlx,n_sum:=mg_none_of X G Zly,n_tuple:=mg_none_of X G Zlz,n_zip:=mg_none_of X G ZlA,isi_bool:=QN (by intro p hp;simp only [J9,List.mem_cons,List.mem_nil_iff,or_false]at hp;rcases hp with rfl|rfl|rfl|rfl|rfl|rfl<;>first|exact ZkT|exact ZkY|exact Zk3|exact Zld|exact Zk8|exact Zli),isi_int:=QN (by intro p hp;simp only [ZbS,List.mem_cons,List.mem_nil_iff,or_false]at hp;rcases hp with rfl|rfl|rfl|rfl|rfl|rfl<;>first|exact ZkU|exact ZkZ|exact Zk4|exact Zle|exact Zk9|exact Zlj),isi_list:=QN (by intro p hp;simp only [Qc,List.mem_cons,List.mem_nil_iff,or_false]at hp;rcases hp with rfl|rfl|rfl|rfl|rfl|rfl<;>first|exact ZkV|exact Zk0|exact Zk5|exact Zlf|exact Zla|exact Zlk),isi_str:=QN (by intro p hp;simp only [ZbT,List.mem_cons,List.mem_nil_iff,or_false]at hp;rcases hp with rfl|rfl|rfl|rfl|rfl|rfl<;>first|exact ZkW|exact Zk1|exact Zk6|exact Zlg|exact Zlb|exact Zll),isi_tuple:=QN (by intro p hp;simp only [Zaq,List.mem_cons,List.mem_nil_iff,or_false]at hp;rcases hp with rfl|rfl|rfl|rfl|rfl|rfl<;>first|exact ZkX|exact Zk2|exact Zk7|exact Zlh|exact Zlc|exact Zlm) }
 exact⟨fnOf "law" "law" (defArgs Y8) (defBody Y8) (defScope Y8) .none kV28 dc28 pm28 an28 cd28 ct28,λs v => .of_eq rfl,λbase _ _=>ZhQ hall T⟩
theorem walk {l:PySem.W.OpenLaw} {q:Program} {loose:List Str} {XP:(Str->Option Value)->Heap->Prop} {YP:World->Heap->Prop} {d:DefRec} {K:Params->PySem.W.Frag} (hn:l.most=some 63) (hdf:d.params.defaults=[])
 (hY:∀(w:World)(h:Heap),YP w h->(K w.params).In h)
 (F:∀(w:World)(mg:Str->Option Value)(fa:Addr)(h:Heap),(K w.params).In h->h.Ns mainGlobals mg->mg d.name=some (.ref fa) ->
   ∃fd:FuncData,(∀(s:Shared)(u:Value),BindsTo s fd ⟨[u],[]⟩ [("script",u)])/\∀base:Heap,(K w.params).In base->base.Ns mainGlobals mg->FnOk l.prog w (K w.params) mg base CX0 11 fa fd ["script"] (Zen (K w.params))) :
 PySem.W.WalkO q loose XP YP l.row.toRowW d [] (λf vs=>PySem.call f vs):=
 L2.walk_of (n:=63) (k:=11) (x:="script") (CX:=λ_=>CX0) (sp:=λw=>Zen (K w.params)) hn (by decide) hdf ⟨rfl,by decide,by decide⟩ hY F (λ_ _ a ns hl _ hS=>⟨a,ns,rfl,hS,hl,λ_=>rfl⟩) λ_ _ _ _ _ z=>z
end K30
open PySem PySem.W PyProof.Rows
set_option maxRecDepth 100000 in
set_option maxHeartbeats 0 in
theorem PySem.Challenge.cw_grooveway_k30_whole_verdict_holds : PySem.Challenge.rw_grooveway_k30_whole_verdict.Holds := by
 w_on;o_law
 refine holds_open (r:=PySem.Challenge.rw_grooveway_k30_whole_verdict.row) (q:=(view PySem.Challenge.pw_grooveway_k30_whole_verdict [1,2,3,4,5,6,8,9,10,11,12,13,16,17,18,19,20,21,22,23,24,25,26,27,28,29,30,31])) (loose:=["verdict"]) (XP:=XL (view PySem.Challenge.pw_grooveway_k30_whole_verdict [1,2,3,4,5,6,8,9,10,11,12,13,16,17,18,19,20,21,22,23,24,25,26,27,28,29,30,31]) []) (YP:=InK K30.kP) K30.left (InK.of K30.kP_as) InK.keeps (λs e=>xl_of s (Bool.and_eq_true_iff.mp e).1) XL.keeps (by rfl) (by rfl) (by rfl) (λs e=>recFacts_of (Bool.and_eq_true_iff.mp e).2) (by rfl) (by assumption) (by decide +kernel) ⟨rfl,rfl,rfl,rfl,rfl,by decide +kernel⟩ ?hw ?hc
 case hw=>w_witness2
 k_fill
 refine K30.walk (l:=PySem.Challenge.rw_grooveway_k30_whole_verdict) rfl rfl (λw h Y=>Y) ?F
 case F=>
  intro w mg fa h KX G hmg;refine' K30.all_mk K30.all_true KX G hmg ?a0 ?l0 ?c0 ?k0 ?a1 ?l1 ?c1 ?k1 ?a2 ?l2 ?c2 ?k2 ?a3 ?l3 ?c3 ?k3 ?a4 ?l4 ?c4 ?k4 ?a5 ?l5 ?c5 ?k5 ?a6 ?l6 ?c6 ?k6 ?a7 ?l7 ?c7 ?k7 ?a8 ?l8 ?c8 ?k8 ?a9 ?l9 ?c9 ?k9 ?a10 ?l10 ?c10 ?k10 ?a11 ?l11 ?c11 ?k11 ?a12 ?l12 ?c12 ?k12 ?y12 ?yd12 ?a13 ?l13 ?c13 ?k13 ?a14 ?l14 ?c14 ?k14 ?a15 ?l15 ?c15 ?k15 ?a16 ?l16 ?c16 ?k16 ?a17 ?l17 ?c17 ?k17 ?a18 ?l18 ?c18 ?k18 ?a19 ?l19 ?c19 ?k19 ?a20 ?l20 ?c20 ?k20 ?a21 ?l21 ?c21 ?k21 ?a22 ?l22 ?c22 ?k22 ?a23 ?l23 ?c23 ?k23 ?a24 ?l24 ?c24 ?k24 ?a25 ?l25 ?c25 ?k25 ?a26 ?l26 ?c26 ?k26 ?a27 ?l27 ?c27 ?k27 ?a28 ?l28 ?c28 ?k28 ?Zln ?Zlo ?Zlp ?Zlq ?Zlr ?Zls ?Zlt ?Zlu ?Zlv ?Zlw ?Zlx ?Zly ?Zlz ?ZlA ?ZkT ?ZkY ?Zk3 ?Zld ?Zk8 ?Zli ?ZkU ?ZkZ ?Zk4 ?Zle ?Zk9 ?Zlj ?ZkV ?Zk0 ?Zk5 ?Zlf ?Zla ?Zlk ?ZkW ?Zk1 ?Zk6 ?Zlg ?Zlb ?Zll ?ZkX ?Zk2 ?Zk7 ?Zlh ?Zlc ?Zlm
  (case a0|l0|c0|k0|a1|l1|c1|k1|a2|l2|c2|k2|a3|l3|c3|k3|a4|l4|c4|k4|a5|l5|c5|k5|a6|l6|c6|k6|a7|l7|c7|k7|a8|l8|c8|k8|a9|l9|c9|k9|a10|l10|c10|k10|a11|l11|c11|k11|a12|l12|c12|k12|y12=>k_is)
  (case yd12=>rfl)
  (case a13|l13|c13|k13|a14|l14|c14|k14|a15|l15|c15|k15|a16|l16|c16|k16|a17|l17|c17|k17|a18|l18|c18|k18|a19|l19|c19|k19|a20|l20|c20|k20|a21|l21|c21|k21|a22|l22|c22|k22|a23|l23|c23|k23|a24|l24|c24|k24|a25|l25|c25|k25|a26|l26|c26|k26|a27|l27|c27|k27|a28|l28|c28|k28|Zln|Zlo|Zlp|Zlq|Zlr|Zls|Zlt|Zlu|Zlv|Zlw|Zlx|Zly|Zlz|ZlA=>k_is)
  (case ZkT|ZkY|Zk3|Zld|Zk8|Zli|ZkU|ZkZ|Zk4|Zle|Zk9|Zlj|ZkV|Zk0|Zk5|Zlf|Zla|Zlk|ZkW|Zk1|Zk6|Zlg|Zlb|Zll|ZkX|Zk2|Zk7|Zlh|Zlc|Zlm=>kit_is)
